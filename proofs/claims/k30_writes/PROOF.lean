import PyProof.Rows.All
import Wide.All
import OpenK.AllK
import Wide.FinOn
import PyProof.EqAt
import PyProof.EqKinds
import PyProof.NeKinds
import PyProof.TupleCall
import PyProof.ExcBaseAll.ValueError
import PyProof.NsDelKeeps
import PyProof.Rows.FStr
import PyProof.Rows.Range3
import KE.KIntText
import KE.KDictList
import KE.KDictSum
import KE.KPairComp
import PyProof.DictItems
import Lean
import PySem.Challenge.RW_fencegate_k30_writes
set_option Elab.async false
set_option linter.all false
set_option maxRecDepth 100000
set_option maxHeartbeats 4000000
section
namespace L2
open PySem PySem.Spec PyProof.Rows
abbrev Key := Sum Int Str
def zb4 : Key → Value → Bool
 | .inl k, v => Value.isInt k v
 | .inr x, v => Value.isStrOf x v
def keyH (w : World) : Key → Int
 | .inl k => hashInt k
 | .inr x => hashStr w x
theorem z1e : ∀ {k : Key} {v : Value}, zb4 k v = true → (∃ i t, k = Sum.inl i ∧ v = Value.int i t) ∨ (∃ x t, k = Sum.inr x ∧ v = Value.str x t)
 | .inl i, v, h => by
  obtain ⟨t, e⟩ := Value.isInt_shape (k := i) (v := v) h
  exact .inl ⟨i, t, rfl, e⟩
 | .inr x, v, h => by
  obtain ⟨t, e⟩ := Value.isStrOf_shape (x := x) (v := v) h
  exact .inr ⟨x, t, rfl, e⟩
theorem zbt (a b : Int) : decide ((Sum.inl a : Key) = Sum.inl b) = (a == b) := by
 by_cases e : a = b
 ·subst e; simp
 ·have h : ¬ (Sum.inl a : Key) = Sum.inl b := fun q => e (Sum.inl.inj q)
  rw [decide_eq_false h]
  exact (beq_eq_false_iff_ne.mpr e).symm
theorem zbu (a b : Str) : decide ((Sum.inr a : Key) = Sum.inr b) = decide (a = b) := by
 by_cases e : a = b
 ·subst e; simp
 ·have h : ¬ (Sum.inr a : Key) = Sum.inr b := fun q => e (Sum.inr.inj q)
  rw [decide_eq_false h, decide_eq_false e]
theorem zbv (a : Int) (b : Str) : decide ((Sum.inl a : Key) = Sum.inr b) = false := decide_eq_false (fun q => nomatch q)
theorem zbw (a : Str) (b : Int) : decide ((Sum.inr a : Key) = Sum.inl b) = false := decide_eq_false (fun q => nomatch q)
def z87 (prog : Program) (w : World) : PySem.KeyKind prog w Key where
 is := zb4
 hash := keyH w
 inj := fun v a b ha hb => by
  rcases z1e ha with ⟨i, t, rfl, rfl⟩ | ⟨x, t, rfl, rfl⟩
  ·rcases z1e hb with ⟨j, u, rfl, e⟩ | ⟨y, u, rfl, e⟩
   ·injection e with e1 _; rw [e1]
   ·exact nomatch e
  ·rcases z1e hb with ⟨j, u, rfl, e⟩ | ⟨y, u, rfl, e⟩
   ·exact nomatch e
   ·injection e with e1 _; rw [e1]
 byValue := fun k v h => by
  rcases z1e h with ⟨i, t, rfl, rfl⟩ | ⟨x, t, rfl, rfl⟩ <;> rfl
 pyHash := fun hv h => by
  rcases z1e hv with ⟨i, t, rfl, rfl⟩ | ⟨x, t, rfl, rfl⟩
  ·exact wpAny_pyHash_int h
  ·exact wpAny_pyHash_str h
 eqBool := fun hu hv h => by
  rcases z1e hu with ⟨i, t, rfl, rfl⟩ | ⟨x, t, rfl, rfl⟩
  ·rcases z1e hv with ⟨j, u, rfl, rfl⟩ | ⟨y, u, rfl, rfl⟩
   ·rw [zbt] at h; exact wpAny_eqBool_int h
   ·rw [zbv] at h; exact SeqAt.EqAt.int_str i t y u _ _ _ _ h
  ·rcases z1e hv with ⟨j, u, rfl, rfl⟩ | ⟨y, u, rfl, rfl⟩
   ·rw [zbw] at h; exact SeqAt.EqAt.str_int x t j u _ _ _ _ h
   ·rw [zbu] at h; exact wpAny_eqBool_str h
 «strs» := fun k x t v h => by
  rcases z1e h with ⟨i, u, rfl, e⟩ | ⟨y, u, rfl, e⟩
  ·exact nomatch e
  ·injection e with e1 _
   subst e1
   cases v <;> rfl
end L2
namespace L2
open PySem PySem.Spec PyProof.Rows
inductive V where
 | non | bl (b : Bool) | int (i : Int) | str (x : Str) | byt (b : Array UInt8) | flt (b : UInt64) | ref (a : Addr) | ty (n : String)
 deriving DecidableEq
def RelV : V → Value → Prop
 | .non, u => u = Value.none
 | .bl b, u => u = Value.bool b
 | .int i, u => ∃ t, u = Value.int i t
 | .str x, u => ∃ t, u = Value.str x t
 | .byt b, u => ∃ t, u = Value.bytes b t
 | .flt b, u => ∃ t, u = Value.float b t
 | .ref a, u => u = Value.ref a
 | .ty n, u => u = Value.type n
abbrev Vals : List V → List Value → Prop := Paired RelV
theorem Vals.length {xs : List V} {us : List Value} (r : Vals xs us) : xs.length = us.length := Paired.length r
theorem Vals.get : ∀ {xs : List V} {us : List Value} {i : Nat} {x : V}, Vals xs us → xs[i]? = some x → ∃ u, us[i]? = some u ∧ RelV x u
 | _, _, _, _, .nil, e => by simp at e
 | _, _, 0, _, .cons r _, e => by simp at e; subst e; exact ⟨_, rfl, r⟩
 | _, _, i + 1, x, .cons _ t, e => by
  obtain ⟨u, h1, h2⟩ := Vals.get (i := i) (x := x) t (by simpa using e)
  exact ⟨u, by simpa using h1, h2⟩
theorem Vals.set {x : V} {u : Value} (r : RelV x u) : ∀ {xs : List V} {us : List Value} (i : Nat), Vals xs us → Vals (xs.set i x) (us.set i u)
 | _, _, _, .nil => .nil
 | _, _, 0, .cons _ t => .cons r t
 | _, _, i + 1, .cons q t => .cons q (Vals.set r i t)
theorem Vals.append : ∀ {xs ys : List V} {us ws : List Value}, Vals xs us → Vals ys ws → Vals (xs ++ ys) (us ++ ws)
 | _, _, _, _, .nil, s => s
 | _, _, _, _, .cons r t, s => .cons r (Vals.append t s)
theorem Vals.take : ∀ {xs : List V} {us : List Value} (n : Nat), Vals xs us → Vals (xs.take n) (us.take n)
 | _, _, 0, _ => .nil
 | _, _, _ + 1, .nil => .nil
 | _, _, n + 1, .cons r t => .cons r (Vals.take n t)
theorem Vals.drop : ∀ {xs : List V} {us : List Value} (n : Nat), Vals xs us → Vals (xs.drop n) (us.drop n)
 | _, _, 0, r => r
 | _, _, _ + 1, .nil => .nil
 | _, _, n + 1, .cons _ t => Vals.drop n t
def RelO : Option V → Option Value → Prop
 | some v, some u => RelV v u
 | none, none => True
 | _, _ => False
def KV {κ : Type} : List (κ × V) → List (κ × Value) → Prop := Paired fun (p : κ × V) (q : κ × Value) => p.1 = q.1 ∧ RelV p.2 q.2
def kV : Key → V
 | .inl i => .int i
 | .inr x => .str x
inductive HO where
 | lst (xs : List V)
 | tup (xs : List V)
 | dK (kvs : List (Key × V)) | dT (kvs : List (List Key × V))
 | set (S : Int → Bool) (n : Nat)
 | ins (C dx : Addr) (fs : List (Str × V))
 | own (x : Addr)
 | xd (fs : List (Str × V))
 | met (f x : Addr)
 | rng (lo hi : Int)
 | frz (o : Obj) (u : HO)
 | tbl (ps : Array Value)
 | ext (φ : Heap → Prop)
abbrev Hp := Addr → Option HO
def upd (H : Hp) (a : Addr) (o : HO) : Hp := fun b => if b = a then some o else H b
theorem za {H : Hp} {a : Addr} {o : HO} : upd H a o a = some o := by unfold upd; rw [if_pos rfl]
theorem zc {H : Hp} {a b : Addr} {o : HO} (h : b ≠ a) : upd H a o b = H b := by unfold upd; rw [if_neg h]
theorem zf {H : Hp} {a b : Addr} {o : HO} (h : H a = some o) (h' : H b = none) : a ≠ b := by
 intro e; subst e; rw [h] at h'; cases h'
section
variable (P : Program) (w : World)
def ObjOk (H : Hp) (h : Heap) (a : Addr) : HO → Prop
 | .lst xs => xs.length ≤ sizeLine ∧ ∃ (its : List Value) (n : Nat), Vals xs its ∧ h.get? a = some { cls := .type "list", data := .seq its.toArray n }
 | .tup xs => xs.length ≤ sizeLine ∧ ∃ its : List Value, Vals xs its ∧ IsTup h a its.toArray
 | .dK kvs => kvs.length ≤ sizeLine ∧ (a == sysModules) = false ∧ ∃ vs, KV kvs vs ∧ h.DictOf (z87 P w) a vs
 | .dT kvs => kvs.length ≤ sizeLine ∧ (a == sysModules) = false ∧ ∃ xs : List (List Key × Addr × Value),
   Paired (fun (p : List Key × V) (q : List Key × Addr × Value) => p.1 = q.1 ∧ H q.2.1 = some (.tup (p.1.map kV)) ∧ RelV p.2 q.2.2) kvs xs ∧
   ∃ o es ep, h.get? a = some o ∧ o.ExactDict ∧ o.data = .dict es ep ∧ es.toList = xs.map (entryOfKey (tupleKind (z87 P w))) ∧ (xs.map (·.1)).Nodup
 | .set S n => h.SetOf (intKind P w) a S n
 | .ins C dx fs => H dx = some (.own a) ∧ fs.length ≤ 1000 ∧ dx ≠ a ∧ h.get? a = some (PySem.W.instObj C dx) ∧
   ∃ mA, h.Ns1 dx mA ∧ (∀ f, RelO (fs.lookup f) (mA f)) ∧ PySem.Within mA (fs.map (·.1))
 | .own _ => ∃ o, h.get? a = some o
 | .xd fs => ∃ mA, h.Ns1 a mA ∧ ∀ f, RelO (fs.lookup f) (mA f)
 | .rng lo hi => ∃ t u v, h.get? a = some { cls := .type "range", data := .fields #[.int lo t, .int hi u, .int 1 v] }
 | .frz o u => h.get? a = some o ∧ ObjOk H h a u
 | .tbl ps => h.get? a = some { cls := .none, data := .fields ps }
 | .met f x => h.get? a = some (PySem.W.methodObj (.ref f) (.ref x))
 | .ext φ => φ h ∧ (∃ o, h.get? a = some o) ∧ ∀ h1 h2 : Heap, φ h1 → (∀ o, h1.get? a = some o → h2.get? a = some o) → φ h2
def HOk (H : Hp) (h : Heap) : Prop := ∀ a o, H a = some o → ObjOk P w H h a o
end
section
variable {P : Program} {w : World} {H H' : Hp} {h h' : Heap} {a : Addr} {o : HO}
theorem ObjOk.lt (x : ObjOk P w H h a o) : a < h.objs.size := by
 cases o with
 | lst xs => obtain ⟨_, _, _, _, e⟩ := x; exact Heap.lt_size e
 | tup xs => obtain ⟨_, _, _, p⟩ := x; exact p.lt
 | dK kvs => obtain ⟨_, _, _, _, o, _, _, e, _⟩ := x; exact Heap.lt_size e
 | dT kvs => obtain ⟨_, _, _, _, o, _, _, e, _⟩ := x; exact Heap.lt_size e
 | set S n => obtain ⟨o, _, _, _, e, _⟩ := x; exact Heap.lt_size e
 | ins C dx fs => obtain ⟨_, _, _, e, _⟩ := x; exact Heap.lt_size e
 | own y => obtain ⟨_, e⟩ := x; exact Heap.lt_size e
 | xd fs => obtain ⟨_, ⟨_, _, _, e, _⟩, _⟩ := x; exact Heap.lt_size e
 | rng lo hi => obtain ⟨_, _, _, e⟩ := x; exact Heap.lt_size e
 | frz ob u => obtain ⟨e, _⟩ := x; exact Heap.lt_size e
 | tbl ps => exact Heap.lt_size (show h.get? a = some _ from x)
 | met f y => exact Heap.lt_size (show h.get? a = some _ from x)
 | ext φ => obtain ⟨_, ⟨_, e⟩, _⟩ := x; exact Heap.lt_size e
theorem Paired.mapP {α β : Type} {F G : α → β → Prop} : ∀ {l₁ : List α} {l₂ : List β}, Paired F l₁ l₂ → (∀ a b, F a b → G a b) → Paired G l₁ l₂
 | _, _, .nil, _ => .nil
 | _, _, .cons r t, f => .cons (f _ _ r) (Paired.mapP t f)
theorem ObjOk.stay (x : ObjOk P w H h a o) (k : ∀ b u, (b = a ∨ H b = some (.own a)) → h.get? b = some u → h'.get? b = some u)
  (ho : ∀ b, H b = some (.own a) → H' b = some (.own a)) (ht : ∀ b xs, H b = some (.tup xs) → H' b = some (.tup xs)) : ObjOk P w H' h' a o := by
 induction o with
 | lst xs => obtain ⟨z, its, n, r, e⟩ := x; exact ⟨z, its, n, r, k _ _ (.inl rfl) e⟩
 | tup xs => obtain ⟨z, its, r, ob, e, c⟩ := x; exact ⟨z, its, r, ob, k _ _ (.inl rfl) e, c⟩
 | dK kvs => obtain ⟨z, y, vs, r, ob, es, ep, e, c⟩ := x; exact ⟨z, y, vs, r, ob, es, ep, k _ _ (.inl rfl) e, c⟩
 | dT kvs =>
  obtain ⟨z, y, xs, r, ob, es, ep, e, c⟩ := x
  exact ⟨z, y, xs, Paired.mapP r fun p q z => ⟨z.1, ht _ _ z.2.1, z.2.2⟩, ob, es, ep, k _ _ (.inl rfl) e, c⟩
 | set S n => obtain ⟨ob, es, ep, t, e, c⟩ := x; exact ⟨ob, es, ep, t, k _ _ (.inl rfl) e, c⟩
 | ins C dx fs =>
  obtain ⟨d, z, ne, e, mA, ⟨od, es, ep, e2, c⟩, r⟩ := x
  exact ⟨ho _ d, z, ne, k _ _ (.inl rfl) e, mA, ⟨od, es, ep, k _ _ (.inr d) e2, c⟩, r⟩
 | own y => obtain ⟨ob, e⟩ := x; exact ⟨ob, k _ _ (.inl rfl) e⟩
 | xd fs => obtain ⟨mA, ⟨od, es, ep, e, c⟩, r⟩ := x; exact ⟨mA, ⟨od, es, ep, k _ _ (.inl rfl) e, c⟩, r⟩
 | rng lo hi => obtain ⟨t, u, v, e⟩ := x; exact ⟨t, u, v, k _ _ (.inl rfl) e⟩
 | frz ob u ih => obtain ⟨e, q⟩ := x; exact ⟨k _ _ (.inl rfl) e, ih q⟩
 | tbl ps =>
  have e : h.get? a = some { cls := .none, data := .fields ps } := x
  show h'.get? a = some { cls := .none, data := .fields ps }
  exact k a _ (.inl rfl) e
 | met f y =>
  have e : h.get? a = some (PySem.W.methodObj (.ref f) (.ref y)) := x
  show h'.get? a = some (PySem.W.methodObj (.ref f) (.ref y))
  exact k a _ (.inl rfl) e
 | ext φ => obtain ⟨p, ⟨o, e⟩, st⟩ := x; exact ⟨st _ _ p fun o q => k _ _ (.inl rfl) q, ⟨o, k _ _ (.inl rfl) e⟩, st⟩
theorem HOk.lt (x : HOk P w H h) (e : H a = some o) : a < h.objs.size := (x a o e).lt
theorem HOk.fresh (x : HOk P w H h) (e : h.objs.size ≤ a) : H a = none := by
 cases q : H a with
 | none => rfl
 | some u => exact absurd (Nat.lt_of_lt_of_le (x.lt q) e) (Nat.lt_irrefl _)
theorem HOk.kept (x : HOk P w H h) (k : ∀ b u, h.get? b = some u → h'.get? b = some u) : HOk P w H h' := fun a o e =>
 (x a o e).stay (fun b u _ q => k b u q) (fun _ q => q) fun _ _ q => q
theorem HOk.laid (x : HOk P w H h) (k : ∀ b u, h.get? b = some u → h'.get? b = some u) (hp : h.objs.size ≤ a) (new : ObjOk P w (upd H a o) h' a o) : HOk P w (upd H a o) h' := fun b u e => by
 have hn := x.fresh hp
 by_cases hb : b = a
 ·subst hb; rw [za] at e; cases e; exact new
 ·rw [zc hb] at e
  exact (x b u e).stay (fun c v _ q => k c v q) (fun c q => by rw [zc (zf q hn)]; exact q) fun c xs q => by rw [zc (zf q hn)]; exact q
end
def Rd (H : Hp) (a : Addr) (u : HO) : Prop := H a = some u ∨ ∃ o, H a = some (.frz o u)
theorem Rd.of {H : Hp} {a : Addr} {u : HO} (h : H a = some u) : Rd H a u := .inl h
theorem Rd.ok {P : Program} {w : World} {H : Hp} {h : Heap} {a : Addr} {u : HO} (r : Rd H a u) (x : HOk P w H h) : ObjOk P w H h a u := by
 rcases r with r | ⟨o, r⟩
 ·exact x a u r
 ·obtain ⟨_, q⟩ := x a _ r
  exact q
def Mut : Option HO → Prop
 | some (.lst _) => True
 | some (.dK _) => True
 | some (.dT _) => True
 | some (.set _ _) => True
 | some (.ins _ _ _) => True
 | some (.ext _) => True
 | _ => False
section
variable {P : Program} {w : World} {H : Hp} {h h' : Heap} {x e : Addr} {o' : HO}
theorem HOk.write (ok : HOk P w H h) (mu : Mut (H x)) (he : e = x ∨ H e = some (.own x)) (k : ∀ b u, b ≠ e → h.get? b = some u → h'.get? b = some u) (heo : ∃ u, h'.get? e = some u)
  (new : ObjOk P w (upd H x o') h' x o') : HOk P w (upd H x o') h' := fun b u q => by
 have nown : ∀ c y, H c = some (.own y) → c ≠ x := fun c y r z => by subst z; rw [r] at mu; exact mu
 have ntup : ∀ c xs, H c = some (.tup xs) → c ≠ x := fun c xs r z => by subst z; rw [r] at mu; exact mu
 by_cases hb : b = x
 ·subst hb; rw [za] at q; cases q; exact new
 ·rw [zc hb] at q
  by_cases hbe : b = e
  ·have q' : H b = some (.own x) := by
    rcases he with z | z
    ·exact absurd (hbe.trans z) hb
    ·rw [hbe]; exact z
   rw [q] at q'; cases q'
   obtain ⟨v, hv⟩ := heo
   exact ⟨v, by rw [hbe]; exact hv⟩
  ·refine (ok b u q).stay (fun c v hc r => k c v ?_ r) (fun c r => by rw [zc (nown c b r)]; exact r) fun c xs r => by rw [zc (ntup c xs r)]; exact r
   rcases hc with rfl | hc
   ·exact hbe
   ·rintro rfl
    rcases he with z | z
    ·exact nown c b hc z
    ·rw [hc] at z; cases z; exact hb rfl
end
structure Un (fs ex : List Addr) (H H' : Hp) (h h' : Heap) : Prop where
 keep : ∀ b o, h.get? b = some o → H b = none → b ∉ fs → b ∉ ex → h'.get? b = some o
 slot : ∀ b o, h.get? b = some o → H b = none → b ∈ fs → b ∉ ex → ∃ sl, h'.get? b = some { o with slots := sl }
 free : ∀ b o, h.get? b = some o → H b = none → b ∉ ex → H' b = none
 there : ∀ b o, h.get? b = some o → b ∉ ex → ∃ o', h'.get? b = some o'
 tups : ∀ b xs, H b = some (.tup xs) → H' b = some (.tup xs)
 frzs : ∀ b o u, H b = some (.frz o u) → H' b = some (.frz o u)
 tbls : ∀ b ps, H b = some (.tbl ps) → ∃ more, H' b = some (.tbl (ps ++ more))
section
variable {fs fs' ex ex' : List Addr} {H H1 H2 : Hp} {h h1 h2 h' : Heap} {a x e : Addr} {o : HO}
theorem Un.any (u : Un fs ex H H1 h h1) {b : Addr} {ob : Obj} (q : h.get? b = some ob) (n : H b = none) (hx : b ∉ ex) : ∃ sl, h1.get? b = some { ob with slots := sl } := by
 by_cases hb : b ∈ fs
 ·exact u.slot b ob q n hb hx
 ·exact ⟨ob.slots, u.keep b ob q n hb hx⟩
theorem Un.trans (a : Un fs ex H H1 h h1) (b : Un fs ex H1 H2 h1 h2) : Un fs ex H H2 h h2 where
 keep := fun c ob q n hc hx => b.keep c ob (a.keep c ob q n hc hx) (a.free c ob q n hx) hc hx
 slot := fun c ob q n hc hx => by
  obtain ⟨sl, e1⟩ := a.slot c ob q n hc hx
  obtain ⟨sl', e2⟩ := b.slot c _ e1 (a.free c ob q n hx) hc hx
  exact ⟨sl', e2⟩
 free := fun c ob q n hx => by
  obtain ⟨o', e1⟩ := a.there c ob q hx
  exact b.free c o' e1 (a.free c ob q n hx) hx
 there := fun c ob q hx => by
  obtain ⟨o', e1⟩ := a.there c ob q hx
  exact b.there c o' e1 hx
 tups := fun c xs q => b.tups c xs (a.tups c xs q)
 frzs := fun c ob xs q => b.frzs c ob xs (a.frzs c ob xs q)
 tbls := fun c ps q => by
  obtain ⟨m1, e1⟩ := a.tbls c ps q
  obtain ⟨m2, e2⟩ := b.tbls c _ e1
  exact ⟨m1 ++ m2, by rw [e2, Array.append_assoc]⟩
theorem Un.kept (k : ∀ b u, h.get? b = some u → h'.get? b = some u) : Un fs ex H H h h' :=
 ⟨fun b ob q _ _ _ => k b ob q, fun b ob q _ _ _ => ⟨ob.slots, k b ob q⟩, fun _ _ _ n _ => n, fun b ob q _ => ⟨ob, k b ob q⟩, fun _ _ q => q, fun _ _ _ q => q, fun _ ps q => ⟨#[], by rw [q]; simp⟩⟩
theorem Un.refl : Un fs ex H H h h := Un.kept fun _ _ q => q
theorem Un.laid (k : ∀ b u, h.get? b = some u → h'.get? b = some u) (hp : h.objs.size ≤ a) (hn : H a = none) : Un fs ex H (upd H a o) h h' where
 keep := fun b u q _ _ _ => k b u q
 slot := fun b u q _ _ _ => ⟨u.slots, k b u q⟩
 free := fun b u q n _ => by rw [zc (Nat.ne_of_lt (Nat.lt_of_lt_of_le (Heap.lt_size q) hp))]; exact n
 there := fun b u q _ => ⟨u, k b u q⟩
 tups := fun b xs q => by rw [zc (zf q hn)]; exact q
 frzs := fun b u xs q => by rw [zc (zf q hn)]; exact q
 tbls := fun b ps q => ⟨#[], by rw [zc (zf q hn), q]; simp⟩
theorem Un.write (mu : Mut (H x)) (he : e = x ∨ H e = some (.own x)) (k : ∀ b u, b ≠ e → h.get? b = some u → h'.get? b = some u) (heo : ∃ u, h'.get? e = some u) : Un fs ex H (upd H x o) h h' := by
 have hx : ∀ b, H b = none → b ≠ x := fun b n z => by subst z; rw [n] at mu; exact mu
 have hb : ∀ b, H b = none → b ≠ e := fun b n z => by
  subst z
  rcases he with r | r
  ·exact hx b n r
  ·rw [n] at r; cases r
 have hm : ∀ b u, H b = some u → ¬ Mut (some u) → b ≠ x := fun b u q nm z => by subst z; rw [q] at mu; exact nm mu
 refine ⟨fun b u q n _ _ => k b u (hb b n) q, fun b u q n _ _ => ⟨u.slots, k b u (hb b n) q⟩, fun b u q n _ => by rw [zc (hx b n)]; exact n, fun b u q _ => ?_,
  fun b xs q => by rw [zc (hm b _ q fun z => z)]; exact q, fun b u xs q => by rw [zc (hm b _ q fun z => z)]; exact q, fun b ps q => ⟨#[], by rw [zc (hm b _ q fun z => z), q]; simp⟩⟩
 by_cases hbe : b = e
 ·subst hbe; exact heo
 ·exact ⟨u, k b u hbe q⟩
theorem Un.mono (u : Un fs ex H H1 h h1) (hs : ∀ b ∈ fs, b ∈ fs') (hx : ∀ b ∈ ex, b ∈ ex') : Un fs' ex' H H1 h h1 :=
 ⟨fun b ob q n hb he => u.keep b ob q n (fun z => hb (hs b z)) fun z => he (hx b z), fun _ _ q n _ he => u.any q n fun z => he (hx _ z), fun b ob q n he => u.free b ob q n fun z => he (hx b z), fun b ob q he => u.there b ob q fun z => he (hx b z), u.tups, u.frzs, u.tbls⟩
end
def trk (h : Heap) (H : Hp) : List Addr := (List.range h.objs.size).filter fun a => (H a).isSome
def hidT (h : Heap) (H : Hp) : Heap := PySem.W.hideAll h (trk h H)
theorem z9p (h : Heap) (H : Hp) : (hidT h H).objs.size = h.objs.size := PySem.W.hideAll_size _ _
theorem zaf {h : Heap} {H : Hp} {b : Addr} {o : Obj} (e : h.get? b = some o) (n : H b = none) : (hidT h H).get? b = some o :=
 PySem.W.hideAll_get _ e fun hm => by
  have q : (H b).isSome = true := (List.mem_filter.mp hm).2
  rw [n] at q; simp at q
theorem zbd {h : Heap} {H : Hp} {b : Addr} {o : Obj} (e : (hidT h H).get? b = some o) : h.get? b = some o ∧ H b = none := by
 have e' : h.get? b = some o := PySem.W.of_hideAll (trk h H) e
 refine ⟨e', ?_⟩
 cases q : H b with
 | none => rfl
 | some x =>
  have hm : b ∈ trk h H := List.mem_filter.mpr ⟨List.mem_range.mpr (Heap.lt_size e'), by simp [q]⟩
  have z : (hidT h H).get? b = none := PySem.W.hideAll_none (trk h H) hm
  rw [z] at e; cases e
def z2w (g h : Heap) (L : Addr) : List (Addr × Obj) := (List.range h.objs.size).filterMap fun a => if a = L ∨ (g.get? a).isSome = true then none else (h.get? a).map fun o => (a, o)
theorem z4q {g h : Heap} {L a : Addr} {o : Obj} (h1 : a ≠ L) (h2 : g.get? a = none) (h3 : h.get? a = some o) : (a, o) ∈ z2w g h L :=
 List.mem_filterMap.mpr ⟨a, List.mem_range.mpr (Heap.lt_size h3), by simp [h1, h2, h3]⟩
theorem z5p {g h : Heap} {L : Addr} {p : Addr × Obj} (hp : p ∈ z2w g h L) : p.1 ≠ L ∧ g.get? p.1 = none ∧ h.get? p.1 = some p.2 := by
 obtain ⟨b, _, e⟩ := List.mem_filterMap.mp hp
 split at e
 ·cases e
 ·rename_i hn
  cases q : h.get? b with
  | none => rw [q] at e; simp at e
  | some u =>
   rw [q] at e
   simp only [Option.map_some, Option.some.injEq] at e
   subst e
   refine ⟨fun z => hn (.inl z), ?_, q⟩
   show g.get? b = none
   cases r : g.get? b with
   | none => rfl
   | some v => exact (hn (.inr (by simp [r]))).elim
def rest (g h : Heap) (L d : Addr) : List (Addr × Obj) := (z2w g h L).filter fun p => decide (p.1 ≠ d)
theorem zag {g h : Heap} {L : Addr} : News g L h (z2w g h L) := fun p hp => let ⟨a, b, c⟩ := z5p hp; ⟨c, a, b⟩
end L2
namespace L2
open PySem PySem.Spec PyProof.Rows
structure Mod (K : PySem.W.Frag) (mg : Str → Option Value) (base : Heap) : Prop where
 kin : K.In base
 glob : base.Ns mainGlobals mg
 blt : ∃ mb, base.Ns builtinsNs mb ∧ ∀ x : Str, x ≠ "__name__" → mb x = bootBuiltins x
 nolimit : base.NoLimit
structure Cx where
 prog : Program
 w : World
 K : PySem.W.Frag
 mg : Str → Option Value
 base : Heap
 A : Around
 N : List Str
 s₀ : Shared
 H₀ : Hp
 env : Env
 outer : List Env
 stack : List Env
 ex : List Addr
 fn : Str → Bool
 calm : Bool
 pn : List (Addr × Obj)
 xe : Value → Shared → Prop
def frs (l : List Env) : List Addr := l.filterMap (·.frame)
abbrev Cx.fs (X : Cx) : List Addr := frs X.outer
def Vis (sc : Scope) (x : Str) : Prop := sc.names.lookup x = some .local ∨ sc.names.lookup x = some .cell ∨ sc.names.lookup x = some .free
def Loc (sc : Scope) (x : Str) : Prop := sc.names.lookup x = some .local ∨ sc.names.lookup x = some .cell
def Look (env : Env) (h : Heap) (m : Str → Option Value) (x : Str) (u : Value) : Prop :=
 (env.kindOf x = some .local ∧ m x = some u) ∨ ((env.kindOf x = some .cell ∨ env.kindOf x = some .free) ∧ ∃ c, env.cells.lookup x = some c ∧ h.IsCell c (some u))
structure Cx.Ok (X : Cx) : Prop where
 mod : Mod X.K X.mg X.base
 kind : X.env.scope.kind = .function
 glob : X.env.globals = mainGlobals
 blt : X.env.builtins = builtinsNs
 above : X.s₀.heap.objs.size ≤ X.env.locals
 inj : ∀ x y c, X.env.cells.lookup x = some c → X.env.cells.lookup y = some c → x = y
 has : ∀ x, (X.env.kindOf x = some .cell ∨ X.env.kindOf x = some .free) → ∃ c, X.env.cells.lookup x = some c
 cab : ∀ x c, X.fn x = true → X.env.cells.lookup x = some c → X.s₀.heap.objs.size ≤ c
 hd : X.calm = true → X.A.handled = none
 frames : X.A.frames = some X.stack
 stk : X.stack = X.outer ∨ (X.stack = X.env :: X.outer ∧ X.env.frame = some X.env.locals)
 exf : ∀ b ∈ X.ex, b ≠ X.env.locals ∧ ∀ x c, X.env.cells.lookup x = some c → c ≠ b
 bs : ∀ b o, X.base.get? b = some o → X.s₀.heap.get? b = some o ∧ X.H₀ b = none
 bsz : X.base.objs.size ≤ X.s₀.heap.objs.size
 noex : ∀ b o, X.base.get? b = some o → b ∉ X.ex
 exfs : ∀ b ∈ X.ex, b ∉ X.fs
 funs : X.s₀.heap.FunFrames X.base X.outer
 frf : ∀ b ∈ X.fs, X.H₀ b = none
structure Inv (X : Cx) (pins : List (Addr × Obj)) (σ : List (Option V)) (H : Hp) (s : Shared) : Prop where
 ok : X.Ok
 os : s.os = X.s₀.os
 bare : AllBare s.gens
 base : Un X.fs X.ex X.H₀ H X.s₀.heap s.heap
 loc : ∃ m, s.heap.Ns X.env.locals m ∧ ∀ (i : Nat) (x : Str) (v : V), X.N[i]? = some x → σ[i]? = some (some v) → Vis X.env.scope x → ∃ u, RelV v u ∧ Look X.env s.heap m x u
 cell : ∀ x c, X.env.cells.lookup x = some c → ∃ v, s.heap.IsCell c v
 free : H X.env.locals = none
 freeC : ∀ x c, X.env.cells.lookup x = some c → H c = none
 pin : ∀ p ∈ X.pn ++ pins, s.heap.get? p.1 = some p.2 ∧ H p.1 = none ∧ p.1 ≠ X.env.locals ∧ p.1 ∉ X.fs ∧ ∀ v, p.2.data ≠ .cell v
 hok : HOk X.prog X.w H s.heap
 len : σ.length = X.N.length
section
variable {X : Cx} {pins : List (Addr × Obj)} {σ : List (Option V)} {H H' : Hp} {s : Shared} {h' : Heap}
theorem Cx.Ok.nofr (ok : X.Ok) {b : Addr} {o : Obj} (e : X.base.get? b = some o) : b ∉ X.fs := fun hb => by
 have := (ok.funs.mem hb).1
 rw [e] at this; cases this
theorem Inv.bs (I : Inv X pins σ H s) : ∀ b o, X.base.get? b = some o → s.heap.get? b = some o ∧ H b = none := fun b o e =>
 ⟨I.base.keep b o (I.ok.bs b o e).1 (I.ok.bs b o e).2 (I.ok.nofr e) (I.ok.noex b o e), I.base.free b o (I.ok.bs b o e).1 (I.ok.bs b o e).2 (I.ok.noex b o e)⟩
theorem Inv.bk (I : Inv X pins σ H s) : ∀ b o, X.base.get? b = some o → s.heap.get? b = some o := fun b o e => (I.bs b o e).1
theorem Inv.mod (I : Inv X pins σ H s) : Mod X.K X.mg X.base := I.ok.mod
theorem Inv.kIn (I : Inv X pins σ H s) : X.K.In s.heap := I.ok.mod.kin.keeps I.bk
theorem Inv.nolimit (I : Inv X pins σ H s) : s.heap.NoLimit := I.ok.mod.nolimit.keeps I.bk
theorem Inv.fr (I : Inv X pins σ H s) : ∃ m, Fr X.base X.env.locals s.heap m :=
 let ⟨m, hn, _⟩ := I.loc
 ⟨m, hn, I.bk, Nat.le_trans I.ok.bsz I.ok.above⟩
theorem Inv.lt (I : Inv X pins σ H s) : X.env.locals < s.heap.objs.size := let ⟨_, hn, _⟩ := I.loc; hn.lt
theorem Inv.sz (I : Inv X pins σ H s) : X.s₀.heap.objs.size ≤ s.heap.objs.size := Nat.le_trans I.ok.above (Nat.le_of_lt I.lt)
theorem Inv.nofs (I : Inv X pins σ H s) {a : Addr} (h : s.heap.objs.size ≤ a) : a ∉ X.fs := fun hb => by
 obtain ⟨_, o, ho, _⟩ := I.ok.funs.mem hb
 exact absurd (Nat.lt_of_lt_of_le (Heap.lt_size ho) (Nat.le_trans I.sz h)) (Nat.lt_irrefl _)
theorem Inv.cne (I : Inv X pins σ H s) : ∀ x c, X.env.cells.lookup x = some c → c ≠ X.env.locals := fun x c e z => by
 obtain ⟨v, o, ho, hd⟩ := I.cell x c e
 obtain ⟨m, ⟨o', es, ep, ho', hd', _⟩, _⟩ := I.loc
 rw [z, ho'] at ho; cases ho; rw [hd'] at hd; cases hd
theorem Inv.funs (I : Inv X pins σ H s) : s.heap.FunFrames X.base X.outer := by
 have all : ∀ (l : List Env), (∀ b ∈ frs l, b ∈ X.fs) → X.s₀.heap.FunFrames X.base l → s.heap.FunFrames X.base l := by
  intro l
  induction l with
  | nil => intro _ _; trivial
  | cons env r ih =>
   intro hs hl
   obtain ⟨hk, ⟨L, o, hf, hn, ho, hd⟩, hr⟩ := hl
   have hL : L ∈ X.fs := hs L (by unfold frs; rw [List.filterMap_cons, hf]; exact List.mem_cons_self)
   obtain ⟨sl, e⟩ := I.base.slot L o ho (I.ok.frf L hL) hL fun z => I.ok.exfs L z hL
   exact ⟨hk, ⟨L, _, hf, hn, e, hd⟩, ih (fun b hb => hs b (by unfold frs; rw [List.filterMap_cons, hf]; exact List.mem_cons_of_mem _ hb)) hr⟩
 exact all X.outer (fun _ hb => hb) I.ok.funs
theorem Inv.stack (I : Inv X pins σ H s) : s.heap.FunFrames X.base X.stack := by
 rcases I.ok.stk with e | ⟨e, hf⟩
 ·rw [e]; exact I.funs
 ·rw [e]
  obtain ⟨m, hn, _⟩ := I.loc
  refine .cons (by rw [I.ok.kind]; decide) hf hn ?_ I.funs
  exact Heap.get?_none_of_le (Nat.le_trans I.ok.bsz I.ok.above)
theorem Inv.stkSub (I : Inv X pins σ H s) : ∀ b ∈ frs X.stack, b ∈ X.env.locals :: X.fs := fun b hb => by
 rcases I.ok.stk with e | ⟨e, hf⟩
 ·rw [e] at hb; exact List.mem_cons_of_mem _ hb
 ·rw [e] at hb
  unfold frs at hb
  rw [List.filterMap_cons, hf] at hb
  exact hb
theorem Inv.stkFree (I : Inv X pins σ H s) : ∀ b ∈ frs X.stack, H b = none := fun b hb => by
 rcases List.mem_cons.mp (I.stkSub b hb) with e | hb
 ·rw [e]; exact I.free
 ·obtain ⟨_, o, ho, _⟩ := I.ok.funs.mem hb
  exact I.base.free b o ho (I.ok.frf b hb) fun z => I.ok.exfs b z hb
theorem Inv.step {g' : Array GenState} {t' : Nat} {d' : Drawn} {ch : List Addr} (I : Inv X pins σ H s)
  (hch : ∀ b ∈ ch, (b ∈ X.ex ∨ X.s₀.heap.objs.size ≤ b) ∧ b ≠ X.env.locals ∧ (∀ x c, X.env.cells.lookup x = some c → c ≠ b) ∧ ∀ p ∈ X.pn ++ pins, p.1 ≠ b)
  (keep : ∀ b o, b ≠ X.env.locals → b ∉ X.fs → b ∉ ch → s.heap.get? b = some o → H b = none → h'.get? b = some o)
  (slot : ∀ b o, b ≠ X.env.locals → b ∈ X.fs → b ∉ ch → s.heap.get? b = some o → H b = none → ∃ sl, h'.get? b = some { o with slots := sl }) (free : ∀ b o, b ∉ ch → s.heap.get? b = some o → H b = none → H' b = none)
  (there : ∀ b o, b ∉ ch → s.heap.get? b = some o → ∃ o', h'.get? b = some o')
  (tups : ∀ b xs, H b = some (.tup xs) → H' b = some (.tup xs)) (frzs : ∀ b o u, H b = some (.frz o u) → H' b = some (.frz o u)) (tbls : ∀ b ps, H b = some (.tbl ps) → ∃ more, H' b = some (.tbl (ps ++ more)))
  (ns : ∀ m, s.heap.Ns X.env.locals m → h'.Ns X.env.locals m) (hok : HOk X.prog X.w H' h') (hg : AllBare g') :
  Inv X pins σ H' { s with heap := h', gens := g', drawn := d', toks := t' } := by
 have neL : ∀ b o, X.s₀.heap.get? b = some o → b ≠ X.env.locals := fun b o e => Nat.ne_of_lt (Nat.lt_of_lt_of_le (Heap.lt_size e) I.ok.above)
 have neC : ∀ b o, X.s₀.heap.get? b = some o → b ∉ X.ex → b ∉ ch := fun b o e hx hb => by
  rcases (hch b hb).1 with z | z
  ·exact hx z
  ·exact absurd (Nat.lt_of_lt_of_le (Heap.lt_size e) z) (Nat.lt_irrefl _)
 have cellK : ∀ x c, X.env.cells.lookup x = some c → ∀ v, s.heap.IsCell c v → h'.IsCell c v := fun x c e v ⟨o, ho, hd⟩ => by
  have nch : c ∉ ch := fun z => (hch c z).2.2.1 x c e rfl
  by_cases hc : c ∈ X.fs
  ·obtain ⟨sl, q⟩ := slot c o (I.cne x c e) hc nch ho (I.freeC x c e)
   exact ⟨_, q, hd⟩
  ·exact ⟨o, keep c o (I.cne x c e) hc nch ho (I.freeC x c e), hd⟩
 refine ⟨I.ok, I.os, hg, ⟨fun b o e n hb hx => ?_, fun b o e n hb hx => ?_, fun b o e n hx => ?_, fun b o e hx => ?_, fun b xs e => tups b xs (I.base.tups b xs e), fun b o xs e => frzs b o xs (I.base.frzs b o xs e), fun b ps e => ?_⟩, ?_, fun x c e => ?_, ?_, fun x c e => ?_, fun p hp => ?_, hok, I.len⟩
 ·exact keep b o (neL b o e) hb (neC b o e hx) (I.base.keep b o e n hb hx) (I.base.free b o e n hx)
 ·obtain ⟨sl, e1⟩ := I.base.slot b o e n hb hx
  obtain ⟨sl', e2⟩ := slot b _ (neL b o e) hb (neC b o e hx) e1 (I.base.free b o e n hx)
  exact ⟨sl', e2⟩
 ·obtain ⟨o', e1⟩ := I.base.there b o e hx
  exact free b o' (neC b o e hx) e1 (I.base.free b o e n hx)
 ·obtain ⟨o', e1⟩ := I.base.there b o e hx
  exact there b o' (neC b o e hx) e1
 ·obtain ⟨m1, e1⟩ := I.base.tbls b ps e
  obtain ⟨m2, e2⟩ := tbls b _ e1
  exact ⟨m1 ++ m2, by rw [e2, Array.append_assoc]⟩
 ·obtain ⟨m, hn, hl⟩ := I.loc
  refine ⟨m, ns m hn, fun i x v e1 e2 e3 => ?_⟩
  obtain ⟨u, r, l⟩ := hl i x v e1 e2 e3
  refine ⟨u, r, ?_⟩
  rcases l with l | ⟨k, c, e, z⟩
  ·exact .inl l
  ·exact .inr ⟨k, c, e, cellK x c e _ z⟩
 ·obtain ⟨v, z⟩ := I.cell x c e
  exact ⟨v, cellK x c e v z⟩
 ·obtain ⟨m, ⟨o, _, _, ho, _⟩, _⟩ := I.loc
  exact free _ o (fun z => (hch _ z).2.1 rfl) ho I.free
 ·obtain ⟨v, o, ho, hd⟩ := I.cell x c e
  exact free c o (fun z => (hch c z).2.2.1 x c e rfl) ho (I.freeC x c e)
 ·obtain ⟨e, n, ne, nf, d⟩ := I.pin p hp
  have nch : p.1 ∉ ch := fun z => (hch p.1 z).2.2.2 p hp rfl
  exact ⟨keep p.1 p.2 ne nf nch e n, free p.1 p.2 nch e n, ne, nf, d⟩
theorem Inv.un {t' : Nat} (I : Inv X pins σ H s) (u : Un X.fs [] H H' s.heap h') (hok : HOk X.prog X.w H' h') : Inv X pins σ H' { s with heap := h', toks := t' } := by
 obtain ⟨m, ⟨o, es, ep, ho, r⟩, _⟩ := id I.loc
 obtain ⟨sl, hL⟩ := u.any ho I.free (by simp)
 exact I.step (g' := s.gens) (d' := s.drawn) (ch := []) (fun _ z => nomatch z) (fun b o _ hb _ e n => u.keep b o e n hb (by simp)) (fun b o _ hb _ e n => u.slot b o e n hb (by simp)) (fun b o _ e n => u.free b o e n (by simp)) (fun b o _ e => u.there b o e (by simp)) u.tups u.frzs u.tbls (fun m' hm => by
  obtain ⟨o', es', ep', ho', r'⟩ := hm
  rw [ho] at ho'; cases ho'
  exact ⟨_, es', ep', hL, r'⟩) hok I.bare
theorem Inv.call {g' : Array GenState} {t' : Nat} {d' : Drawn} {ch : List Addr} (I : Inv X pins σ H s) (u : Un (frs X.stack) ch H H' s.heap h') (hok : HOk X.prog X.w H' h') (hg : AllBare g')
  (hch : ∀ b ∈ ch, (b ∈ X.ex ∨ X.s₀.heap.objs.size ≤ b) ∧ b ≠ X.env.locals ∧ (∀ x c, X.env.cells.lookup x = some c → c ≠ b) ∧ ∀ p ∈ X.pn ++ pins, p.1 ≠ b) :
  Inv X pins σ H' { s with heap := h', gens := g', drawn := d', toks := t' } := by
 obtain ⟨m, ⟨o, es, ep, ho, r⟩, _⟩ := id I.loc
 obtain ⟨sl, hL⟩ := u.any ho I.free fun z => (hch _ z).2.1 rfl
 exact I.step (ch := ch) hch (fun b o hL hb hc e n => u.keep b o e n (fun z => (List.mem_cons.mp (I.stkSub b z)).elim hL hb) hc) (fun b o _ _ hc e n => u.any e n hc) (fun b o hc e n => u.free b o e n hc) (fun b o hc e => u.there b o e hc) u.tups u.frzs u.tbls (fun m' hm => by
  obtain ⟨o', es', ep', ho', r'⟩ := hm
  rw [ho] at ho'; cases ho'
  exact ⟨_, es', ep', hL, r'⟩) hok hg
theorem Inv.turned {t' : Nat} {it : Addr} (I : Inv X pins σ H s) (k : ∀ b o, b ≠ it → s.heap.get? b = some o → h'.get? b = some o) (hn : H it = none) (hL : it ≠ X.env.locals)
  (h1 : it ∈ X.ex ∨ X.s₀.heap.objs.size ≤ it) (h2 : ∀ x c, X.env.cells.lookup x = some c → c ≠ it) (h3 : ∀ p ∈ X.pn ++ pins, p.1 ≠ it) : Inv X pins σ H { s with heap := h', toks := t' } := by
 have nit : ∀ b u, H b = some u → b ≠ it := fun b u e z => by rw [z, hn] at e; cases e
 refine I.step (g' := s.gens) (d' := s.drawn) (ch := [it]) (fun b hb => ?_) (fun b o _ _ hc e _ => k b o (fun z => hc (by simp [z])) e) (fun b o _ _ hc e _ => ⟨o.slots, k b o (fun z => hc (by simp [z])) e⟩) (fun _ _ _ _ n => n)
  (fun b o hc e => ⟨o, k b o (fun z => hc (by simp [z])) e⟩) (fun _ _ e => e) (fun _ _ _ e => e) (fun b ps e => ⟨#[], by rw [e]; simp⟩) (fun m hm => ?_) (fun b u e => ?_) I.bare
 ·have e : b = it := by simpa using hb
  subst e
  exact ⟨h1, hL, h2, h3⟩
 ·obtain ⟨o, es, ep, ho, r⟩ := hm
  exact ⟨o, es, ep, k _ o (Ne.symm hL) ho, r⟩
 ·refine (I.hok b u e).stay (fun c v hc q => k c v ?_ q) (fun _ q => q) fun _ _ q => q
  rcases hc with z | z
  ·rw [z]; exact nit b u e
  ·exact nit c _ z
theorem Inv.tok (I : Inv X pins σ H s) (t : Nat) : Inv X pins σ H { s with toks := t } := I.un (h' := s.heap) (t' := t) Un.refl I.hok
theorem Inv.kept {t' : Nat} (I : Inv X pins σ H s) (k : ∀ b u, s.heap.get? b = some u → h'.get? b = some u) : Inv X pins σ H { s with heap := h', toks := t' } := I.un (Un.kept k) (I.hok.kept k)
theorem Inv.laid {a : Addr} {o : HO} {t' : Nat} (I : Inv X pins σ H s) (k : ∀ b u, s.heap.get? b = some u → h'.get? b = some u) (hp : s.heap.objs.size ≤ a) (new : ObjOk X.prog X.w (upd H a o) h' a o) :
  Inv X pins σ (upd H a o) { s with heap := h', toks := t' } := I.un (Un.laid k hp (I.hok.fresh hp)) (I.hok.laid k hp new)
theorem Inv.write {x e : Addr} {o : HO} {t' : Nat} (I : Inv X pins σ H s) (mu : Mut (H x)) (he : e = x ∨ H e = some (.own x)) (k : ∀ b u, b ≠ e → s.heap.get? b = some u → h'.get? b = some u) (heo : ∃ u, h'.get? e = some u)
  (new : ObjOk X.prog X.w (upd H x o) h' x o) : Inv X pins σ (upd H x o) { s with heap := h', toks := t' } := I.un (Un.write mu he k heo) (I.hok.write mu he k heo new)
theorem Inv.weak {σ' : List (Option V)} (I : Inv X pins σ H s) (hl : σ'.length = σ.length) (w : ∀ (i : Nat) v, σ'[i]? = some (some v) → σ[i]? = some (some v)) : Inv X pins σ' H s :=
 ⟨I.ok, I.os, I.bare, I.base, let ⟨m, hn, hl'⟩ := I.loc; ⟨m, hn, fun i x v e1 e2 e3 => hl' i x v e1 (w i v e2) e3⟩, I.cell, I.free, I.freeC, I.pin, I.hok, hl.trans I.len⟩
theorem Inv.pins_of {pins' : List (Addr × Obj)} (I : Inv X pins σ H s) (h : ∀ p ∈ pins', s.heap.get? p.1 = some p.2 ∧ H p.1 = none ∧ p.1 ≠ X.env.locals ∧ p.1 ∉ X.fs ∧ ∀ v, p.2.data ≠ .cell v) : Inv X pins' σ H s :=
 ⟨I.ok, I.os, I.bare, I.base, I.loc, I.cell, I.free, I.freeC, fun p hp => (List.mem_append.mp hp).elim (fun z => I.pin p (List.mem_append_left _ z)) (h p), I.hok, I.len⟩
theorem z6w {N : List Str} (hN : N.Nodup) {i j : Nat} {x : Str} (a : N[i]? = some x) (b : N[j]? = some x) : i = j := by
 obtain ⟨h1, e1⟩ := List.getElem?_eq_some_iff.mp a
 obtain ⟨h2, e2⟩ := List.getElem?_eq_some_iff.mp b
 exact (List.getElem_inj hN).mp (e1.trans e2.symm)
theorem z62 {M : Model} {A : Around} {E : Value → Shared → Prop} {i : Nat} {x : Str} {v : V} {u : Value} {Q : Unit → Shared → Prop} (I : Inv X pins σ H s) (hN : X.N.Nodup) (hi : X.N[i]? = some x) (hx : Loc X.env.scope x) (r : RelV v u)
  (h : ∀ s', Inv X pins (σ.set i (some v)) H s' → (∃ a, Heap.SameBut a s.heap s'.heap ∧ (a = X.env.locals ∨ X.env.cells.lookup x = some a)) → Q () s') (hf : X.fn x = true ∨ X.env.scope.names.lookup x = some .local := by first | exact .inl rfl | exact .inr rfl | assumption) : wpAny M A (storeName X.env x u) Q E s := by
 obtain ⟨m, hn, hl⟩ := id I.loc
 have hcls : (X.env.scope.kind == .class || (X.env.scope.kind == .module && X.env.locals != X.env.globals)) = false := by rw [I.ok.kind]; rfl
 have hiσ : i < σ.length := by rw [I.len]; exact (List.getElem?_eq_some_iff.mp hi).1
 have cne := I.cne
 have tracked : ∀ {a : Addr} {h' : Heap}, (∃ o, s.heap.get? a = some o ∧ H a = none) → Heap.SameBut a s.heap h' → HOk X.prog X.w H h' := fun {a h'} ha hs b ob e => by
  obtain ⟨_, _, hfree⟩ := ha
  refine (I.hok b ob e).stay (fun c w' hc q => (hs.2 c ?_).trans q) (fun _ q => q) fun _ _ q => q
  rintro rfl
  rcases hc with rfl | hc
  ·rw [hfree] at e; cases e
  ·rw [hfree] at hc; cases hc
 rcases hx with hk | hk
 ·refine wpAny_storeName_local hk hn (fun h' hn' hs => ?_) hcls
  obtain ⟨oL, _, _, hoL, _⟩ := id hn
  refine h _ ⟨I.ok, I.os, I.bare, ⟨fun b o e n hb hx => ?_, fun b o e n hb hx => ?_, I.base.free, fun b o e hx => ?_, I.base.tups, I.base.frzs, I.base.tbls⟩, ⟨_, hn', fun j y v' e1 e2 e3 => ?_⟩, fun y c e => ?_, I.free, I.freeC, fun p hp => ?_, tracked ⟨oL, hoL, I.free⟩ hs, by simpa using I.len⟩ ⟨_, hs, .inl rfl⟩
  ·exact (hs.2 b (Nat.ne_of_lt (Nat.lt_of_lt_of_le (Heap.lt_size e) I.ok.above))).trans (I.base.keep b o e n hb hx)
  ·obtain ⟨sl, e1⟩ := I.base.slot b o e n hb hx
   exact ⟨sl, (hs.2 b (Nat.ne_of_lt (Nat.lt_of_lt_of_le (Heap.lt_size e) I.ok.above))).trans e1⟩
  ·obtain ⟨o', e1⟩ := I.base.there b o e hx
   exact ⟨o', (hs.2 b (Nat.ne_of_lt (Nat.lt_of_lt_of_le (Heap.lt_size e) I.ok.above))).trans e1⟩
  ·by_cases hj : j = i
   ·subst hj
    rw [hi] at e1; cases e1
    rw [List.getElem?_set_self hiσ] at e2
    cases e2
    exact ⟨u, r, .inl ⟨hk, by simp⟩⟩
   ·rw [List.getElem?_set_ne (Ne.symm hj)] at e2
    obtain ⟨u', r', q⟩ := hl j y v' e1 e2 e3
    refine ⟨u', r', ?_⟩
    rcases q with ⟨k, e⟩ | ⟨k, c, e, z⟩
    ·refine .inl ⟨k, ?_⟩
     have : y ≠ x := fun e => hj (z6w hN e1 (e ▸ hi))
     simp [this, e]
    ·exact .inr ⟨k, c, e, z.sameBut hs (cne y c e)⟩
  ·obtain ⟨w', z⟩ := I.cell y c e
   exact ⟨w', z.sameBut hs (cne y c e)⟩
  ·obtain ⟨e, n, ne, nf, d⟩ := I.pin p hp
   exact ⟨(hs.2 p.1 ne).trans e, n, ne, nf, d⟩
 ·have hfn : X.fn x = true := by
   rcases hf with z | z
   ·exact z
   ·rw [z] at hk; cases hk
  obtain ⟨c, hc⟩ := I.ok.has x (.inl hk)
  obtain ⟨w', z⟩ := I.cell x c hc
  refine wpAny_storeName_cell I.ok.kind hk hc z (fun h' hc' hs => ?_)
  obtain ⟨oc, hoc, hocd⟩ := id z
  refine h { s with heap := h' } ⟨I.ok, I.os, I.bare, ⟨fun b o e n hb hx => ?_, fun b o e n hb hx => ?_, I.base.free, fun b o e hx => ?_, I.base.tups, I.base.frzs, I.base.tbls⟩, ⟨m, hn.sameBut hs (Ne.symm (cne x c hc)), fun j y v' e1 e2 e3 => ?_⟩, fun y c' e => ?_, I.free, I.freeC, fun p hp => ?_, tracked ⟨oc, hoc, I.freeC x c hc⟩ hs, by simpa using I.len⟩ ⟨c, hs, .inr hc⟩
  ·exact (hs.2 b (Nat.ne_of_lt (Nat.lt_of_lt_of_le (Heap.lt_size e) (I.ok.cab x c hfn hc)))).trans (I.base.keep b o e n hb hx)
  ·obtain ⟨sl, e1⟩ := I.base.slot b o e n hb hx
   exact ⟨sl, (hs.2 b (Nat.ne_of_lt (Nat.lt_of_lt_of_le (Heap.lt_size e) (I.ok.cab x c hfn hc)))).trans e1⟩
  ·obtain ⟨o', e1⟩ := I.base.there b o e hx
   exact ⟨o', (hs.2 b (Nat.ne_of_lt (Nat.lt_of_lt_of_le (Heap.lt_size e) (I.ok.cab x c hfn hc)))).trans e1⟩
  ·by_cases hj : j = i
   ·subst hj
    rw [hi] at e1; cases e1
    rw [List.getElem?_set_self hiσ] at e2
    cases e2
    exact ⟨u, r, .inr ⟨.inl hk, c, hc, hc'⟩⟩
   ·rw [List.getElem?_set_ne (Ne.symm hj)] at e2
    obtain ⟨u', r', q⟩ := hl j y v' e1 e2 e3
    refine ⟨u', r', ?_⟩
    rcases q with q | ⟨k, c', e, z'⟩
    ·exact .inl q
    ·refine .inr ⟨k, c', e, z'.sameBut hs ?_⟩
     rintro rfl
     exact hj (z6w hN e1 (I.ok.inj _ _ _ e hc ▸ hi))
  ·by_cases hcc : c' = c
   ·subst hcc; exact ⟨_, hc'⟩
   ·obtain ⟨w2, z2⟩ := I.cell y c' e
    exact ⟨w2, z2.sameBut hs hcc⟩
  ·obtain ⟨e, n, ne, nf, d⟩ := I.pin p hp
   refine ⟨(hs.2 p.1 ?_).trans e, n, ne, nf, d⟩
   intro q
   rw [q, hoc] at e
   have q' : oc = p.2 := Option.some.inj e
   exact d w' (by rw [← q']; exact hocd)
theorem z4y {M : Model} {A : Around} {E : Value → Shared → Prop} {i : Nat} {x : Str} {v : V} {u : Value} {Q : Unit → Shared → Prop} (I : Inv X pins σ H s) (hN : X.N.Nodup) (hi : X.N[i]? = some x) (hx : Loc X.env.scope x) (r : RelV v u)
  (h : ∀ s', Inv X pins (σ.set i (some v)) H s' → Q () s') (hf : X.fn x = true ∨ X.env.scope.names.lookup x = some .local := by first | exact .inl rfl | exact .inr rfl | assumption) : wpAny M A (storeName X.env x u) Q E s :=
 z62 I hN hi hx r (fun s' I' _ => h s' I') hf
theorem Inv.call' {s' : Shared} {ch : List Addr} (I : Inv X pins σ H s) (ho : s'.os = s.os) (u : Un (frs X.stack) ch H H' s.heap s'.heap) (hok : HOk X.prog X.w H' s'.heap) (hg : AllBare s'.gens)
  (hch : ∀ b ∈ ch, (b ∈ X.ex ∨ X.s₀.heap.objs.size ≤ b) ∧ b ≠ X.env.locals ∧ (∀ x c, X.env.cells.lookup x = some c → c ≠ b) ∧ ∀ p ∈ X.pn ++ pins, p.1 ≠ b) : Inv X pins σ H' s' := by
 obtain ⟨h', g', d', t', o'⟩ := s'
 have e : o' = s.os := ho
 subst e
 exact I.call (g' := g') (t' := t') (d' := d') u hok hg hch
end
abbrev XK := Value → Option Addr → Hp → Prop
abbrev St := List (Option V)
abbrev VK := V → Hp → Prop
abbrev TE := St → Hp → VK → Prop
abbrev TT := St → Hp → (Bool → Hp → Prop) → Prop
abbrev TA := St → Hp → (List V → Hp → Prop) → Prop
structure Ends where
 nx : St → Hp → Prop
 rt : VK
 bk : St → Hp → Prop := fun _ _ => False
 ct : St → Hp → Prop := fun _ _ => False
abbrev TS := Ends → St → Hp → Prop
def EP (X : Cx) (pins : List (Addr × Obj)) (σ : St) (Q : VK) (u : Value) (s' : Shared) : Prop := ∃ v H', Inv X pins σ H' s' ∧ RelV v u ∧ Q v H'
def TP (X : Cx) (pins : List (Addr × Obj)) (σ : St) (Q : Bool → Hp → Prop) (b : Bool) (s' : Shared) : Prop := ∃ H', Inv X pins σ H' s' ∧ Q b H'
def AP (X : Cx) (pins : List (Addr × Obj)) (σ : St) (Q : List V → Hp → Prop) (us : List Value) (s' : Shared) : Prop := ∃ vs H', Inv X pins σ H' s' ∧ Vals vs us ∧ Q vs H'
def SP (X : Cx) (pins : List (Addr × Obj)) (D : Ends) (f : Flow) (s' : Shared) : Prop :=
 match f with
 | .next => ∃ σ' H', Inv X pins σ' H' s' ∧ D.nx σ' H'
 | .brk => ∃ σ' H', Inv X pins σ' H' s' ∧ D.bk σ' H'
 | .cont => ∃ σ' H', Inv X pins σ' H' s' ∧ D.ct σ' H'
 | .ret u => ∃ v σ' H', Inv X pins σ' H' s' ∧ RelV v u ∧ D.rt v H'
def PE (X : Cx) (e : Expr) (t : TE) : Prop :=
 ∀ (pins : List (Addr × Obj)) (s : Shared) (σ : St) (H : Hp) (Q : VK), Inv X pins σ H s → t σ H Q → wpAny (model X.prog X.w) X.A (eval e X.env) (EP X pins σ Q) X.xe s
def PT (X : Cx) (e : Expr) (t : TT) : Prop :=
 ∀ (pins : List (Addr × Obj)) (s : Shared) (σ : St) (H : Hp) (Q : Bool → Hp → Prop), Inv X pins σ H s → t σ H Q → wpAny (model X.prog X.w) X.A (isTrue e X.env (eval e X.env)) (TP X pins σ Q) X.xe s
def PW (X : Cx) (e : Expr) (t : TT) : Prop :=
 ∀ (whole : Sem Value) (pins : List (Addr × Obj)) (s : Shared) (σ : St) (H : Hp) (Q : Bool → Hp → Prop), Inv X pins σ H s → t σ H Q → wpAny (model X.prog X.w) X.A (isTrue e X.env whole) (TP X pins σ Q) X.xe s
theorem PW.pt {X : Cx} {e : Expr} {t : TT} (h : PW X e t) : PT X e t := h _
def PA (X : Cx) (es : List Expr) (t : TA) : Prop :=
 ∀ (pos : Pos) (pins : List (Addr × Obj)) (s : Shared) (σ : St) (H : Hp) (Q : List V → Hp → Prop), Inv X pins σ H s → t σ H Q → wpAny (model X.prog X.w) X.A (spliced (backTo pos (starEach es X.env))) (AP X pins σ Q) X.xe s
def PS (X : Cx) (st : Stmt) (t : TS) : Prop :=
 ∀ (pins : List (Addr × Obj)) (s : Shared) (σ : St) (H : Hp) (D : Ends), Inv X pins σ H s → t D σ H → wpAny (model X.prog X.w) X.A (exec st X.env) (SP X pins D) X.xe s
def PSs (X : Cx) (st : List Stmt) (t : TS) : Prop :=
 ∀ (pins : List (Addr × Obj)) (s : Shared) (σ : St) (H : Hp) (D : Ends), Inv X pins σ H s → t D σ H → wpAny (model X.prog X.w) X.A (execs st X.env) (SP X pins D) X.xe s
theorem thn {α : Type} {t : Sem α} {Q Q' : α → Shared → Prop} {M : Model} {A : Around} {E : Value → Shared → Prop} {s : Shared} (h : wpAny M A t Q E s) (hQ : ∀ a s, Q a s → Q' a s) : wpAny M A t Q' E s := wpAny_mono h hQ fun _ _ x => x
end L2
namespace L2
open PySem PySem.Spec PyProof.Rows
section
variable {X : Cx}
def tVar (i : Nat) : TE := fun σ H Q => ∃ v, σ[i]? = some (some v) ∧ Q v H
def tC (v : V) : TE := fun _ H Q => Q v H
theorem zbx {i : Nat} {x : Str} {pos : Pos} (hN : X.N[i]? = some x) (hv : Vis X.env.scope x) (hd : (x == ("__debug__" : Str)) = false := by decide) (hcd : (x == ("__classdict__" : Str)) = false := by decide) : PE X (.Name x pos) (tVar i) := by
 intro pins s σ H Q I h
 obtain ⟨v, e, h⟩ := h
 obtain ⟨m, hn, hl⟩ := I.loc
 obtain ⟨u, r, l⟩ := hl i x v hN e hv
 have fin : EP X pins σ Q u s := ⟨v, H, I, r, h⟩
 rcases l with ⟨hk, hm⟩ | ⟨hk, c, hc, hcell⟩
 ·exact wpAny_Name (wpAny_loadName_local I.ok.kind hk hn hm fin) hd
 ·rcases hk with hk | hk
  ·exact wpAny_Name (wpAny_loadName_cell I.ok.kind hk hc hcell fin) hd
  ·exact wpAny_Name (wpAny_loadName_free I.ok.kind hk hc hcell fin hcd) hd
theorem z7 {i j pos} : PE X (.Constant (.int i) j pos) (tC (.int i)) := fun _ _ _ H _ I h => wpAny_Constant_int ⟨.int i, H, I.tok _, ⟨_, rfl⟩, h⟩
theorem z49 {b j pos} : PE X (.Constant (.bool b) j pos) (tC (.bl b)) := fun _ _ _ H _ I h => Constant_bool ⟨.bl b, H, I, rfl, h⟩
theorem z18 {x j pos} : PE X (.Constant (.str x) j pos) (tC (.str x)) := fun _ _ _ H _ I h => Calls.Constant_str ⟨.str x, H, I.tok _, ⟨_, rfl⟩, h⟩
def Gl (X : Cx) (x : Str) : Prop := X.env.kindOf x = some .globalImplicit
theorem zbe {E : Value → Shared → Prop} {pins : List (Addr × Obj)} {s : Shared} {σ : St} {H : Hp} {x : Str} {u : Value} {pos : Pos} {Q : Value → Shared → Prop} (I : Inv X pins σ H s) (hg : Gl X x) (hm : X.mg x = some u) (h : Q u s)
  (hd : (x == ("__debug__" : Str)) = false := by decide) : wpAny (model X.prog X.w) X.A (eval (.Name x pos) X.env) Q E s :=
 Calls.Name_function_global I.ok.kind hg (Calls.loadGlobal_global (by rw [I.ok.glob]; exact I.mod.glob.keeps I.bk) hm h) hd
theorem z3c {E : Value → Shared → Prop} {pins : List (Addr × Obj)} {s : Shared} {σ : St} {H : Hp} {x : Str} {u : Value} {pos : Pos} {Q : Value → Shared → Prop} (I : Inv X pins σ H s) (hg : Gl X x) (hm : X.mg x = none) (hv : bootBuiltins x = some u) (h : Q u s)
  (hn : x ≠ "__name__" := by decide) (hd : (x == ("__debug__" : Str)) = false := by decide) : wpAny (model X.prog X.w) X.A (eval (.Name x pos) X.env) Q E s := by
 obtain ⟨mb, h1, h2⟩ := I.mod.blt
 exact Calls.Name_function_global I.ok.kind hg (Calls.loadGlobal_builtin (by rw [I.ok.glob]; exact I.mod.glob.keeps I.bk) hm (by rw [I.ok.blt]; exact h1.keeps I.bk) ((h2 x hn).trans hv) h) hd
theorem zo {x : Str} {v : V} {u : Value} {pos : Pos} (hg : Gl X x) (hm : X.mg x = none) (hv : bootBuiltins x = some u) (r : RelV v u) (hn : x ≠ "__name__" := by decide) (hd : (x == ("__debug__" : Str)) = false := by decide) : PE X (.Name x pos) (tC v) :=
 fun _ _ _ H _ I h => z3c I hg hm hv ⟨v, H, I, r, h⟩ hn hd
variable {a b : Expr} {ta tb : TE} {pos : Pos}
def tB (t : TE) : TT := fun σ H Q => t σ H fun x H1 => ∃ c, x = .bl c ∧ Q c H1
theorem z3d {e : Expr} {t : TE} (h : PE X e t) (he : ∀ whole, isTrue e X.env whole = (do let v ← whole; standAt e.pos; holding [v] (truthy v)) := by intro _; rfl) : PT X e (tB t) := by
 intro pins s σ H Q I hw
 refine isTrue_plain (thn (h pins s σ H _ I hw) fun v s1 ⟨x, H1, I1, r1, q1⟩ => ?_) (he _)
 obtain ⟨d, rfl, q⟩ := q1
 cases r1
 exact wpAny_truthy_bool ⟨H1, I1, q⟩
variable {tA tB' : TT} {rest : List Expr}
def tAnd (t u : TT) : TT := fun σ H Q => t σ H fun c H1 => if c = true then u σ H1 Q else Q false H1
def tOr (t u : TT) : TT := fun σ H Q => t σ H fun c H1 => if c = true then Q true H1 else u σ H1 Q
theorem z4a (ha : PT X a tA) : PW X (.BoolOp .And [a] pos) tA := by
 intro wh pins s σ H Q I h
 refine isTrue_and (thn (ha pins s σ H Q I h) fun c s1 e => ?_)
 cases c with
 | true => exact isTrue_and_nil e
 | false => exact e
theorem z6x (ha : PT X a tA) : PW X (.BoolOp .Or [a] pos) tA := by
 intro wh pins s σ H Q I h
 refine isTrue_or (thn (ha pins s σ H Q I h) fun c s1 e => ?_)
 cases c with
 | false => exact isTrue_or_nil e
 | true => exact e
theorem z3e (ha : PT X a tA) (hb : PW X (.BoolOp .And (b :: rest) pos) tB') : PW X (.BoolOp .And (a :: b :: rest) pos) (tAnd tA tB') := by
 intro wh pins s σ H Q I h
 refine isTrue_and (thn (ha pins s σ H _ I h) fun c s1 ⟨H1, I1, q1⟩ => ?_)
 cases c with
 | true => exact hb wh pins s1 σ H1 Q I1 q1
 | false => exact ⟨H1, I1, q1⟩
theorem z8q (ha : PT X a tA) (hb : PW X (.BoolOp .Or (b :: rest) pos) tB') : PW X (.BoolOp .Or (a :: b :: rest) pos) (tOr tA tB') := by
 intro wh pins s σ H Q I h
 refine isTrue_or (thn (ha pins s σ H _ I h) fun c s1 ⟨H1, I1, q1⟩ => ?_)
 cases c with
 | true => exact ⟨H1, I1, q1⟩
 | false => exact hb wh pins s1 σ H1 Q I1 q1
def z8r (ta tb : TE) : TE := fun σ H Q => ta σ H fun x H1 => ∃ c, x = .bl c ∧ if c = true then tb σ H1 Q else Q (.bl false) H1
theorem z1v {op} {t : TE} (h : PE X a t) : PE X (.BoolOp op [a] pos) t := fun pins s σ H Q I hw => BoolOp_one (h pins s σ H Q I hw)
theorem z1w (ha : PE X a ta) (hb : PE X (.BoolOp .And (b :: rest) pos) tb) : PE X (.BoolOp .And (a :: b :: rest) pos) (z8r ta tb) := by
 intro pins s σ H Q I h
 refine BoolOp_and (thn (ha pins s σ H _ I h) fun v s1 ⟨x, H1, I1, r1, q1⟩ => ?_)
 obtain ⟨c, rfl, q1⟩ := q1
 cases r1
 refine wpAny_truthy_bool ?_
 cases c with
 | true => exact hb pins s1 σ H1 Q I1 q1
 | false => exact ⟨.bl false, H1, I1, rfl, q1⟩
end
end L2
namespace L2
open PySem PySem.Spec PyProof.Rows
def SqL (K : PySem.W.Frag) (H : Hp) (a : Addr) (xs : List V) : Prop :=
 Rd H a (.lst xs) ∨
  ∃ (o : Obj) (its : Array Value) (n : Nat), K.lookup a = some o ∧ o.cls = .type "list" ∧ o.dict = none ∧ o.data = .seq its n ∧ its.size ≤ sizeLine ∧ Vals xs its.toList
def SqT (K : PySem.W.Frag) (H : Hp) (a : Addr) (xs : List V) : Prop :=
 Rd H a (.tup xs) ∨
  ∃ (o : Obj) (its : Array Value) (n : Nat), K.lookup a = some o ∧ o.cls = .type "tuple" ∧ o.data = .seq its n ∧ its.size ≤ sizeLine ∧ Vals xs its.toList
def absV : Value → Option V
 | .none => some .non
 | .bool b => some (.bl b)
 | .int i _ => some (.int i)
 | .str x _ => some (.str x)
 | .bytes b _ => some (.byt b)
 | .float b _ => some (.flt b)
 | .ref a => some (.ref a)
 | .type n => some (.ty n)
 | _ => none
theorem RelV.abs {x : V} {u : Value} (r : RelV x u) : absV u = some x := by
 cases x with
 | non => cases r; rfl
 | bl _ => cases r; rfl
 | int _ => obtain ⟨t, rfl⟩ := r; rfl
 | str _ => obtain ⟨t, rfl⟩ := r; rfl
 | byt _ => obtain ⟨t, rfl⟩ := r; rfl
 | flt _ => obtain ⟨t, rfl⟩ := r; rfl
 | ref _ => cases r; rfl
 | ty _ => cases r; rfl
theorem RelV.inj {x y : V} {u : Value} (r : RelV x u) (q : RelV y u) : x = y := Option.some.inj (r.abs.symm.trans q.abs)
theorem Vals.inj : ∀ {xs ys : List V} {us : List Value}, Vals xs us → Vals ys us → xs = ys
 | _, _, _, .nil, .nil => rfl
 | _, _, _, .cons r t, .cons r' t' => by rw [r.inj r', Vals.inj t t']
section
variable {X : Cx} {pins : List (Addr × Obj)} {σ : St} {H : Hp} {s : Shared} {a : Addr} {xs ys : List V}
theorem SqL.of {K : PySem.W.Frag} (h : H a = some (.lst xs)) : SqL K H a xs := .inl (.inl h)
theorem SqT.of {K : PySem.W.Frag} (h : H a = some (.tup xs)) : SqT K H a xs := .inl (.inl h)
theorem Inv.list (I : Inv X pins σ H s) (h : SqL X.K H a xs) : ∃ its : List Value, Vals xs its ∧ PlainL s.heap a its.toArray ∧ xs.length ≤ sizeLine := by
 rcases h with h | ⟨o, its, n, hk, hc, hd, hs, hz, r⟩
 ·obtain ⟨z, its, n, r, e⟩ := h.ok I.hok
  exact ⟨its, r, ⟨_, n, e, rfl, rfl, rfl⟩, z⟩
 ·refine ⟨its.toList, r, ⟨o, n, I.kIn a o hk, hc, hd, by simpa using hs⟩, ?_⟩
  have e := r.length
  simp only [Array.length_toList] at e
  omega
theorem Inv.tuple (I : Inv X pins σ H s) (h : SqT X.K H a xs) : ∃ its : List Value, Vals xs its ∧ IsTup s.heap a its.toArray ∧ xs.length ≤ sizeLine := by
 rcases h with h | ⟨o, its, n, hk, hc, hs, hz, r⟩
 ·obtain ⟨z, its, r, p⟩ := h.ok I.hok
  exact ⟨its, r, p, z⟩
 ·refine ⟨its.toList, r, ⟨o, I.kIn a o hk, hc, n, by simpa using hs⟩, ?_⟩
  have e := r.length
  simp only [Array.length_toList] at e
  omega
theorem Inv.list_inj (I : Inv X pins σ H s) (h : SqL X.K H a xs) (h' : SqL X.K H a ys) : xs = ys := by
 obtain ⟨its, r, ⟨o, n, e, _, _, d⟩, _⟩ := I.list h
 obtain ⟨its', r', ⟨o', n', e', _, _, d'⟩, _⟩ := I.list h'
 rw [e] at e'; cases e'
 rw [d] at d'
 injection d' with d1 _
 have : its = its' := by simpa using congrArg Array.toList d1
 subst this
 exact r.inj r'
end
abbrev Cx.wish (X : Cx) (E : Value → Shared → Prop) : Cx := { X with xe := E }
abbrev Cx.nox (X : Cx) : Cx := X.wish fun _ _ => False
theorem Cx.Ok.wish {X : Cx} (ok : X.Ok) (E : Value → Shared → Prop) : (X.wish E).Ok :=
 ⟨ok.mod, ok.kind, ok.glob, ok.blt, ok.above, ok.inj, ok.has, ok.cab, ok.hd, ok.frames, ok.stk, ok.exf, ok.bs, ok.bsz, ok.noex, ok.exfs, ok.funs, ok.frf⟩
theorem Cx.Ok.unwish {X : Cx} {E : Value → Shared → Prop} (ok : (X.wish E).Ok) : X.Ok :=
 ⟨ok.mod, ok.kind, ok.glob, ok.blt, ok.above, ok.inj, ok.has, ok.cab, ok.hd, ok.frames, ok.stk, ok.exf, ok.bs, ok.bsz, ok.noex, ok.exfs, ok.funs, ok.frf⟩
section
variable {X : Cx} {pins : List (Addr × Obj)} {σ : St} {H : Hp} {s : Shared} {E : Value → Shared → Prop}
theorem Inv.wish (I : Inv X pins σ H s) (E : Value → Shared → Prop) : Inv (X.wish E) pins σ H s := ⟨I.ok.wish E, I.os, I.bare, I.base, I.loc, I.cell, I.free, I.freeC, I.pin, I.hok, I.len⟩
theorem Inv.unwish (I : Inv (X.wish E) pins σ H s) : Inv X pins σ H s := ⟨I.ok.unwish, I.os, I.bare, I.base, I.loc, I.cell, I.free, I.freeC, I.pin, I.hok, I.len⟩
theorem SP.unwish {D : Ends} {f : Flow} {s' : Shared} (h : SP (X.wish E) pins D f s') : SP X pins D f s' := by
 cases f with
 | next => obtain ⟨σ', H', I, q⟩ := h; exact ⟨σ', H', I.unwish, q⟩
 | brk => obtain ⟨σ', H', I, q⟩ := h; exact ⟨σ', H', I.unwish, q⟩
 | cont => obtain ⟨σ', H', I, q⟩ := h; exact ⟨σ', H', I.unwish, q⟩
 | ret u => obtain ⟨v, σ', H', I, r, q⟩ := h; exact ⟨v, σ', H', I.unwish, r, q⟩
theorem PE.nox {e : Expr} {t : TE} (h : PE X.nox e t) : PE X e t := fun pins s σ H Q I hw =>
 wpAny_mono (h pins s σ H Q (I.wish _) hw) (fun _ _ ⟨v, H', I', r, q⟩ => ⟨v, H', I'.unwish, r, q⟩) fun _ _ z => False.elim z
theorem PT.nox {e : Expr} {t : TT} (h : PT X.nox e t) : PT X e t := fun pins s σ H Q I hw =>
 wpAny_mono (h pins s σ H Q (I.wish _) hw) (fun _ _ ⟨H', I', q⟩ => ⟨H', I'.unwish, q⟩) fun _ _ z => False.elim z
theorem PSs.nox {st : List Stmt} {t : TS} (h : PSs X.nox st t) : PSs X st t := fun pins s σ H D I hw =>
 wpAny_mono (h pins s σ H D (I.wish _) hw) (fun _ _ q => q.unwish) fun _ _ z => False.elim z
end
section
variable {X : Cx} {st : Stmt} {rest : List Stmt} {t u : TS} {e : Expr} {te : TE} {pos : Pos}
def z8s : TS := fun D σ H => D.nx σ H
def tSeq (t u : TS) : TS := fun D σ H => t { D with nx := u D } σ H
theorem zr : PSs X [] z8s := fun _ _ σ H _ I h => wpAny_execs_nil ⟨σ, H, I, h⟩
theorem zb (h1 : PS X st t) (h2 : PSs X rest u) : PSs X (st :: rest) (tSeq t u) := by
 intro pins s σ H D I h
 refine wpAny_execs_cons (thn (h1 pins s σ H { D with nx := u D } I h) fun f s1 q => ?_)
 cases f with
 | next =>
  obtain ⟨σ', H', I', q⟩ := q
  exact h2 pins s1 σ' H' D I' q
 | ret v => exact q
 | brk => exact q
 | cont => exact q
theorem zg (h1 : PS X st t) : PSs X [st] t := by
 intro pins s σ H D I h
 refine wpAny_execs_cons (thn (h1 pins s σ H D I h) fun f s1 q => ?_)
 cases f with
 | next => exact wpAny_execs_nil q
 | ret v => exact q
 | brk => exact q
 | cont => exact q
theorem Inv.quiet {pins : List (Addr × Obj)} {σ : St} {H : Hp} {s : Shared} (I : Inv X pins σ H s) : interactive X.env = false := by simp [interactive, I.ok.kind]
def z6s (te : TE) : TS := fun D σ H => te σ H fun _ H1 => D.nx σ H1
theorem z3f (he : PE X e te) (hs : swapsWith e none pos.line X.env = pure false := by rfl) : PS X (.Expr e pos) (z6s te) := by
 intro pins s σ H D I h
 exact wpAny_Expr_any (thn (he pins s σ H _ I h) fun v s1 ⟨x, H1, I1, r1, q1⟩ => ⟨σ, H1, I1, q1⟩) I.quiet hs
def tRet (te : TE) : TS := fun D σ H => te σ H D.rt
theorem zv (he : PE X e te) : PS X (.Return (some e) pos) (tRet te) := by
 intro pins s σ H D I h
 exact wpAny_Return_some (thn (he pins s σ H _ I h) fun v s1 ⟨x, H1, I1, r1, q1⟩ => ⟨x, σ, H1, I1, r1, q1⟩)
def tIfS (c : TT) (t u : TS) : TS := fun D σ H => c σ H fun b H1 => if b = true then t D σ H1 else u D σ H1
theorem z10 {c : Expr} {a b : List Stmt} {tc : TT} (hc : PT X c tc) (ha : PSs X a t) (hb : PSs X b u) : PS X (.If c a b pos) (tIfS tc t u) := by
 intro pins s σ H D I h
 refine wpAny_If (thn (hc pins s σ H _ I h) fun d s1 ⟨H1, I1, q1⟩ => ?_)
 cases d with
 | true => exact ha pins s1 σ H1 D I1 q1
 | false => exact hb pins s1 σ H1 D I1 q1
end
abbrev TG := V → St → Hp → (St → Hp → Prop) → Prop
abbrev TGs := List V → St → Hp → (St → Hp → Prop) → Prop
def PG (X : Cx) (target : Expr) (t : TG) : Prop :=
 ∀ (pins : List (Addr × Obj)) (s : Shared) (σ : St) (H : Hp) (v : V) (u : Value) (Q : St → Hp → Prop), Inv X pins σ H s → RelV v u → t v σ H Q →
  wpAny (model X.prog X.w) X.A (assign target X.env u) (fun _ s' => ∃ σ' H', Inv X pins σ' H' s' ∧ Q σ' H') X.xe s
def PGs (X : Cx) (ts : List Expr) (t : TGs) : Prop :=
 ∀ (pins : List (Addr × Obj)) (s : Shared) (σ : St) (H : Hp) (vs : List V) (us : List Value) (Q : St → Hp → Prop), Inv X pins σ H s → Vals vs us → t vs σ H Q →
  wpAny (model X.prog X.w) X.A (assignInOrder ((assignEach ts X.env).map (·.2)) us) (fun _ s' => ∃ σ' H', Inv X pins σ' H' s' ∧ Q σ' H') X.xe s
section
variable {X : Cx} {pos : Pos}
def z1r (i : Nat) : TG := fun v σ H Q => Q (σ.set i (some v)) H
theorem z1n {i : Nat} {x : Str} (hN : X.N.Nodup) (hi : X.N[i]? = some x) (hx : Loc X.env.scope x) (hf : X.fn x = true ∨ X.env.scope.names.lookup x = some .local := by first | exact .inl rfl | exact .inr rfl | assumption) : PG X (.Name x pos) (z1r i) := by
 intro pins s σ H v u Q I r h
 exact wpAny_assign_Name (z4y I hN hi hx r (fun s' I' => ⟨_, H, I', h⟩) hf)
def gNil : TGs := fun vs σ H Q => vs = [] ∧ Q σ H
def z8t (t : TG) (u : TGs) : TGs := fun vs σ H Q => ∃ v r, vs = v :: r ∧ t v σ H fun σ' H' => u r σ' H' Q
theorem zbf : PGs X [] gNil := by
 intro pins s σ H vs us Q I r h
 obtain ⟨e, h⟩ := h
 subst e
 cases r
 exact assignInOrder_nil ⟨σ, H, I, h⟩
theorem z2y {e : Expr} {es : List Expr} {t : TG} {u : TGs} (h1 : PG X e t) (h2 : PGs X es u)
  (hs : (assignEach (e :: es) X.env).map (·.2) = assign e X.env :: (assignEach es X.env).map (·.2) := by rfl) : PGs X (e :: es) (z8t t u) := by
 intro pins s σ H vs us Q I r h
 obtain ⟨v, vr, e1, h⟩ := h
 subst e1
 cases r with
 | cons r rr =>
  rw [hs]
  refine assignInOrder_cons (thn (h1 pins s σ H _ _ _ I r h) fun _ s1 ⟨σ1, H1, I1, q1⟩ => ?_)
  exact h2 pins s1 σ1 H1 _ _ Q I1 rr q1
def gTup (K : PySem.W.Frag) (n : Nat) (t : TGs) : TG := fun v σ H Q => ∃ a xs, v = .ref a ∧ SqT K H a xs ∧ xs.length = n ∧ t xs σ H Q
theorem zby {es : List Expr} {k : Nat} {t : TGs} {n : Nat} (hc : X.calm = true) (h : PGs X es t)
  (hn : (assignEach es X.env).length = n := by rfl) (hst : (assignEach es X.env).findIdx? (·.1) = none := by rfl) : PG X (.Tuple es k pos) (gTup X.K n t) := by
 intro pins s σ H v u Q I r hw
 obtain ⟨a, xs, e1, hq, hl, hw⟩ := hw
 subst e1
 cases r
 obtain ⟨its, rv, ht, hz⟩ := I.tuple hq
 refine assign_Tuple_tuple (I.ok.hd hc) ht (by simp [hn, ← hl, rv.length]) hst fun h' hx => ?_
 have I1 : Inv X pins σ H { s with heap := h' } := I.kept (t' := s.toks) fun b o e => hx b o (Nat.ne_of_lt (Heap.lt_size e)) e
 exact h pins _ σ H xs _ Q I1 (by simpa using rv) hw
def tAsg (te : TE) (g : TG) : TS := fun D σ H => te σ H fun x H1 => g x σ H1 D.nx
theorem zbz {tg e : Expr} {te : TE} {g : TG} (he : PE X e te) (hg : PG X tg g) (hs : swapsWithSole [tg] e pos.line X.env = pure false := by rfl) (hw : swappedStores [tg] e X.env = pure none := by rfl)
  (h1 : (assignEach [tg] X.env).map (·.2) = [assign tg X.env] := by rfl) : PS X (.Assign [tg] e pos) (tAsg te g) := by
 intro pins s σ H D I h
 refine wpAny_Assign_stores (thn (he pins s σ H _ I h) fun v s1 ⟨x, H1, I1, r1, q1⟩ => ?_) hs hw
 rw [h1]
 exact thn (hg pins s1 σ H1 x v _ I1 r1 q1) fun _ s2 q => q
theorem zq {i : Nat} {x : Str} {e : Expr} {te : TE} {pos' : Pos} (hN : X.N.Nodup) (hi : X.N[i]? = some x) (hx : Loc X.env.scope x) (he : PE X e te) (hs : swapsWith e (some (.Name x pos')) pos.line X.env = pure false := by rfl) (hf : X.fn x = true ∨ X.env.scope.names.lookup x = some .local := by first | exact .inl rfl | exact .inr rfl | assumption) :
  PS X (.Assign [.Name x pos'] e pos) (tAsg te (z1r i)) := by
 intro pins s σ H D I h
 refine wpAny_Assign_Name (thn (he pins s σ H _ I h) fun v s1 ⟨y, H1, I1, r1, q1⟩ => ?_) hs
 exact z4y I1 hN hi hx r1 (fun s2 I2 => ⟨_, H1, I2, q1⟩) hf
end
section
variable {X : Cx} {pos : Pos}
end
structure It where
 go : Nat → Hp → Prop
 yld : Nat → Hp → V → Hp → Prop
 stop : Nat → Hp → Prop
def FpOk (X : Cx) (pins : List (Addr × Obj)) (H : Hp) (b : Addr) : Prop :=
 H b = none ∧ b ≠ X.env.locals ∧ b ∉ X.fs ∧ (b ∈ X.ex ∨ X.s₀.heap.objs.size ≤ b) ∧ (∀ x c, X.env.cells.lookup x = some c → c ≠ b) ∧ ∀ p ∈ X.pn ++ pins, p.1 ≠ b
theorem Inv.fpOk {X : Cx} {pins : List (Addr × Obj)} {σ : St} {H H' : Hp} {s : Shared} {b : Addr} (I : Inv X pins σ H s) (hb : s.heap.objs.size ≤ b) (hn : H' b = none) : FpOk X pins H' b := by
 refine ⟨hn, Nat.ne_of_gt (Nat.lt_of_lt_of_le I.lt hb), I.nofs hb, .inr (Nat.le_trans I.sz hb), fun x c e z => ?_, fun p hp z => ?_⟩
 ·obtain ⟨v, q⟩ := I.cell x c e
  exact absurd (Nat.lt_of_lt_of_le q.lt (by rw [z]; exact hb)) (Nat.lt_irrefl _)
 ·exact absurd (Nat.lt_of_lt_of_le (Heap.lt_size (I.pin p hp).1) (by rw [z]; exact hb)) (Nat.lt_irrefl _)
structure Turn (P : Program) (w : World) (K : PySem.W.Frag) (tg : Expr) (J : It) (fp : List Addr) (it : Addr) (tn : Nat → Heap → Prop) : Prop where
 mem : it ∈ fp
 obj : ∀ i h, tn i h → ∀ b ∈ fp, ∃ o, h.get? b = some o ∧ ∀ v, o.data ≠ .cell v
 keep : ∀ i h h', tn i h → (∀ b ∈ fp, ∀ o, h.get? b = some o → h'.get? b = some o) → tn i h'
 item : ∀ (X : Cx), X.prog = P → X.w = w → X.K = K → X.calm = true → ∀ (i : Nat) (pins : List (Addr × Obj)) (s : Shared) (σ : St) (H : Hp) (E : Value → Shared → Prop), Inv X pins σ H s → (∀ b ∈ fp, FpOk X pins H b) → tn i s.heap → J.go i H →
  wpAny (model P w) X.A (pyNext (.ref it)) (fun r s1 => ∃ u, r = some u ∧
   wpAny (model P w) X.A (letOwnedTupleGo tg (.ref it) u) (fun _ s2 => ∃ x H', Inv X pins σ H' s2 ∧ RelV x u ∧ J.yld i H x H' ∧ tn (i + 1) s2.heap ∧ ∀ b ∈ fp, H' b = none) E s1) E s
 done : ∀ (X : Cx), X.prog = P → X.w = w → X.K = K → X.calm = true → ∀ (i : Nat) (pins : List (Addr × Obj)) (s : Shared) (σ : St) (H : Hp) (E : Value → Shared → Prop), Inv X pins σ H s → (∀ b ∈ fp, FpOk X pins H b) → tn i s.heap → J.stop i H →
  wpAny (model P w) X.A (pyNext (.ref it)) (fun r s1 => r = none ∧ Inv X pins σ H s1) E s
 self : ∀ (A : Around) (i : Nat) (s : Shared) (Q : Value → Shared → Prop) (E : Value → Shared → Prop), tn i s.heap → Q (.ref it) s → wpAny (model P w) A (pyIter (.ref it)) Q E s
abbrev TI := St → Hp → (It → Hp → Prop) → Prop
def PIE (X : Cx) (pins : List (Addr × Obj)) (σ : St) (tg : Expr) (R : It → Hp → Prop) (itv : Value) (s2 : Shared) : Prop :=
 ∃ (it : Addr) (fp : List Addr) (tn : Nat → Heap → Prop) (J : It) (H' : Hp), itv = .ref it ∧ Inv X pins σ H' s2 ∧ Turn X.prog X.w X.K tg J fp it tn ∧ tn 0 s2.heap ∧ (∀ b ∈ fp, FpOk X pins H' b) ∧ R J H'
def PI (X : Cx) (tg iter : Expr) (wi : TI) : Prop :=
 ∀ (pins : List (Addr × Obj)) (s : Shared) (σ : St) (H : Hp) (R : It → Hp → Prop), Inv X pins σ H s → wi σ H R →
  wpAny (model X.prog X.w) X.A (eval iter X.env) (fun v s1 => wpAny (model X.prog X.w) X.A (pyIter v) (PIE X pins σ tg R) X.xe s1) X.xe s
theorem zb5 {M : Model} {A : Around} {E : Value → Shared → Prop} {s : Shared} {tg : Expr} {it : Addr} {u : Value} {o : Obj} {n : String} {vs : Array Value} {Q : Unit → Shared → Prop} (ho : s.heap.get? it = some o) (hc : o.cls = .type n) (hd : o.data = .fields vs)
    (hn : ["enumerate", "zip", "dict_itemiterator", "dict_reverseitemiterator", "odict_iterator", "itertools.zip_longest", "itertools.pairwise"].contains n = false) (hQ : Q () s) : wpAny M A (letOwnedTupleGo tg (.ref it) u) Q E s := by
  unfold letOwnedTupleGo
  cases tg <;> first
    | exact wpAny_pure hQ
    | (cases u <;> first
        | exact wpAny_pure hQ
        | (refine wpAny_bind (wpAny_load ho ?_)
           rw [hc, hd]
           show wpAny M A (if (["enumerate", "zip", "dict_itemiterator", "dict_reverseitemiterator", "odict_iterator", "itertools.zip_longest", "itertools.pairwise"].contains n && vs[0]? == some (rawInt _)) = true then _ else _) Q E s
           rw [if_neg (by intro h; rw [hn, Bool.false_and] at h; cases h)]
           exact wpAny_pure hQ))
def Itl (K : PySem.W.Frag) (a : Addr) : It :=
 ⟨fun i H => ∃ xs x, SqL K H a xs ∧ xs[i]? = some x, fun i H x H' => H' = H ∧ ∀ xs, SqL K H a xs → xs[i]? = some x, fun i H => ∃ xs, SqL K H a xs ∧ xs.length ≤ i⟩
def Itr (lo : Int) (n : Nat) : It := ⟨fun i _ => i < n, fun i H x H' => H' = H ∧ x = .int (lo + i), fun i _ => n ≤ i⟩
theorem z9q {P : Program} {w : World} {K : PySem.W.Frag} {tg : Expr} (a it : Addr) : Turn P w K tg (Itl K a) [it] it (fun i h => h.IsListIter it a i) where
 mem := by simp
 obj := fun i h st b hb => by
  have e : b = it := by simpa using hb
  subst e
  obtain ⟨o, e, c, d⟩ := st
  exact ⟨o, e, fun v z => by rw [d] at z; cases z⟩
 keep := fun i h h' st k => st.at fun o e => k it (by simp) o e
 item := by
  intro X hP hw hK hc i pins s σ H E I hf st hg
  subst hP hw hK
  obtain ⟨xs, x, hq, hx⟩ := hg
  obtain ⟨its, rv, p, hz⟩ := I.list hq
  obtain ⟨u, hu, ru⟩ := rv.get hx
  obtain ⟨f0, f1, f2, f3, f4, f5⟩ := hf it (by simp)
  refine wpAny_pyNext_list_item st p.isList (x := u) (by simpa using hu) fun h' st' sb => ?_
  have I1 : Inv X pins σ H { s with heap := h' } := I.turned (t' := s.toks) (fun b o hb e => (sb.2 b hb).trans e) f0 f1 f3 f4 f5
  obtain ⟨o, e, c, d⟩ := id st'
  exact ⟨u, rfl, zb5 (s := { s with heap := h' }) e c d (by decide) ⟨x, H, I1, ru, ⟨rfl, fun ys hy => by rw [I.list_inj hy hq]; exact hx⟩, st', fun b hb => (hf b hb).1⟩⟩
 done := by
  intro X hP hw hK hc i pins s σ H E I hf st hg
  subst hP hw hK
  obtain ⟨xs, hq, hx⟩ := hg
  obtain ⟨its, rv, p, hz⟩ := I.list hq
  obtain ⟨f0, f1, f2, f3, f4, f5⟩ := hf it (by simp)
  have hl := rv.length
  exact wpAny_pyNext_list_end (I.ok.hd hc) st p.isList (by simp; omega) fun h' eb => ⟨rfl, I.turned (t' := s.toks) (fun b o hb e => eb b o hb e) f0 f1 f3 f4 f5⟩
 self := fun _ _ _ _ _ st h => wpAny_pyIter_listiter st h
theorem z8u {P : Program} {w : World} {K : PySem.W.Frag} {tg : Expr} (it : Addr) (lo : Int) (n : Nat) : Turn P w K tg (Itr lo n) [it] it (fun i h => IsRangeIter h it (lo + (i : Nat) * 1) ((n : Int) - (i : Nat)) 1) where
 mem := by simp
 obj := fun i h st b hb => by
  have e : b = it := by simpa using hb
  subst e
  exact ⟨_, st, fun v z => by
   have z' : Data.fields _ = Data.cell v := z
   cases z'⟩
 keep := fun i h h' st k => k it (by simp) _ st
 item := by
  intro X hP hw hK hc i pins s σ H E I hf st hg
  subst hP hw hK
  obtain ⟨f0, f1, f2, f3, f4, f5⟩ := hf it (by simp)
  have W := Walks.range (prog := X.prog) (w := X.w) (I.ok.hd hc) it lo 1 n
  refine W.item i s _ _ hg st fun v h' tk hv st' kk => ?_
  obtain ⟨t, rfl⟩ := hv
  have I1 : Inv X pins σ H { s with heap := h', toks := tk } := I.turned (fun b o hb e => kk b o (by simpa using hb) e) f0 f1 f3 f4 f5
  refine ⟨_, rfl, zb5 (s := { s with heap := h', toks := tk }) (n := "range_iterator") st' rfl rfl (by decide) ⟨.int (lo + i), H, I1, ⟨t, ?_⟩, ⟨rfl, rfl⟩, st', fun b hb => (hf b hb).1⟩⟩
  rw [Int.mul_one]
 done := by
  intro X hP hw hK hc i pins s σ H E I hf st hg
  subst hP hw hK
  obtain ⟨f0, f1, f2, f3, f4, f5⟩ := hf it (by simp)
  exact wpAny_pyNext_range_end (I.ok.hd hc) st (by have : n ≤ i := hg; omega) fun h' eb => ⟨rfl, I.turned (t' := s.toks) (fun b o hb e => eb b o hb e) f0 f1 f3 f4 f5⟩
 self := fun _ _ _ _ _ st h => wpAny_pyIter_rangeiter st h
end L2
namespace L2
open PySem PySem.Spec PyProof.Rows
section
variable {X : Cx} {tg : Expr}
def z8v (K : PySem.W.Frag) (tl : TE) : TI := fun σ H R => tl σ H fun x H1 => ∃ a, x = .ref a ∧ (∃ xs, SqL K H1 a xs) ∧ R (Itl K a) H1
theorem z3g {l : Expr} {tl : TE} (hl : PE X l tl) : PI X tg l (z8v X.K tl) := by
 intro pins s σ H R I h
 refine thn (hl pins s σ H _ I h) fun v s1 ⟨x, H1, I1, r1, q1⟩ => ?_
 obtain ⟨a, e, ⟨xs, hq⟩, q⟩ := q1
 subst e
 cases r1
 obtain ⟨its, rv, p, hz⟩ := I1.list hq
 refine wpAny_pyIter_list p.isList ?_
 refine ⟨s1.heap.objs.size, [s1.heap.objs.size], _, _, H1, rfl, I1.kept (t' := s1.toks) fun b o e => Heap.get?_push_of_some _ e, z9q a _, ⟨_, Heap.get?_push_size _ rfl, rfl, rfl⟩, fun b hb => ?_, q⟩
 have e : b = s1.heap.objs.size := by simpa using hb
 subst e
 exact I1.fpOk (Nat.le_refl _) (I1.hok.fresh (Nat.le_refl _))
theorem z6y {pins : List (Addr × Obj)} {σ : St} {H : Hp} {s : Shared} {R : It → Hp → Prop} {E : Value → Shared → Prop} {lo hi : Int} {t u v : Tok} {tk : Nat} (I : Inv X pins σ H s) (h1 : -(2 ^ 62) ≤ lo) (h2 : lo < 2 ^ 62) (h3 : -(2 ^ 62) ≤ hi) (h4 : hi < 2 ^ 62)
  (q : R (Itr lo (hi - lo).toNat) H) : wpAny (model X.prog X.w) X.A (pyIter (.ref s.heap.objs.size)) (PIE X pins σ tg R) E { s with heap := s.heap.push { cls := .type "range", data := .fields #[.int lo t, .int hi u, .int 1 v] }, toks := tk } := by
 refine wpAny_pyIter_range (IsRange.new ..) (small_one h1 h2 h3 h4) ?_
 have I1 : Inv X pins σ H { s with heap := s.heap.push { cls := .type "range", data := .fields #[.int lo t, .int hi u, .int 1 v] }, toks := tk } := I.kept fun b o e => Heap.get?_push_of_some _ e
 refine ⟨(s.heap.push { cls := .type "range", data := .fields #[.int lo t, .int hi u, .int 1 v] }).objs.size, [(s.heap.push { cls := .type "range", data := .fields #[.int lo t, .int hi u, .int 1 v] }).objs.size], _, _, H, rfl,
  I1.kept (t' := tk) fun b o e => Heap.get?_push_of_some _ e, z8u _ lo (hi - lo).toNat, ?_, fun b hb => ?_, q⟩
 ·have e1 : lo + ((0 : Nat) : Int) * 1 = lo := by simp
  have e2 : (((hi - lo).toNat : Nat) : Int) - ((0 : Nat) : Int) = Builtin.Range.rangeSize lo hi 1 := by rw [rangeSize_one]; split <;> omega
  show IsRangeIter _ _ (lo + ((0 : Nat) : Int) * 1) ((((hi - lo).toNat : Nat) : Int) - ((0 : Nat) : Int)) 1
  rw [e1, e2]
  exact Heap.get?_push_size _ rfl
 ·have e : b = (s.heap.push { cls := .type "range", data := .fields #[.int lo t, .int hi u, .int 1 v] }).objs.size := by simpa using hb
  subst e
  exact I1.fpOk (Nat.le_refl _) (I1.hok.fresh (Nat.le_refl _))
def z8w (ta : TA) : TI := fun σ H R => ta σ H fun vs H1 => ∃ j : Int, vs = [.int j] ∧ -(2 ^ 62) ≤ j ∧ j < 2 ^ 62 ∧ R (Itr 0 j.toNat) H1
def zb6 (ta : TA) : TI := fun σ H R => ta σ H fun vs H1 => ∃ i j : Int, vs = [.int i, .int j] ∧ (-(2 ^ 62) ≤ i ∧ i < 2 ^ 62 ∧ -(2 ^ 62) ≤ j ∧ j < 2 ^ 62) ∧ R (Itr i (j - i).toNat) H1
theorem z1s {a : Expr} {ta : TA} {p pos : Pos} (hg : Gl X "range") (hm : X.mg "range" = none) (ha : PA X [a] ta) (hs : starEach [a] X.env = [(false, eval a X.env)] := by rfl) : PI X tg (.Call (.Name "range" p) [a] [] pos) (z8w ta) := by
 intro pins s σ H R I h
 refine Call_ (z3c I hg hm boot_range (PyProof.Rows.callWith_type1 (thn (ha pos pins s σ H _ I h) fun us s1 ⟨vs, H1, I1, r1, q1⟩ => ?_) hs rfl))
 obtain ⟨j, e, q1, q2, q⟩ := q1
 subst e
 cases r1 with
 | cons r rr =>
  cases rr
  obtain ⟨t, rfl⟩ := r
  exact call_range_1 (z6y I1 (by omega) (by omega) q1 q2 (by simpa using q))
theorem z9r {a b : Expr} {ta : TA} {p pos : Pos} (hg : Gl X "range") (hm : X.mg "range" = none) (ha : PA X [a, b] ta) (hs : starEach [a, b] X.env = [(false, eval a X.env), (false, eval b X.env)] := by rfl) (hs2 : starEach [b] X.env = [(false, eval b X.env)] := by rfl) :
  PI X tg (.Call (.Name "range" p) [a, b] [] pos) (zb6 ta) := by
 intro pins s σ H R I h
 refine Call_ (z3c I hg hm boot_range (PyProof.Rows.callWith_type1 (thn (ha pos pins s σ H _ I h) fun us s1 ⟨vs, H1, I1, r1, q1⟩ => ?_) (by rw [hs, hs2]) (by rw [hs2]; rfl)))
 obtain ⟨i, j, e, ⟨q1, q2, q3, q4⟩, q⟩ := q1
 subst e
 cases r1 with
 | cons r rr =>
  cases rr with
  | cons r' rr =>
   cases rr
   obtain ⟨t, rfl⟩ := r
   obtain ⟨t', rfl⟩ := r'
   exact call_range_2 (z6y I1 q1 q2 q3 q4 q)
def tFor (wi : TI) (g : TG) (tb : TS) : TS := fun D σ H => wi σ H fun J H1 => ∃ W : Nat → Nat → St → Hp → Prop, (∃ m, W 0 m σ H1) ∧ ∀ i m σ H, W i m σ H →
 (J.stop i H ∧ D.nx σ H) ∨ (J.go i H ∧ ∃ N : St → Hp → Prop, (∀ σ' H', N σ' H' → ∃ m', m' < m ∧ W (i + 1) m' σ' H') ∧ ∀ x H', J.yld i H x H' → g x σ H' fun σ2 H2 => tb { D with nx := N, ct := N, bk := D.nx } σ2 H2)
def z3h (fp : List Addr) (h : Heap) : List (Addr × Obj) := fp.filterMap fun b => (h.get? b).map fun o => (b, o)
theorem z2s {fp : List Addr} {h : Heap} {b : Addr} {o : Obj} (hb : b ∈ fp) (e : h.get? b = some o) : (b, o) ∈ z3h fp h := List.mem_filterMap.mpr ⟨b, hb, by rw [e]; rfl⟩
theorem z9s {fp : List Addr} {h : Heap} {p : Addr × Obj} (hp : p ∈ z3h fp h) : p.1 ∈ fp ∧ h.get? p.1 = some p.2 := by
 obtain ⟨b, hb, e⟩ := List.mem_filterMap.mp hp
 cases q : h.get? b with
 | none => rw [q] at e; cases e
 | some o =>
  rw [q] at e
  have e' : (b, o) = p := Option.some.inj e
  subst e'
  exact ⟨hb, q⟩
theorem Inv.pinned {pins : List (Addr × Obj)} {σ : St} {H : Hp} {s : Shared} {fp : List Addr} (I : Inv X pins σ H s) (hf : ∀ b ∈ fp, FpOk X pins H b) (ho : ∀ b ∈ fp, ∃ o, s.heap.get? b = some o ∧ ∀ v, o.data ≠ .cell v) : Inv X (pins ++ z3h fp s.heap) σ H s :=
 I.pins_of fun p hp => (List.mem_append.mp hp).elim (fun z => I.pin p (List.mem_append_right _ z)) fun z => by
  obtain ⟨hb, e⟩ := z9s z
  obtain ⟨f0, f1, f2, _⟩ := hf p.1 hb
  obtain ⟨o, e', d⟩ := ho p.1 hb
  rw [e] at e'; cases e'
  exact ⟨e, f0, f1, f2, d⟩
theorem Inv.unpinned {pins pl : List (Addr × Obj)} {σ : St} {H : Hp} {s : Shared} (I : Inv X (pins ++ pl) σ H s) : Inv X pins σ H s := I.pins_of fun p hp => I.pin p (List.mem_append_right _ (List.mem_append_left _ hp))
theorem z3i {iter : Expr} {body : List Stmt} {wi : TI} {g : TG} {tb : TS} {pos : Pos} (hp : PassesOwn (model X.prog X.w) X.A X.env X.xe) (hc : X.calm = true) (hi : PI X tg iter wi) (hg : PG X tg g) (hb : PSs X body tb)
  (hs : ∀ x, foldedSetIterable iter X.env x = pure x := by intro _; rfl) : PS X (.For tg iter body [] pos) (tFor wi g tb) := by
 intro pins s σ H D I h
 refine wpAny_For (thn (hi pins s σ H _ I h) fun v s1 h1 => thn h1 fun itv s2 h2 => ?_) hs
 obtain ⟨it, fp, tn, J, H2, e, I2, T, st2, f2, W, ⟨m0, w0⟩, turn⟩ := h2
 subst e
 have stat : ∀ {H' : Hp}, (∀ b ∈ fp, H' b = none) → ∀ b ∈ fp, FpOk X pins H' b := fun hn b hb => ⟨hn b hb, (f2 b hb).2⟩
 refine codeAny_forLoop_any (fun n s' => ∃ i σ' H', Inv X pins σ' H' s' ∧ tn i s'.heap ∧ (∀ b ∈ fp, H' b = none) ∧ W i n σ' H') ?_ m0 ⟨0, σ, H2, I2, st2, fun b hb => (f2 b hb).1, w0⟩
 rintro n s3 ⟨i, σ3, H3, I3, st3, fr3, w3⟩
 rcases turn i n σ3 H3 w3 with ⟨stop, qn⟩ | ⟨go, N, hN, step⟩
 ·refine wpAny_passesOwn hp (thn (T.done X rfl rfl rfl hc i pins s3 σ3 H3 X.xe I3 (stat fr3) st3 stop) fun r s4 ⟨hr, I4⟩ => ?_)
  subst hr
  exact wpAny_execs_nil ⟨σ3, H3, I4, qn⟩
 ·refine wpAny_passesOwn hp (thn (T.item X rfl rfl rfl hc i pins s3 σ3 H3 X.xe I3 (stat fr3) st3 go) fun r s4 ⟨u, hr, h4⟩ => ?_)
  subst hr
  refine wpAny_passesOwn hp (thn h4 fun _ s5 ⟨x, H5, I5, r5, y5, st5, fr5⟩ => ?_)
  have I5' := I5.pinned (stat fr5) (T.obj _ _ st5)
  refine wpAny_passesOwn hp (thn (hg _ s5 σ3 H5 x u _ I5' r5 (step x H5 y5)) fun _ s6 ⟨σ6, H6, I6, q6⟩ => ?_)
  refine wpAny_passesOwn hp (thn (hb _ s6 σ6 H6 _ I6 q6) fun f s7 q7 => ?_)
  have again : ∀ {σ7 : St} {H7 : Hp}, Inv X (pins ++ z3h fp s5.heap) σ7 H7 s7 → N σ7 H7 → ∃ m, m < n ∧ ∃ i σ' H', Inv X pins σ' H' s7 ∧ tn i s7.heap ∧ (∀ b ∈ fp, H' b = none) ∧ W i m σ' H' := fun {σ7 H7} I7 n7 => by
   obtain ⟨m', hm, w7⟩ := hN σ7 H7 n7
   refine ⟨m', hm, i + 1, σ7, H7, I7.unpinned, T.keep _ _ _ st5 fun b hb o e => (I7.pin (b, o) (List.mem_append_right _ (List.mem_append_right _ (z2s hb e)))).1, fun b hb => ?_, w7⟩
   obtain ⟨o, e, d⟩ := T.obj _ _ st5 b hb
   exact (I7.pin (b, o) (List.mem_append_right _ (List.mem_append_right _ (z2s hb e)))).2.1
  cases f with
  | next => obtain ⟨σ7, H7, I7, n7⟩ := q7; exact again I7 n7
  | cont => obtain ⟨σ7, H7, I7, n7⟩ := q7; exact again I7 n7
  | brk => obtain ⟨σ7, H7, I7, q7⟩ := q7; exact ⟨σ7, H7, I7.unpinned, q7⟩
  | ret v => obtain ⟨x7, σ7, H7, I7, r7, q7⟩ := q7; exact ⟨x7, σ7, H7, I7.unpinned, r7, q7⟩
end
theorem zah {K : PySem.W.Frag} {a : Addr} {xs : List V} {g : TG} {tb : TS} {D : Ends} {σ : St} {H : Hp} (Pv : Nat → St → Hp → Prop) (h0 : Pv 0 σ H) (hl : ∀ i σ H, i ≤ xs.length → Pv i σ H → SqL K H a xs)
  (hs : ∀ i x σ H, xs[i]? = some x → Pv i σ H → g x σ H fun σ2 H2 => tb { D with nx := Pv (i + 1), ct := Pv (i + 1), bk := D.nx } σ2 H2) (hd : ∀ σ H, Pv xs.length σ H → D.nx σ H) :
  ∃ W : Nat → Nat → St → Hp → Prop, (∃ m, W 0 m σ H) ∧ ∀ i m σ H, W i m σ H →
   ((Itl K a).stop i H ∧ D.nx σ H) ∨ ((Itl K a).go i H ∧ ∃ N : St → Hp → Prop, (∀ σ' H', N σ' H' → ∃ m', m' < m ∧ W (i + 1) m' σ' H') ∧ ∀ x H', (Itl K a).yld i H x H' → g x σ H' fun σ2 H2 => tb { D with nx := N, ct := N, bk := D.nx } σ2 H2) := by
 refine ⟨fun i m σ H => m = xs.length - i ∧ i ≤ xs.length ∧ Pv i σ H, ⟨xs.length, by simp, Nat.zero_le _, h0⟩, ?_⟩
 rintro i m σ H ⟨rfl, hi, p⟩
 have q := hl i σ H hi p
 by_cases hlt : i < xs.length
 ·refine .inr ⟨⟨xs, xs[i], q, by simp [hlt]⟩, Pv (i + 1), fun σ' H' p' => ⟨xs.length - (i + 1), by omega, rfl, hlt, p'⟩, fun x H' y => ?_⟩
  obtain ⟨e, y⟩ := y
  subst e
  exact hs i x σ _ (y xs q) p
 ·have e : i = xs.length := by omega
  subst e
  exact .inl ⟨⟨xs, q, Nat.le_refl _⟩, hd σ H p⟩
theorem z9t {lo : Int} {n : Nat} {g : TG} {tb : TS} {D : Ends} {σ : St} {H : Hp} (Pv : Nat → St → Hp → Prop) (h0 : Pv 0 σ H)
  (hs : ∀ i σ H, i < n → Pv i σ H → g (.int (lo + i)) σ H fun σ2 H2 => tb { D with nx := Pv (i + 1), ct := Pv (i + 1), bk := D.nx } σ2 H2) (hd : ∀ σ H, Pv n σ H → D.nx σ H) :
  ∃ W : Nat → Nat → St → Hp → Prop, (∃ m, W 0 m σ H) ∧ ∀ i m σ H, W i m σ H →
   ((Itr lo n).stop i H ∧ D.nx σ H) ∨ ((Itr lo n).go i H ∧ ∃ N : St → Hp → Prop, (∀ σ' H', N σ' H' → ∃ m', m' < m ∧ W (i + 1) m' σ' H') ∧ ∀ x H', (Itr lo n).yld i H x H' → g x σ H' fun σ2 H2 => tb { D with nx := N, ct := N, bk := D.nx } σ2 H2) := by
 refine ⟨fun i m σ H => m = n - i ∧ i ≤ n ∧ Pv i σ H, ⟨n, by simp, Nat.zero_le _, h0⟩, ?_⟩
 rintro i m σ H ⟨rfl, hi, p⟩
 by_cases hlt : i < n
 ·refine .inr ⟨hlt, Pv (i + 1), fun σ' H' p' => ⟨n - (i + 1), by omega, rfl, hlt, p'⟩, fun x H' y => ?_⟩
  obtain ⟨e, y⟩ := y
  subst e y
  exact hs i σ _ hlt p
 ·have e : i = n := by omega
  subst e
  exact .inl ⟨Nat.le_refl _, hd σ H p⟩
end L2
namespace L2
open PySem PySem.Spec PyProof.Rows
abbrev R2 := V → V → Hp → VK → Prop
def OpR (X : Cx) (f : Value → Value → Sem Value) (r : R2) : Prop :=
 ∀ (pins : List (Addr × Obj)) (s : Shared) (σ : St) (H : Hp) (x y : V) (v u : Value) (Q : VK), Inv X pins σ H s → RelV x v → RelV y u → r x y H Q →
  wpAny (model X.prog X.w) X.A (f v u) (EP X pins σ Q) X.xe s
def UnR (X : Cx) (f : Value → Sem Value) (r : V → Hp → VK → Prop) : Prop :=
 ∀ (pins : List (Addr × Obj)) (s : Shared) (σ : St) (H : Hp) (x : V) (v : Value) (Q : VK), Inv X pins σ H s → RelV x v → r x H Q →
  wpAny (model X.prog X.w) X.A (f v) (EP X pins σ Q) X.xe s
def CallR (X : Cx) (f : Value) (r : List V → Hp → VK → Prop) : Prop :=
 ∀ (pins : List (Addr × Obj)) (s : Shared) (σ : St) (H : Hp) (xs : List V) (us : List Value) (Q : VK), Inv X pins σ H s → Vals xs us → r xs H Q →
  wpAny (model X.prog X.w) X.A (call f us) (EP X pins σ Q) X.xe s
def tOp (r : R2) (ta tb : TE) : TE := fun σ H Q => ta σ H fun x H1 => tb σ H1 fun y H2 => r x y H2 Q
def tUn (r : V → Hp → VK → Prop) (ta : TE) : TE := fun σ H Q => ta σ H fun x H1 => r x H1 Q
def rI (C : Int → Int → Prop) (g : Int → Int → V) : R2 := fun x y H Q => ∃ i j, x = .int i ∧ y = .int j ∧ C i j ∧ Q (g i j) H
def rI0 (g : Int → Int → V) : R2 := fun x y H Q => ∃ i j, x = .int i ∧ y = .int j ∧ Q (g i j) H
def rU (g : Int → V) : V → Hp → VK → Prop := fun x H Q => ∃ i, x = .int i ∧ Q (g i) H
section
variable {X : Cx} {a b c : Expr} {ta tb tc : TE} {pos : Pos}
theorem binT (ha : PE X a ta) (hb : PE X b tb) {pins : List (Addr × Obj)} {s : Shared} {σ : St} {H : Hp} {R : V → V → Hp → Prop} (I : Inv X pins σ H s)
  (h : ta σ H fun x H1 => tb σ H1 fun y H2 => R x y H2) {Q : Value → Shared → Prop} {f : Value → Value → Sem Value}
  (hf : ∀ v u s2 x y H2, Inv X pins σ H2 s2 → RelV x v → RelV y u → R x y H2 → wpAny (model X.prog X.w) X.A (f v u) Q X.xe s2) :
  wpAny (model X.prog X.w) X.A (eval a X.env) (fun v s₁ => wpAny (model X.prog X.w) X.A (eval b X.env) (fun u s₂ => wpAny (model X.prog X.w) X.A (f v u) Q X.xe s₂) X.xe s₁) X.xe s := by
 refine thn (ha pins s σ H _ I h) fun v s1 ⟨x, H1, I1, r1, q1⟩ => ?_
 refine thn (hb pins s1 σ H1 _ I1 q1) fun u s2 ⟨y, H2, I2, r2, q2⟩ => ?_
 exact hf v u s2 x y H2 I2 r1 r2 q2
theorem z9 {op : Operator} {r : R2} (ho : OpR X (binaryOp op) r) (ha : PE X a ta) (hb : PE X b tb) : PE X (.BinOp a op b pos) (tOp r ta tb) := by
 intro pins s σ H Q I h
 exact wpAny_BinOp (binT ha hb I h fun v u s2 x y H2 I2 rx ry q => ho pins s2 σ H2 x y v u Q I2 rx ry q)
theorem zca {op : UnaryOp} {r : V → Hp → VK → Prop} (ho : UnR X (unaryOp op) r) (ha : PE X a ta) : PE X (.UnaryOp op a pos) (tUn r ta) := by
 intro pins s σ H Q I h
 exact UnaryOp_ (thn (ha pins s σ H _ I h) fun v s1 ⟨x, H1, I1, r1, q1⟩ => ho pins s1 σ H1 x v Q I1 r1 q1)
theorem opI {f : Value → Value → Sem Value} {C : Int → Int → Prop} {g : Int → Int → Int}
  (rule : ∀ (i j : Int) (t u : Tok) (s : Shared) (Q : Value → Shared → Prop) (E : Value → Shared → Prop), C i j → Q (.int (g i j) s.toks) { s with toks := s.toks + 1 } → wpAny (model X.prog X.w) X.A (f (.int i t) (.int j u)) Q E s) :
  OpR X f (rI C fun i j => .int (g i j)) := by
 intro pins s σ H x y v u Q I rx ry h
 obtain ⟨i, j, rfl, rfl, hc, q⟩ := h
 obtain ⟨t, rfl⟩ := rx
 obtain ⟨t', rfl⟩ := ry
 exact rule i j t t' s _ _ hc ⟨.int (g i j), H, I.tok _, ⟨_, rfl⟩, q⟩
theorem opI0 {f : Value → Value → Sem Value} {g : Int → Int → Int}
  (rule : ∀ (i j : Int) (t u : Tok) (s : Shared) (Q : Value → Shared → Prop) (E : Value → Shared → Prop), Q (.int (g i j) s.toks) { s with toks := s.toks + 1 } → wpAny (model X.prog X.w) X.A (f (.int i t) (.int j u)) Q E s) :
  OpR X f (rI0 fun i j => .int (g i j)) := by
 intro pins s σ H x y v u Q I rx ry h
 obtain ⟨i, j, rfl, rfl, q⟩ := h
 obtain ⟨t, rfl⟩ := rx
 obtain ⟨t', rfl⟩ := ry
 exact rule i j t t' s _ _ ⟨.int (g i j), H, I.tok _, ⟨_, rfl⟩, q⟩
theorem opB0 {f : Value → Value → Sem Value} {g : Int → Int → Bool}
  (rule : ∀ (i j : Int) (t u : Tok) (s : Shared) (Q : Value → Shared → Prop) (E : Value → Shared → Prop), Q (.bool (g i j)) s → wpAny (model X.prog X.w) X.A (f (.int i t) (.int j u)) Q E s) :
  OpR X f (rI0 fun i j => .bl (g i j)) := by
 intro pins s σ H x y v u Q I rx ry h
 obtain ⟨i, j, rfl, rfl, q⟩ := h
 obtain ⟨t, rfl⟩ := rx
 obtain ⟨t', rfl⟩ := ry
 exact rule i j t t' s _ _ ⟨.bl (g i j), H, I, rfl, q⟩
def CDiv (i j : Int) : Prop := 0 < j ∧ j < 1073741824
def CPow (i j : Int) : Prop := 0 ≤ j ∧ j ≤ 1000000 ∧ i.natAbs < 2 ^ 64
def CMul (i j : Int) : Prop := (-(2 ^ 64) < i ∧ i < 2 ^ 64) ∨ (-(2 ^ 64) < j ∧ j < 2 ^ 64)
theorem CMul.ok {i j : Int} (h : CMul i j) : IntMulOk i j := by
 rcases h with ⟨h1, h2⟩ | ⟨h1, h2⟩
 ·exact .of_left (intBits_le_64 h1 h2)
 ·exact .of_right (intBits_le_64 h1 h2)
theorem z1c : OpR X (binaryOp .Add) (rI0 fun i j => .int (i + j)) := opI0 fun _ _ _ _ _ _ _ q => add_int q
theorem z3j : OpR X (binaryOp .Sub) (rI0 fun i j => .int (i - j)) := opI0 fun _ _ _ _ _ _ _ q => sub_int q
theorem z55 : OpR X (binaryOp .Mult) (rI CMul fun i j => .int (i * j)) := opI fun _ _ _ _ _ _ _ hc q => mul_int q hc.ok
theorem zz : OpR X (binaryOp .FloorDiv) (rI CDiv fun i j => .int (i / j)) := opI fun i j _ _ _ _ _ hc q => by
 have h1 : (0 : Int) < j := hc.1
 have h2 : j < 1073741824 := hc.2
 exact floordiv_int (by omega) (by rw [Int.fdiv_eq_ediv_of_nonneg i (by omega)]; exact q) (.inl (PyProof.noPylong_small (by omega)))
theorem zm : OpR X (binaryOp .Mod) (rI (fun _ j => 0 < j) fun i j => .int (i % j)) := opI fun i j _ _ _ _ _ hc q => by
 have h1 : (0 : Int) < j := hc
 exact mod_int' (by omega) (by rw [Int.fmod_eq_emod_of_nonneg i (by omega)]; exact q)
theorem z3y : OpR X (binaryOp .Pow) (rI CPow fun i j => .int (i ^ j.toNat)) := opI fun _ _ _ _ _ _ _ hc q => pow_int_small hc.1 hc.2.1 hc.2.2 q
theorem unI {f : Value → Sem Value} {g : Int → Int}
  (rule : ∀ (i : Int) (t : Tok) (s : Shared) (Q : Value → Shared → Prop) (E : Value → Shared → Prop), Q (.int (g i) s.toks) { s with toks := s.toks + 1 } → wpAny (model X.prog X.w) X.A (f (.int i t)) Q E s) :
  UnR X f (rU fun i => .int (g i)) := by
 intro pins s σ H x v Q I rx h
 obtain ⟨i, rfl, q⟩ := h
 obtain ⟨t, rfl⟩ := rx
 exact rule i t s _ _ ⟨.int (g i), H, I.tok _, ⟨_, rfl⟩, q⟩
theorem zc0 : UnR X (unaryOp .USub) (rU fun i => .int (-i)) := unI fun _ _ _ _ _ q => neg_int q
end
def scal : V → V → Bool
 | .non, .non => true | .non, .int _ => true | .int _, .non => true | .non, .bl _ => true | .bl _, .non => true | .non, .str _ => true | .str _, .non => true
 | .int _, .int _ => true | .bl _, .bl _ => true | .str _, .str _ => true | .byt _, .byt _ => true
 | .int _, .str _ => true | .str _, .int _ => true | .bl _, .str _ => true | .str _, .bl _ => true
 | _, _ => false
def rEq : R2 := fun x y H Q => scal x y = true ∧ Q (.bl (decide (x = y))) H
def rNe : R2 := fun x y H Q => scal x y = true ∧ Q (.bl (!decide (x = y))) H
theorem z88 {i j : Int} : decide (V.int i = V.int j) = (i == j) := by
 rw [Bool.eq_iff_iff]
 simp
theorem z9u {i j : Bool} : decide (V.bl i = V.bl j) = (i == j) := by
 rw [Bool.eq_iff_iff]
 simp
theorem z89 {i j : Str} : decide (V.str i = V.str j) = (i == j) := by
 rw [Bool.eq_iff_iff]
 simp
theorem z8a {i j : Array UInt8} : decide (V.byt i = V.byt j) = (i.toList == j.toList) := by
 rw [Bool.eq_iff_iff]
 cases i
 cases j
 simp
section
variable {X : Cx} {a b c : Expr} {ta tb tc : TE} {pos : Pos}
theorem zw {pins : List (Addr × Obj)} {σ : St} {H : Hp} {s : Shared} {Q : VK} {k k' : Bool} (I : Inv X pins σ H s) (q : Q (.bl k) H) (e : k = k') : EP X pins σ Q (.bool k') s := by
 subst e
 exact ⟨.bl k, H, I, rfl, q⟩
theorem z11 : OpR X (compareOp .Eq) rEq := by
 intro pins s σ H x y v u Q I rx ry h
 obtain ⟨hs, q⟩ := h
 cases x with
 | non =>
  cases rx
  cases y with
  | non => cases ry; exact PySem.EqNone.eq_none_none (zw I q (by simp))
  | bl j => cases ry; exact PySem.EqNone.eq_none_bool (zw I q (by simp))
  | int j => obtain ⟨t', rfl⟩ := ry; exact PySem.EqNone.eq_none_int (zw I q (by simp))
  | str j => obtain ⟨t', rfl⟩ := ry; exact PySem.EqNone.eq_none_str (zw I q (by simp))
  | _ => exact absurd (show false = true from hs) Bool.false_ne_true
 | bl i =>
  cases rx
  cases y with
  | non => cases ry; exact PySem.EqNone.eq_bool_none (zw I q (by simp))
  | bl j => cases ry; exact eq_bool (zw I q z9u)
  | str j => obtain ⟨t', rfl⟩ := ry; exact PySem.EqMixed.eq_bool_str (zw I q (by simp))
  | _ => exact absurd (show false = true from hs) Bool.false_ne_true
 | int i =>
  obtain ⟨t, rfl⟩ := rx
  cases y with
  | non => cases ry; exact PySem.EqNone.eq_int_none (zw I q (by simp))
  | int j => obtain ⟨t', rfl⟩ := ry; exact eq_int (zw I q z88)
  | str j => obtain ⟨t', rfl⟩ := ry; exact PySem.EqMixed.eq_int_str (zw I q (by simp))
  | _ => exact absurd (show false = true from hs) Bool.false_ne_true
 | str i =>
  obtain ⟨t, rfl⟩ := rx
  cases y with
  | non => cases ry; exact PySem.EqNone.eq_str_none (zw I q (by simp))
  | bl j => cases ry; exact PySem.EqMixed.eq_str_bool (zw I q (by simp))
  | int j => obtain ⟨t', rfl⟩ := ry; exact PySem.EqMixed.eq_str_int (zw I q (by simp))
  | str j => obtain ⟨t', rfl⟩ := ry; exact eq_str (zw I q z89)
  | _ => exact absurd (show false = true from hs) Bool.false_ne_true
 | byt i =>
  obtain ⟨t, rfl⟩ := rx
  cases y with
  | byt j => obtain ⟨t', rfl⟩ := ry; exact PySem.W.eq_bytes (zw I q z8a)
  | _ => exact absurd (show false = true from hs) Bool.false_ne_true
 | _ => cases y <;> exact absurd (show false = true from hs) Bool.false_ne_true
theorem z2t : OpR X (compareOp .NotEq) rNe := by
 intro pins s σ H x y v u Q I rx ry h
 obtain ⟨hs, q⟩ := h
 cases x with
 | non =>
  cases rx
  cases y with
  | non => cases ry; exact PySem.EqNone.ne_none_none (zw I q (by simp))
  | bl j => cases ry; exact PySem.EqNone.ne_none_bool (zw I q (by simp))
  | int j => obtain ⟨t', rfl⟩ := ry; exact PySem.EqNone.ne_none_int (zw I q (by simp))
  | str j => obtain ⟨t', rfl⟩ := ry; exact PySem.EqNone.ne_none_str (zw I q (by simp))
  | _ => exact absurd (show false = true from hs) Bool.false_ne_true
 | bl i =>
  cases rx
  cases y with
  | non => cases ry; exact PySem.EqNone.ne_bool_none (zw I q (by simp))
  | bl j => cases ry; exact ne_bool (zw I q (congrArg not z9u))
  | str j => obtain ⟨t', rfl⟩ := ry; exact PySem.EqMixed.ne_bool_str (zw I q (by simp))
  | _ => exact absurd (show false = true from hs) Bool.false_ne_true
 | int i =>
  obtain ⟨t, rfl⟩ := rx
  cases y with
  | non => cases ry; exact PySem.EqNone.ne_int_none (zw I q (by simp))
  | int j => obtain ⟨t', rfl⟩ := ry; exact ne_int (zw I q (congrArg not z88))
  | str j => obtain ⟨t', rfl⟩ := ry; exact PySem.EqMixed.ne_int_str (zw I q (by simp))
  | _ => exact absurd (show false = true from hs) Bool.false_ne_true
 | str i =>
  obtain ⟨t, rfl⟩ := rx
  cases y with
  | non => cases ry; exact PySem.EqNone.ne_str_none (zw I q (by simp))
  | bl j => cases ry; exact PySem.EqMixed.ne_str_bool (zw I q (by simp))
  | int j => obtain ⟨t', rfl⟩ := ry; exact PySem.EqMixed.ne_str_int (zw I q (by simp))
  | str j => obtain ⟨t', rfl⟩ := ry; exact ne_str (zw I q (congrArg not z89))
  | _ => exact absurd (show false = true from hs) Bool.false_ne_true
 | byt i =>
  obtain ⟨t, rfl⟩ := rx
  cases y with
  | byt j => obtain ⟨t', rfl⟩ := ry; exact PySem.W.ne_bytes (zw I q (congrArg not z8a))
  | _ => exact absurd (show false = true from hs) Bool.false_ne_true
 | _ => cases y <;> exact absurd (show false = true from hs) Bool.false_ne_true
theorem zb7 : OpR X (compareOp .Lt) (rI0 fun i j => .bl (decide (i < j))) := opB0 fun _ _ _ _ _ _ _ q => lt_int q
theorem zb8 : OpR X (compareOp .Gt) (rI0 fun i j => .bl (decide (j < i))) := opB0 fun _ _ _ _ _ _ _ q => gt_int q
theorem zb9 : OpR X (compareOp .GtE) (rI0 fun i j => .bl (decide (j ≤ i))) := opB0 fun _ _ _ _ _ _ _ q => ge_int q
theorem OpR.or {f : Value → Value → Sem Value} {r r' : R2} (h : OpR X f r) (h' : OpR X f r') : OpR X f (fun x y H Q => r x y H Q ∨ r' x y H Q) := by
 intro pins s σ H x y v u Q I rx ry q
 rcases q with q | q
 ·exact h pins s σ H x y v u Q I rx ry q
 ·exact h' pins s σ H x y v u Q I rx ry q
theorem zj (b : Expr) {op : CmpOp} (h : op ≠ .In := by decide) (h2 : op ≠ .NotIn := by decide) : behindInMarks op b = false := by
 have e1 : (op == CmpOp.In) = false := by cases op <;> first | rfl | exact absurd rfl h
 have e2 : (op == CmpOp.NotIn) = false := by cases op <;> first | rfl | exact absurd rfl h2
 cases b <;> simp [behindInMarks, e1, e2]
theorem z1o {op : CmpOp} {r : R2} (ho : OpR X (compareOp op) r) (ha : PE X a ta) (hb : PE X b tb) (hm : behindInMarks op b = false) : PE X (.Compare a [op] [b] pos) (tOp r ta tb) := by
 intro pins s σ H Q I h
 exact wpAny_Compare1 (binT ha hb I h fun v u s2 x y H2 I2 rx ry q => ho pins s2 σ H2 x y v u Q I2 rx ry q) hm
def z6t (t : TE) : TT := fun σ H Q => t σ H fun x H' => ∃ k, x = .bl k ∧ Q k H'
theorem zl {op : CmpOp} {r : R2} (ho : OpR X (compareOp op) r) (ha : PE X a ta) (hb : PE X b tb) (hm : behindInMarks op b = false) : PT X (.Compare a [op] [b] pos) (z6t (tOp r ta tb)) := by
 intro pins s σ H Q I h
 refine wpAny_isTrue_Compare1 (thn (ha pins s σ H _ I h) fun v s1 ⟨x, H1, I1, r1, q1⟩ => thn (hb pins s1 σ H1 _ I1 q1) fun u s2 ⟨y, H2, I2, r2, q2⟩ =>
  thn (ho pins s2 σ H2 x y v u _ I2 r1 r2 q2) fun c s3 ⟨z, H3, I3, r3, k, e, q3⟩ => ?_) hm
 subst e
 cases r3
 exact wpAny_truthy_bool ⟨H3, I3, q3⟩
theorem z56 : (sizeLine : Nat) < 2 ^ 63 := by rw [sizeLine_eq]; decide
theorem z2u : OpR X (binaryOp .Add) (fun x y H Q => ∃ i j, x = .str i ∧ y = .str j ∧ i.length + j.length ≤ sizeLine ∧ Q (.str (i ++ j)) H) := by
 intro pins s σ H x y v u Q I rx ry h
 obtain ⟨i, j, rfl, rfl, hz, q⟩ := h
 obtain ⟨t, rfl⟩ := rx
 obtain ⟨t', rfl⟩ := ry
 exact add_str (fun t' tk => ⟨.str (i ++ j), H, I.tok _, ⟨_, rfl⟩, q⟩) hz
theorem z4b {x : V} {us : List Value} (r : Vals [x] us) : ∃ u, us = [u] ∧ RelV x u := by
 cases r with
 | cons r1 r2 => cases r2; exact ⟨_, rfl, r1⟩
theorem z8x {x y : V} {us : List Value} (r : Vals [x, y] us) : ∃ u w', us = [u, w'] ∧ RelV x u ∧ RelV y w' := by
 cases r with
 | cons r1 r2 =>
  cases r2 with
  | cons r3 r4 => cases r4; exact ⟨_, _, rfl, r1, r3⟩
theorem z9v (hc : X.calm = true) : CallR X (.builtin "min") (fun xs H Q => ∃ i j, xs = [.int i, .int j] ∧ Q (.int (if j < i then j else i)) H) := by
 intro pins s σ H xs us Q I r h
 obtain ⟨i, j, rfl, q⟩ := h
 obtain ⟨u, w', rfl, ⟨t, rfl⟩, ⟨t', rfl⟩⟩ := z8x r
 refine min_two_ints (I.ok.hd hc) fun h' tk k => ⟨_, H, I.kept k, ?_, q⟩
 by_cases hj : j < i
 ·rw [if_pos hj, if_pos hj]; exact ⟨_, rfl⟩
 ·rw [if_neg hj, if_neg hj]; exact ⟨_, rfl⟩
end
end L2
namespace L2
open PySem PySem.Spec PyProof.Rows
structure ObjM (h : Heap) (x dx C : Addr) (mA : Str → Option Value) : Prop where
 obj : h.get? x = some (PySem.W.instObj C dx)
 ns : h.Ns1 dx mA
 ne : dx ≠ x
theorem z9w {h : Heap} {dx : Addr} {mA : Str → Option Value} (n : h.Ns1 dx mA) : ∃ od, h.get? dx = some od ∧ ∀ name, PySem.W.lookIn name od = some (mA name) := by
 obtain ⟨o, es, ep, ho, hd, hk, _, hm⟩ := n
 refine ⟨o, ho, fun name => ?_⟩
 have e := hm name
 unfold nsFind findBy at e
 rw [← Array.find?_toList] at e
 unfold PySem.W.lookIn
 rw [hd]
 dsimp only
 split
 ·rename_i y q
  rw [q] at e
  exact congrArg some e
 ·rename_i q
  rw [q] at e
  have a : es.toList.any (·.refKey) = false := by
   rw [List.any_eq_false]
   intro y hy
   obtain ⟨z, t, hkey⟩ := hk y (Array.mem_toList_iff.mp hy)
   simp [DictEntry.refKey, hkey]
  have a' : ¬ es.toList.any (·.refKey) = true := by rw [a]; exact Bool.false_ne_true
  rw [if_neg a']
  exact congrArg some e
theorem ObjM.look {h : Heap} {x dx C : Addr} {mA : Str → Option Value} (I : ObjM h x dx C mA) : ∃ od, PySem.W.InstAt h x (PySem.W.instObj C dx) C (some od) ∧ ∀ name, PySem.W.lookIn name od = some (mA name) :=
 let ⟨od, ho, hl⟩ := z9w I.ns
 ⟨od, ⟨I.obj, rfl, rfl, ho⟩, hl⟩
section
variable {prog : Program} {w : World} {A : Around} {E : Value → Shared → Prop} {s : Shared} {K : PySem.W.Frag} {x dx C f : Addr} {mA : Str → Option Value} {name : Str} {v : Value}
end
section
variable {P : Program} {w : World} {H H' : Hp} {h h' : Heap} {a C dx : Addr} {fs fs' : List (Str × V)}
theorem z8b (hok : HOk P w H h) (e : H a = some (.ins C dx fs)) : ∃ mA, ObjM h a dx C mA ∧ (∀ f, RelO (fs.lookup f) (mA f)) ∧ PySem.Within mA (fs.map (·.1)) ∧ fs.length ≤ 1000 ∧ H dx = some (.own a) := by
 obtain ⟨d, z, ne, ob, mA, n, r, q⟩ := (show ObjOk P w H h a (.ins C dx fs) from hok a _ e)
 exact ⟨mA, ⟨ob, n, ne⟩, r, q, z, d⟩
end
structure Cls (K : PySem.W.Frag) (C : Addr) : Prop where
 pg : PySem.W.plainGet K C Str.empty = true
 hd : PySem.W.hasDictIn K C = true
 po : PySem.W.plainOver K C = true
 sa : PySem.W.findIn K (.ref C) "__setattr__" = some (some (.builtin "object.__setattr__"))
theorem Cls.get {K : PySem.W.Frag} {C : Addr} (c : Cls K C) (f : Str) : PySem.W.plainGet K C f = true := c.pg
structure Con (K : PySem.W.Frag) (C : Addr) (f : Str) (v : V) (u : Value) : Prop where
 at_ : PySem.W.findIn K (.ref C) f = some (some u)
 rel : RelV v u
 get : PySem.W.specialIn K u "__get__" = some none
 cp : PySem.W.copiedNames.contains f = false
structure Meth (K : PySem.W.Frag) (C : Addr) (m : Str) (f : Addr) : Prop where
 at_ : PySem.W.findIn K (.ref C) m = some (some (.ref f))
 fn : PySem.W.isFn K (.ref f) = true
 kp : PySem.W.keepIn K (.ref f) = true
section
variable {X : Cx} {pins : List (Addr × Obj)} {σ : St} {H : Hp} {s : Shared} {a C dx : Addr} {fs : List (Str × V)} {f : Str} {v : V} {A : Around} {E : Value → Shared → Prop}
theorem Inv.made (I : Inv X pins σ H s) : Inv X pins σ (upd (upd H s.heap.objs.size (.own (s.heap.objs.size + 1))) (s.heap.objs.size + 1) (.ins C s.heap.objs.size []))
  { s with heap := (s.heap.push PySem.W.emptyDict).push (PySem.W.instObj C s.heap.objs.size) } := by
 have e1 : (s.heap.push PySem.W.emptyDict).get? s.heap.objs.size = some PySem.W.emptyDict := Heap.get?_push_size s.heap rfl
 have e2 : ((s.heap.push PySem.W.emptyDict).push (PySem.W.instObj C s.heap.objs.size)).get? (s.heap.objs.size + 1) = some (PySem.W.instObj C s.heap.objs.size) := by
  have := Heap.get?_push_size (s.heap.push PySem.W.emptyDict) (o := PySem.W.instObj C s.heap.objs.size) rfl
  rwa [Heap.size_push] at this
 have e3 : (s.heap.push PySem.W.emptyDict).Ns s.heap.objs.size (fun _ => none) := ⟨PySem.W.emptyDict, #[], _, e1, rfl, (fun e he => absurd he (by simp)), fun _ => rfl⟩
 have I1 := I.laid (a := s.heap.objs.size) (o := .own (s.heap.objs.size + 1)) (h' := s.heap.push PySem.W.emptyDict) (t' := s.toks) (fun b u q => Heap.get?_push_of_some _ q) (Nat.le_refl _) ⟨_, e1⟩
 refine I1.laid (a := s.heap.objs.size + 1) (o := .ins C s.heap.objs.size []) (t' := s.toks) (fun b u q => Heap.get?_push_of_some _ q) (Nat.le_of_eq (Heap.size_push _ _)) ?_
 have ne : s.heap.objs.size ≠ s.heap.objs.size + 1 := Nat.ne_of_lt (Nat.lt_succ_self _)
 refine ⟨by rw [zc ne, za], Nat.zero_le _, ne, e2, fun _ => none, (Heap.Ns1.of_empty e3).at fun o q => Heap.get?_push_of_some _ q, fun _ => True.intro, fun y hy => absurd rfl hy⟩
end
section
variable {X : Cx} {o e value : Expr} {f : Str} {pos pos' tpos : Pos} {ta tv : TE}
end
section
variable {X : Cx} {pins : List (Addr × Obj)} {σ : St} {H : Hp} {s : Shared} {A : Around} {E : Value → Shared → Prop} {Q : Value → Shared → Prop} {c : Value} {b : Bool}
inductive TyOf (K : PySem.W.Frag) (H : Hp) : V → Value → Prop where
 | non : TyOf K H .non (.type "NoneType")
 | bl (x : Bool) : TyOf K H (.bl x) (.type "bool")
 | int (i : Int) : TyOf K H (.int i) (.type "int")
 | str (x : Str) : TyOf K H (.str x) (.type "str")
 | flt (x : UInt64) : TyOf K H (.flt x) (.type "float")
 | lst {a : Addr} {xs : List V} (e : H a = some (.lst xs)) : TyOf K H (.ref a) (.type "list")
 | frz {a : Addr} {o : Obj} {xs : List V} (e : H a = some (.frz o (.lst xs))) : TyOf K H (.ref a) (.type "list")
 | tup {a : Addr} {xs : List V} (e : H a = some (.tup xs)) : TyOf K H (.ref a) (.type "tuple")
 | dK {a : Addr} {kvs : List (Key × V)} (e : H a = some (.dK kvs)) : TyOf K H (.ref a) (.type "dict")
 | dT {a : Addr} {kvs : List (List Key × V)} (e : H a = some (.dT kvs)) : TyOf K H (.ref a) (.type "dict")
 | ins {a C dx : Addr} {fs : List (Str × V)} (e : H a = some (.ins C dx fs)) (cl : Cls K C) (ha : PySem.W.findIn K (.ref C) "__class__" = some (some (.builtin "object.__class__")))
   (hn : PySem.W.specialIn K (.builtin "object.__class__") "__get__" = some (some (.builtin "getset_descriptor.__get__"))) (htk : PySem.W.takesIn K (.builtin "object.__class__") = some true)
   (hm : PySem.W.mroIn K C (.type "object") = some true) : TyOf K H (.ref a) (.ref C)
theorem z9x {x : V} {u t : Value} (I : Inv X pins σ H s) (rx : RelV x u) (ty : TyOf X.K H x t) (e : PySem.W.kitOne X.K t c = some b) (h : ∀ tk, Q (.bool b) { s with toks := tk }) :
  wpAny (model X.prog X.w) A (call (.builtin "isinstance") [u, c]) Q E s := by
 cases ty with
 | non => cases (show u = Value.none from rx); exact PySem.W.kia_one PySem.W.kitx_none I.kIn True.intro e (fun z => nomatch z) h
 | bl y => cases (show u = Value.bool y from rx); exact PySem.W.kia_one PySem.W.kitx_bool I.kIn True.intro e (fun z => nomatch z) h
 | int i => obtain ⟨t, q⟩ := (show ∃ t, u = Value.int i t from rx); cases q; exact PySem.W.kia_one PySem.W.kitx_int I.kIn True.intro e (fun z => nomatch z) h
 | str y => obtain ⟨t, q⟩ := (show ∃ t, u = Value.str y t from rx); cases q; exact PySem.W.kia_one PySem.W.kitx_str I.kIn True.intro e (fun z => nomatch z) h
 | flt y => obtain ⟨t, q⟩ := (show ∃ t, u = Value.float y t from rx); cases q; exact PySem.W.kia_one PySem.W.kitx_float I.kIn True.intro e (fun z => nomatch z) h
 | @lst a xs ea =>
  cases (show u = Value.ref a from rx)
  obtain ⟨_, _, n, _, h1⟩ := (show ObjOk X.prog X.w H s.heap a (.lst xs) from I.hok a _ ea)
  exact PySem.W.kia_one PySem.W.kitx_list I.kIn ⟨_, h1, rfl⟩ e (fun z => nomatch z) h
 | @frz a ob xs ea =>
  cases (show u = Value.ref a from rx)
  obtain ⟨_, _, _, n, _, h1⟩ := (show ObjOk X.prog X.w H s.heap a (.frz ob (.lst xs)) from I.hok a _ ea)
  exact PySem.W.kia_one PySem.W.kitx_list I.kIn ⟨_, h1, rfl⟩ e (fun z => nomatch z) h
 | @tup a xs ea =>
  cases (show u = Value.ref a from rx)
  obtain ⟨_, _, _, p⟩ := (show ObjOk X.prog X.w H s.heap a (.tup xs) from I.hok a _ ea)
  obtain ⟨o, h1, h2, _⟩ := p
  exact PySem.W.kia_one PySem.W.kitx_tuple I.kIn ⟨o, h1, h2⟩ e (fun z => nomatch z) h
 | @dK a kvs ea =>
  cases (show u = Value.ref a from rx)
  obtain ⟨_, _, vs, _, p⟩ := (show ObjOk X.prog X.w H s.heap a (.dK kvs) from I.hok a _ ea)
  obtain ⟨o, es, ep, h1, h2, _⟩ := p
  exact PySem.W.kia_one PySem.W.kitx_dict I.kIn ⟨o, h1, h2.1⟩ e (fun z => nomatch z) h
 | @dT a kvs ea =>
  cases (show u = Value.ref a from rx)
  obtain ⟨_, _, xs, _, o, es, ep, h1, h2, _⟩ := (show ObjOk X.prog X.w H s.heap a (.dT kvs) from I.hok a _ ea)
  exact PySem.W.kia_one PySem.W.kitx_dict I.kIn ⟨o, h1, h2.1⟩ e (fun z => nomatch z) h
 | @ins a C dx fs ea cl ha hn htk hm =>
  cases (show u = Value.ref a from rx)
  obtain ⟨mA, O, _⟩ := z8b I.hok ea
  obtain ⟨od, J, _⟩ := O.look
  exact PySem.W.kia_one (PySem.W.kitx_own (cl.get _) cl.hd ha hn htk hm) I.kIn J e (fun z => nomatch z) h
end
end L2
namespace L2
open PySem PySem.Spec PyProof.Rows
structure Room (k : Nat) (A : Around) : Prop where
 hd : A.handled = none
 dp : A.depth + 3 * k + 5 < recursionLimit
 un : A.units + 16 * k + 200 < cLine
theorem Room.mono {j k : Nat} {A : Around} (r : Room k A) (h : j ≤ k) : Room j A := ⟨r.hd, by have := r.dp; omega, by have := r.un; omega⟩
theorem Room.deeper {k : Nat} {A : Around} (r : Room (k + 1) A) (env : Env) : Room k (A.deeper env) :=
 ⟨r.hd, by have := r.dp; show A.depth + 1 + 3 * k + 5 < _; omega, by have := r.un; show A.units + 3 + 16 * k + 200 < _; omega⟩
theorem Room.in1 {k : Nat} {A : Around} (r : Room (k + 1) A) : Room k A.in1 :=
 ⟨r.hd, by have := r.dp; show A.depth + 3 * k + 5 < _; omega, by have := r.un; show A.units + 1 + 16 * k + 200 < _; omega⟩
theorem z8y {A : Around} {C : Addr} {us : List Value} {kw : List (Str × Value)} : (A.under (.builtin "type.__call__" ⟨.ref C :: us, kw⟩)).depth = A.depth + 1 := by
 first | rfl | simp [Around.under, Code.weight, Code.isCreation, Code.isGuard, Code.isCaller, Code.frames, Code.isFrame, guardIds]
theorem z8z {A : Around} {C : Addr} {us : List Value} {kw : List (Str × Value)} : (A.under (.builtin "type.__call__" ⟨.ref C :: us, kw⟩)).units = A.units + 1 := by
 first | rfl | simp [Around.under, Code.cUnits, Code.frames, Code.isFrame]
theorem Room.make {k : Nat} {A : Around} (r : Room (k + 1) A) (C : Addr) (us : List Value) (kw : List (Str × Value)) : Room k (A.under (.builtin "type.__call__" ⟨.ref C :: us, kw⟩)) :=
 ⟨r.hd, by have := r.dp; rw [z8y]; omega, by have := r.un; rw [z8z]; omega⟩
theorem Room.depth {k : Nat} {A : Around} (r : Room k A) : A.depth < recursionLimit := by have := r.dp; omega
theorem Room.units {k : Nat} {A : Around} (r : Room k A) : A.units + 64 < cLine := by have := r.un; omega
theorem Room.units0 {k : Nat} {A : Around} (r : Room k A) : A.units < cLine := by have := r.un; omega
def tNil : TA := fun _ H Q => Q [] H
def z13 (ta : TE) (tr : TA) : TA := fun σ H Q => ta σ H fun x H1 => tr σ H1 fun xs H2 => Q (x :: xs) H2
section
variable {X : Cx} {e : Expr} {es : List Expr} {te : TE} {t : TA} {pos : Pos}
theorem z8 : PA X [] tNil := fun _ _ _ _ H Q I h => Calls.spliced_nil ⟨[], H, I, .nil, h⟩
theorem z0 (ha : PE X e te) (hr : PA X es t) (hs : starEach (e :: es) X.env = (false, eval e X.env) :: starEach es X.env := by rfl) : PA X (e :: es) (z13 te t) := by
 intro pos pins s σ H Q I h
 rw [hs]
 show wpAny _ _ (spliced ((false, eval e X.env) :: backTo pos (starEach es X.env))) _ _ s
 refine Calls.spliced_cons (thn (ha pins s σ H _ I h) fun u s1 ⟨x, H1, I1, r1, q1⟩ => ?_)
 exact thn (hr pos pins s1 σ H1 _ I1 q1) fun us s2 ⟨xs, H2, I2, r2, q2⟩ => ⟨x :: xs, H2, I2, .cons r1 r2, q2⟩
def tTup (t : TA) : TE := fun σ H Q => t σ H fun xs H1 => xs.length ≤ sizeLine ∧ ∀ p, H1 p = none → Q (.ref p) (upd H1 p (.tup xs))
def tLst (t : TA) : TE := fun σ H Q => t σ H fun xs H1 => xs.length ≤ sizeLine ∧ ∀ p, H1 p = none → Q (.ref p) (upd H1 p (.lst xs))
theorem z1g {x1} (h : PA X es t) : PE X (.Tuple es x1 pos) (tTup t) := by
 intro pins s σ H Q I hq
 refine wpAny_Tuple_spliced (thn (h pos pins s σ H _ I hq) fun us s1 ⟨xs, H1, I1, r, z, q⟩ => ⟨by rw [← r.length]; exact z, ?_⟩)
 have hf : H1 s1.heap.objs.size = none := I1.hok.fresh (Nat.le_refl _)
 refine ⟨.ref s1.heap.objs.size, upd H1 s1.heap.objs.size (.tup xs), I1.laid (t' := s1.toks) (fun b u e => Heap.get?_push_of_some _ e) (Nat.le_refl _) ?_, rfl, q _ hf⟩
 exact ⟨z, us, r, ⟨_, Heap.get?_push_size _ rfl, rfl, _, rfl⟩⟩
theorem z1x (h : PA X es t) : PE X (.List es pos) (tLst t) := by
 intro pins s σ H Q I hq
 refine wpAny_List_spliced (thn (h pos pins s σ H _ I hq) fun us s1 ⟨xs, H1, I1, r, z, q⟩ => ⟨by rw [← r.length]; exact z, ?_⟩)
 have hf : H1 s1.heap.objs.size = none := I1.hok.fresh (Nat.le_refl _)
 refine ⟨.ref s1.heap.objs.size, upd H1 s1.heap.objs.size (.lst xs), I1.laid (t' := s1.toks) (fun b u e => Heap.get?_push_of_some _ e) (Nat.le_refl _) ?_, rfl, q _ hf⟩
 exact ⟨z, us, 0, r, Heap.get?_push_size _ rfl⟩
end
abbrev Sp := List V → Hp → VK → XK → Prop
abbrev CXT := List Env → Hp → Shared → XK → Value → Shared → Prop
structure Env0 (P : Program) (w : World) (K : PySem.W.Frag) (mg : Str → Option Value) (base : Heap) (A : Around) (outer : List Env) (s : Shared) (H : Hp) : Prop where
 frames : A.frames = some outer
 mod : Mod K mg base
 bs : ∀ b o, base.get? b = some o → s.heap.get? b = some o ∧ H b = none
 bsz : base.objs.size ≤ s.heap.objs.size
 funs : s.heap.FunFrames base outer
 frf : ∀ b ∈ frs outer, H b = none
 hok : HOk P w H s.heap
 bare : AllBare s.gens
def CE (outer : List Env) (P : Program) (w : World) (H : Hp) (s : Shared) (Q : VK) (u : Value) (s' : Shared) : Prop :=
 ∃ v H', s'.os = s.os ∧ AllBare s'.gens ∧ Un (frs outer) [] H H' s.heap s'.heap ∧ HOk P w H' s'.heap ∧ RelV v u ∧ Q v H'
def CR (CX : CXT) (outer : List Env) (P : Program) (w : World) (H : Hp) (s : Shared) (Q : VK) (E : XK) (r : Result) (s' : Shared) : Prop :=
 match r with
 | .ok (.ret u) => CE outer P w H s Q u s'
 | .ok _ => False
 | .error e => CX outer H s E e s'
structure FnOk (P : Program) (w : World) (K : PySem.W.Frag) (mg : Str → Option Value) (base : Heap) (CX : CXT) (k : Nat) (f : Addr) (fd : FuncData) (ps : List Str) (sp : Sp) : Prop where
 len : ∀ vs H Q E, sp vs H Q E → vs.length = ps.length
 run : ∀ (A : Around) (outer : List Env) (s : Shared) (H : Hp) (args : Args) (us : List Value) (vs : List V) (Q : VK) (E : XK), Room k A → Env0 P w K mg base A outer s H → BindsTo s fd args (ps.zip us) → Vals vs us → sp vs H Q E →
  codeAny (model P w) A (.call (.ref f) args) (CR CX outer P w H s Q E) s
theorem FnOk.mono {P : Program} {w : World} {K : PySem.W.Frag} {mg : Str → Option Value} {base : Heap} {CX : CXT} {j k : Nat} {f : Addr} {fd : FuncData} {ps : List Str} {sp : Sp} (F : FnOk P w K mg base CX j f fd ps sp) (h : j ≤ k) :
  FnOk P w K mg base CX k f fd ps sp := ⟨F.len, fun A outer s H args us vs Q E hr => F.run A outer s H args us vs Q E (hr.mono h)⟩
theorem FnOk.imp {P : Program} {w : World} {K : PySem.W.Frag} {mg : Str → Option Value} {base : Heap} {CX : CXT} {k : Nat} {f : Addr} {fd : FuncData} {ps : List Str} {sp sp' : Sp} (F : FnOk P w K mg base CX k f fd ps sp)
  (h : ∀ vs H Q E, sp' vs H Q E → sp vs H Q E) : FnOk P w K mg base CX k f fd ps sp' :=
 ⟨fun vs H Q E q => F.len vs H Q E (h _ _ _ _ q), fun A outer s H args us vs Q E hr he hb hv hs => F.run A outer s H args us vs Q E hr he hb hv (h _ _ _ _ hs)⟩
theorem Env0.make {P : Program} {w : World} {K : PySem.W.Frag} {mg : Str → Option Value} {base : Heap} {A : Around} {outer : List Env} {s : Shared} {H : Hp} (e : Env0 P w K mg base A outer s H) (C : Addr) (us : List Value) (kw : List (Str × Value)) :
  Env0 P w K mg base (A.under (.builtin "type.__call__" ⟨.ref C :: us, kw⟩)) outer s H := ⟨by first | exact e.frames | (simpa [Around.under, Code.envs, Code.isFrame, pushEnvs] using e.frames), e.mod, e.bs, e.bsz, e.funs, e.frf, e.hok, e.bare⟩
theorem Env0.in1 {P : Program} {w : World} {K : PySem.W.Frag} {mg : Str → Option Value} {base : Heap} {A : Around} {outer : List Env} {s : Shared} {H : Hp} (e : Env0 P w K mg base A outer s H) :
  Env0 P w K mg base A.in1 outer s H := ⟨e.frames, e.mod, e.bs, e.bsz, e.funs, e.frf, e.hok, e.bare⟩
section
variable {X : Cx} {pins : List (Addr × Obj)} {σ : St} {H : Hp} {s s' : Shared}
theorem Inv.env0 (I : Inv X pins σ H s) : Env0 X.prog X.w X.K X.mg X.base X.A X.stack s H :=
 ⟨I.ok.frames, I.ok.mod, I.bs, Nat.le_trans I.ok.bsz I.sz, I.stack, I.stkFree, I.hok, I.bare⟩
theorem Inv.after {Q : VK} {u : Value} (I : Inv X pins σ H s) (h : CE X.stack X.prog X.w H s Q u s') : EP X pins σ Q u s' := by
 obtain ⟨v, H', os, bare, un, hok, r, q⟩ := h
 obtain ⟨hh, g, d, t, os'⟩ := s'
 obtain rfl : os' = s.os := os
 exact ⟨v, H', I.call (h' := hh) (g' := g) (d' := d) (t' := t) (ch := []) un hok bare (fun b z => absurd z (by simp)), r, q⟩
end
def z57 (sp : Sp) (dvs : List V) (E : XK) (t : TA) : TE := fun σ H Q => t σ H fun vs H1 => sp (vs ++ dvs) H1 Q E
def Binds (K : PySem.W.Frag) (fd : FuncData) (ps : List Str) (ds : List Value) : Prop :=
 ∀ (s : Shared) (us : List Value), K.In s.heap → (us ++ ds).length = ps.length → BindsTo s fd ⟨us, []⟩ (ps.zip (us ++ ds))
theorem Binds.all {K : PySem.W.Frag} {fd : FuncData} {ps : List Str} (h : ∀ us : List Value, us.length = ps.length → bindArgs fd ⟨us, []⟩ = pure (ps.zip us)) : Binds K fd ps [] := fun s us _ hl => by
 rw [List.append_nil] at hl ⊢
 exact .of_eq (h us hl)
def z6z (CX : CXT) (X : Cx) (E : XK) : Prop := ∀ (pins : List (Addr × Obj)) (σ : St) (H : Hp) (s : Shared) (e : Value) (s' : Shared), Inv X pins σ H s → CX X.stack H s E e s' → X.xe e s'
section
variable {X : Cx} {CX : CXT} {k : Nat} {f C : Addr} {fd : FuncData} {ps : List Str} {sp : Sp} {dvs : List V} {ds : List Value} {E : XK} {x m : Str} {p pos apos : Pos} {e o : Expr} {es : List Expr} {ta : TE} {t : TA}
theorem zc1 {pins : List (Addr × Obj)} {σ : St} {H : Hp} {s : Shared} {Q : VK} {us : List Value} {vs : List V} (F : FnOk X.prog X.w X.K X.mg X.base CX k f fd ps sp) (hr : Room k X.A) (hb : Binds X.K fd ps ds) (hd : Vals dvs ds) (hx : z6z CX X E)
  (I : Inv X pins σ H s) (r : Vals vs us) (h : sp (vs ++ dvs) H Q E) : wpAny (model X.prog X.w) X.A (call (.ref f) us) (EP X pins σ Q) X.xe s := by
 have r2 : Vals (vs ++ dvs) (us ++ ds) := r.append hd
 have hl : (us ++ ds).length = ps.length := by rw [← r2.length]; exact F.len _ _ _ _ h
 refine wpAny_call (codeAny_mono (F.run X.A X.stack s H ⟨us, []⟩ (us ++ ds) (vs ++ dvs) Q E hr I.env0 (hb s us I.kIn hl) r2 h) fun r s' hq => ?_)
 cases r with
 | error e => exact hx pins σ H s e s' I hq
 | ok fl =>
  cases fl with
  | ret u => exact I.after hq
  | next => exact False.elim hq
  | brk => exact False.elim hq
  | cont => exact False.elim hq
theorem zbg (F : FnOk X.prog X.w X.K X.mg X.base CX k f fd ps sp) (hr : Room k X.A) (hg : Gl X x) (hm : X.mg x = some (.ref f)) (hk : PySem.W.keepIn X.K (.ref f) = true) (hb : Binds X.K fd ps ds) (hd : Vals dvs ds) (hx : z6z CX X E)
  (ha : PA X (e :: es) t) (hdb : (x == ("__debug__" : Str)) = false := by decide) (he : starEach (e :: es) X.env = (false, eval e X.env) :: starEach es X.env := by rfl) (hpl : (backTo pos (starEach es X.env)).any (·.1) = false := by rfl) :
  PE X (.Call (.Name x p) (e :: es) [] pos) (z57 sp dvs E t) := by
 intro pins s σ H Q I h
 refine wpAny_Call_Name_kw (zbe I hg hm ?_ hdb)
 refine PySem.W.callWith_K (h₀ := X.base) I.ok.mod.kin hk (thn (ha pos pins s σ H _ I h) fun us s1 ⟨vs, H1, I1, r, q⟩ => ⟨I1.kIn, ?_⟩) he hpl
 exact zc1 F hr hb hd hx I1 r q
structure Mk (K : PySem.W.Frag) (C f : Addr) : Prop where
 makes : PySem.W.makesIn K C = true
 init : PySem.W.findIn K (.ref C) "__init__" = some (some (.ref f))
 fn : PySem.W.isFn K (.ref f) = true
 kp : PySem.W.keepIn K (.ref C) = true
end
section
variable {X : Cx} {CX : CXT} {k : Nat} {f C : Addr} {fd : FuncData} {ps ks : List Str} {sp : Sp} {E : XK} {x m : Str} {p pos apos kpos : Pos} {e o : Expr} {es : List Expr} {kws : List Keyword} {te ta : TE} {t tk : TA} {nm : Option Str}
structure KBinds (K : PySem.W.Frag) (fd : FuncData) (ps ks : List Str) (g : List Value → List Value → List Value) (gV : List V → List V → List V) : Prop where
 to : ∀ (s : Shared) (us ws : List Value), K.In s.heap → (g us ws).length = ps.length → BindsTo s fd ⟨us, ks.zip ws⟩ (ps.zip (g us ws))
 rel : ∀ {vs : List V} {us : List Value} {zs : List V} {ws : List Value}, Vals vs us → Vals zs ws → Vals (gV vs zs) (g us ws)
variable {g : List Value → List Value → List Value} {gV : List V → List V → List V}
end
structure FnScope (N P : List Str) (sc : Scope) : Prop where
 kind : sc.kind = .function
 co : sc.isCoroutine = false
 gen : sc.isGenerator = false
 nd : N.Nodup
 pre : N.take P.length = P
 par : ∀ x ∈ P, sc.names.lookup x = some .local ∨ sc.names.lookup x = some .cell
 nofree : ∀ y ∈ sc.names, y.2 ≠ .free
theorem z63 {kindOf : Str → Option NameKind} {x : Str} : ∀ {binds : List (Str × Value)} {m : Str → Option Value}, (∀ v, (x, v) ∉ binds) → bindL kindOf binds m x = m x
 | [], _, _ => rfl
 | (n, v) :: r, m, h => by
  unfold bindL
  rw [z63 fun w hw => h w (List.mem_cons_of_mem _ hw)]
  split
  ·have : x ≠ n := by rintro rfl; exact h v List.mem_cons_self
   simp [this]
  ·rfl
theorem z64 {kindOf : Str → Option NameKind} {x : Str} : ∀ {binds : List (Str × Value)} {m : Str → Option Value}, (∀ v, (x, v) ∉ binds) → bindC kindOf binds m x = m x
 | [], _, _ => rfl
 | (n, v) :: r, m, h => by
  unfold bindC
  rw [z64 fun w hw => h w (List.mem_cons_of_mem _ hw)]
  split
  ·rfl
  ·have : x ≠ n := by rintro rfl; exact h v List.mem_cons_self
   simp [this]
theorem z65 {kindOf : Str → Option NameKind} {x : Str} {v : Value} : ∀ {P : List Str} {vs : List Value} {i : Nat} {m : Str → Option Value}, P.Nodup → P[i]? = some x → vs[i]? = some v → kindOf x = some .local →
  bindL kindOf (P.zip vs) m x = some v
 | [], _, _, _, _, h, _, _ => by simp at h
 | _ :: _, [], _, _, _, _, h, _ => by simp at h
 | p :: P, w :: vs, 0, m, nd, h1, h2, hk => by
  simp at h1 h2; subst h1; subst h2
  show bindL kindOf ((p, w) :: P.zip vs) m p = _
  unfold bindL
  rw [z63 fun v hv => (List.nodup_cons.mp nd).1 (List.of_mem_zip hv).1, if_pos hk]
  simp
 | p :: P, w :: vs, i + 1, m, nd, h1, h2, hk => by
  show bindL kindOf ((p, w) :: P.zip vs) m x = _
  unfold bindL
  exact z65 (i := i) (List.nodup_cons.mp nd).2 (by simpa using h1) (by simpa using h2) hk
theorem z66 {kindOf : Str → Option NameKind} {x : Str} {v : Value} : ∀ {P : List Str} {vs : List Value} {i : Nat} {m : Str → Option Value}, P.Nodup → P[i]? = some x → vs[i]? = some v → kindOf x ≠ some .local →
  bindC kindOf (P.zip vs) m x = some v
 | [], _, _, _, _, h, _, _ => by simp at h
 | _ :: _, [], _, _, _, _, h, _ => by simp at h
 | p :: P, w :: vs, 0, m, nd, h1, h2, hk => by
  simp at h1 h2; subst h1; subst h2
  show bindC kindOf ((p, w) :: P.zip vs) m p = _
  unfold bindC
  rw [z64 fun v hv => (List.nodup_cons.mp nd).1 (List.of_mem_zip hv).1, if_neg hk]
  simp
 | p :: P, w :: vs, i + 1, m, nd, h1, h2, hk => by
  show bindC kindOf ((p, w) :: P.zip vs) m x = _
  unfold bindC
  exact z66 (i := i) (List.nodup_cons.mp nd).2 (by simpa using h1) (by simpa using h2) hk
def start (N : List Str) (vs : List V) : St := vs.map some ++ List.replicate (N.length - vs.length) none
def cxOf (CX : CXT) (P : Program) (w : World) (K : PySem.W.Frag) (mg : Str → Option Value) (base : Heap) (N : List Str) (qual : Str) (scope : Scope) (f : Addr) (cd : Value) (A : Around) (outer : List Env) (s : Shared) (H : Hp) (E : XK) : Cx where
 prog := P
 w := w
 K := K
 mg := mg
 base := base
 A := A.deeper (envOfC qual scope s.heap.objs.size f cd)
 N := N
 s₀ := s
 H₀ := H
 env := envOfC qual scope s.heap.objs.size f cd
 outer := outer
 stack := envOfC qual scope s.heap.objs.size f cd :: outer
 ex := []
 calm := true
 fn := fun _ => true
 pn := []
 xe := fun e s' => wpAny (model P w) (A.deeper (envOfC qual scope s.heap.objs.size f cd)) (leaving (envOfC qual scope s.heap.objs.size f cd) e) (fun _ s'' => CX outer H s E e s'') (fun e' s'' => CX outer H s E e' s'') s'
theorem z70 {sc : Scope} {n : Nat} {x : Str} (h : sc.names.lookup x = some .cell) : ∃ c, (cellsFrom n sc.names []).lookup x = some c := by
 have q := PySem.W.cellsFrom_some sc.names n [] (.inl h)
 exact Option.isSome_iff_exists.mp q
theorem z9y {CX : CXT} {P : Program} {w : World} {K : PySem.W.Frag} {mg : Str → Option Value} {base : Heap} {N ps : List Str} {qual : Str} {scope : Scope} {f : Addr} {cd : Value} {A : Around} {outer : List Env} {s s1 : Shared} {H : Hp} {E : XK} {us : List Value} {vs : List V}
  (S : FnScope N ps scope) (hd : A.handled = none) (e0 : Env0 P w K mg base A outer s H) (hl : vs.length = ps.length) (r : Vals vs us)
  (x : InCallC s s.heap.objs.size (bindL (envOfC qual scope s.heap.objs.size f cd).kindOf (ps.zip us) fun _ => none) (cellsFrom (s.heap.objs.size + 1) scope.names []) (bindC (envOfC qual scope s.heap.objs.size f cd).kindOf (ps.zip us) fun _ => none) s1) :
  Inv (cxOf CX P w K mg base N qual scope f cd A outer s H E) [] (start N vs) H s1 := by
 have hpl : ps.length ≤ N.length := by have := congrArg List.length S.pre; rw [List.length_take] at this; omega
 obtain ⟨h1, tk, rfl, hk⟩ := x.done
 have noA : ∀ b : Addr, b ∉ (cxOf CX P w K mg base N qual scope f cd A outer s H E).ex := fun b z => absurd (show b ∈ ([] : List Addr) from z) (by simp)
 refine ⟨⟨e0.mod, S.kind, rfl, rfl, Nat.le_refl _, fun y z c h1 h2 => ?_, fun y hy => ?_, fun y c _ h => ?_, fun _ => hd, Around.frames_deeper e0.frames, .inr ⟨rfl, rfl⟩, fun b z => absurd z (noA b), e0.bs, e0.bsz, fun b _ _ => noA b, fun b z => absurd z (noA b), e0.funs, e0.frf⟩,
  rfl, e0.bare, Un.kept hk, ⟨_, x.toInCall.ns, fun i y v h1 h2 h3 => ?_⟩, fun y c h => ⟨_, x.cell y c h⟩, e0.hok.fresh (Nat.le_refl _), fun y c h => ?_, fun p hp => absurd (show p ∈ ([] : List (Addr × Obj)) from hp) (by simp), e0.hok.kept hk, ?_⟩
 ·exact name_of_addr x.apart (PySem.mem_of_lookup h1) (PySem.mem_of_lookup h2)
 ·have hy : scope.names.lookup y = some .cell ∨ scope.names.lookup y = some .free := hy
  rcases hy with hy | hy
  ·exact z70 hy
  ·exact absurd rfl (S.nofree _ (PySem.mem_of_lookup hy))
 ·exact Nat.le_of_lt (x.above y c (PySem.mem_of_lookup h))
 ·have hi : i < vs.length := by
   unfold start at h2
   by_cases hi : i < vs.length
   ·exact hi
   ·rw [List.getElem?_append_right (by simpa using hi)] at h2
    rw [List.getElem?_replicate] at h2
    split at h2 <;> cases h2
  have ha : vs[i]? = some v := by
   unfold start at h2
   rw [List.getElem?_append_left (by simpa using hi), List.getElem?_map] at h2
   cases e : vs[i]? with
   | none => rw [e] at h2; cases h2
   | some a => rw [e] at h2; cases h2; rfl
  obtain ⟨u, hu, rv⟩ := r.get ha
  have hp : ps[i]? = some y := by
   rw [← S.pre, List.getElem?_take_of_lt (by omega)]; exact h1
  have ndP : ps.Nodup := by rw [← S.pre]; exact S.nd.sublist (List.take_sublist _ _)
  refine ⟨u, rv, ?_⟩
  rcases S.par y (List.mem_of_getElem? hp) with k | k
  ·exact .inl ⟨k, z65 ndP hp hu k⟩
  ·obtain ⟨c, e⟩ := z70 (n := s.heap.objs.size + 1) k
   refine .inr ⟨.inl k, c, e, ?_⟩
   have q := x.cell y c e
   rw [z66 ndP hp hu (by show scope.names.lookup y ≠ _; rw [k]; decide)] at q
   exact q
 ·exact e0.hok.fresh (Nat.le_of_lt (x.above y c (PySem.mem_of_lookup h)))
 ·unfold start
  show _ = N.length
  rw [List.length_append, List.length_map, List.length_replicate]
  omega
theorem z90 {CX : CXT} {P : Program} {w : World} {K : PySem.W.Frag} {mg : Str → Option Value} {base : Heap} {k : Nat} {f : Addr} {name qual : Str} {params : Arguments} {body : List Stmt} {scope : Scope} {dV kV doc pm cdv ct oc : Value} {an od : Option Addr}
  {osl : Array (Option Value)} {N ps : List Str} {sp : Sp} (lk : K.lookup f = some ⟨oc, od, .func (PySem.W.fnOf name qual params body scope dV kV doc pm an cdv ct), osl⟩) (hcd : PySem.W.codeIn K cdv qual = true) (S : FnScope N ps scope)
  (len : ∀ vs H Q E, sp vs H Q E → vs.length = ps.length)
  (hbody : ∀ (A : Around) (outer : List Env) (s : Shared) (H : Hp) (vs : List V) (Q : VK) (E : XK), Room k (A.deeper (envOfC qual scope s.heap.objs.size f cdv)) → sp vs H Q E →
   ∃ t, PSs (cxOf CX P w K mg base N qual scope f cdv A outer s H E) body t ∧ t { nx := fun _ H' => Q .non H', rt := Q } (start N vs) H) :
  FnOk P w K mg base CX (k + 1) f (PySem.W.fnOf name qual params body scope dV kV doc pm an cdv ct) ps sp := by
 refine ⟨len, fun A outer s H args us vs Q E hr e0 hb r hsp => ?_⟩
 have hl := len _ _ _ _ hsp
 have KX : K.In s.heap := e0.mod.kin.keeps fun b o e => (e0.bs b o e).1
 have lim : s.heap.NoLimit := e0.mod.nolimit.keeps fun b o e => (e0.bs b o e).1
 have hkind : ∀ y ∈ ps.zip us, scope.names.lookup y.1 = some .local ∨ (scope.names.lookup y.1 = some .cell ∧ ((cellsFrom (s.heap.objs.size + 1) scope.names []).lookup y.1).isSome = true) := fun ⟨n, v⟩ hy => by
  rcases S.par n (List.of_mem_zip hy).1 with q | q
  ·exact .inl q
  ·exact .inr ⟨q, PySem.W.cellsFrom_some _ _ _ (.inl q)⟩
 refine codeAny_call_function hr.depth (KX _ _ lk) rfl S.co S.gen rfl (PySem.W.codeRec_of KX hcd) (hb _ _ _ _ ?_)
 refine wpAny_newFunctionEnv_cells S.kind hkind fun env he s1 x => ?_
 subst he
 refine ⟨lim.keeps x.toInCall.keep, codeAny_func ?_⟩
 obtain ⟨t, ht, hq⟩ := hbody A outer s H vs Q E (hr.deeper _) hsp
 have I : Inv (cxOf CX P w K mg base N qual scope f cdv A outer s H E) [] (start N vs) H s1 := z9y S hr.hd e0 hl r x
 refine wpAny_mono (ht [] s1 (start N vs) H _ I hq) (fun fl s' hs => ?_) fun e s' hs => hs
 have fin : ∀ {σ' : St} {H' : Hp} {v : V} {u : Value}, Inv (cxOf CX P w K mg base N qual scope f cdv A outer s H E) [] σ' H' s' → RelV v u → Q v H' → CE outer P w H s Q u s' :=
  fun {σ' H' v u} J rv q => ⟨v, H', J.os, J.bare, J.base, J.hok, rv, q⟩
 cases fl with
 | ret u =>
  obtain ⟨v, σ', H', J, rv, q⟩ := hs
  exact fin J rv q
 | next =>
  obtain ⟨σ', H', J, q⟩ := hs
  exact fin (v := V.non) (u := Value.none) J rfl q
 | brk =>
  obtain ⟨_, _, _, q⟩ := hs
  exact False.elim q
 | cont =>
  obtain ⟨_, _, _, q⟩ := hs
  exact False.elim q
end L2
namespace L2
open PySem PySem.Spec PyProof.Rows
section
variable {X : Cx} {x : Str} {p pos : Pos} {e : Expr} {es : List Expr} {t : TA} {id T : String} {r : List V → Hp → VK → Prop}
def tCB (r : List V → Hp → VK → Prop) (t : TA) : TE := fun σ H Q => t σ H fun vs H1 => r vs H1 Q
theorem zd (hc : CallR X (.builtin id) r) (hg : Gl X x) (hm : X.mg x = none) (hv : bootBuiltins x = some (.builtin id)) (ha : PA X (e :: es) t) (hn : x ≠ "__name__" := by decide) (hdb : (x == ("__debug__" : Str)) = false := by decide)
  (he : starEach (e :: es) X.env = (false, eval e X.env) :: starEach es X.env := by rfl) (hpl : (backTo pos (starEach es X.env)).any (·.1) = false := by rfl) : PE X (.Call (.Name x p) (e :: es) [] pos) (tCB r t) := by
 intro pins s σ H Q I h
 refine wpAny_Call_Name_kw (z3c I hg hm hv ?_ hn hdb)
 exact PyProof.Rows.callWith_builtin1 (thn (ha pos pins s σ H _ I h) fun us s1 ⟨vs, H1, I1, r1, q1⟩ => hc pins s1 σ H1 vs us Q I1 r1 q1) he hpl
theorem z67 (hc : CallR X (.type T) r) (hg : Gl X x) (hm : X.mg x = none) (hv : bootBuiltins x = some (.type T)) (ha : PA X (e :: es) t) (hn : x ≠ "__name__" := by decide) (hdb : (x == ("__debug__" : Str)) = false := by decide)
  (he : starEach (e :: es) X.env = (false, eval e X.env) :: starEach es X.env := by rfl) (hpl : (backTo pos (starEach es X.env)).any (·.1) = false := by rfl) : PE X (.Call (.Name x p) (e :: es) [] pos) (tCB r t) := by
 intro pins s σ H Q I h
 refine wpAny_Call_Name_kw (z3c I hg hm hv ?_ hn hdb)
 exact PyProof.Rows.callWith_type1 (thn (ha pos pins s σ H _ I h) fun us s1 ⟨vs, H1, I1, r1, q1⟩ => hc pins s1 σ H1 vs us Q I1 r1 q1) he hpl
end
end L2
namespace HT
open PySem PyProof.Rows
section
open PySem.SeqAt
open PySem.AutoSeq1 (wpAny_loadPart')
open PySem.MeetsSeq PySem.MeetsSeq2 PySem.MeetsSeq3
end
section
variable {prog : Program} {w : World} {A : Around} {E : Value → Shared → Prop} {s : Shared}
end
end HT
namespace L2
open PySem PySem.Spec PyProof.Rows
abbrev TO := St → Hp → (Option Int → Hp → Prop) → Prop
def PO (X : Cx) (e : Option Expr) (t : TO) : Prop :=
 ∀ (pins : List (Addr × Obj)) (s : Shared) (σ : St) (H : Hp) (Q : Option Int → Hp → Prop), Inv X pins σ H s → t σ H Q →
  wpAny (model X.prog X.w) X.A (evalPart e X.env) (fun u s' => ∃ o H', Inv X pins σ H' s' ∧ IsPart u o ∧ Q o H') X.xe s
def z5q : TO := fun _ H Q => Q none H
def z91 (t : TE) : TO := fun σ H Q => t σ H fun x H1 => ∃ i, x = .int i ∧ Q (some i) H1
section
variable {X : Cx} {e : Expr} {te : TE} {lo hi : Option Expr} {tl th : TO} {pos p2 : Pos}
theorem zbh : PO X none z5q := by
 intro pins s σ H Q I h
 rw [evalPart_none]
 exact wpAny_pure ⟨none, H, I, .none, h⟩
theorem zbi (h : PE X e te) : PO X (some e) (z91 te) := by
 intro pins s σ H Q I hw
 rw [evalPart_some]
 refine thn (h pins s σ H _ I hw) fun u s1 ⟨x, H1, I1, r1, q1⟩ => ?_
 obtain ⟨i, rfl, q⟩ := q1
 obtain ⟨t, rfl⟩ := r1
 exact ⟨some i, H1, I1, .int i t, q⟩
def SlR (X : Cx) (r : V → Option Int → Option Int → Hp → VK → Prop) : Prop :=
 ∀ (pins : List (Addr × Obj)) (s : Shared) (σ : St) (H : Hp) (x : V) (v vl vu : Value) (lo hi : Option Int) (sl : Addr) (Q : VK), Inv X pins σ H s → RelV x v → s.heap.IsSliceOf sl vl vu .none → IsPart vl lo → IsPart vu hi → r x lo hi H Q →
  ∃ T id, typeLookup (.type T) "__getitem__" = pure (some (.builtin id)) ∧ s.TypeIs v T ∧ wpAny (model X.prog X.w) X.A (getItem v (.ref sl)) (EP X pins σ Q) X.xe s
theorem SlR.or {r r' : V → Option Int → Option Int → Hp → VK → Prop} (h : SlR X r) (h' : SlR X r') : SlR X (fun x lo hi H Q => r x lo hi H Q ∨ r' x lo hi H Q) := by
 intro pins s σ H x v vl vu lo hi sl Q I rx hs pl pu q
 rcases q with q | q
 ·exact h pins s σ H x v vl vu lo hi sl Q I rx hs pl pu q
 ·exact h' pins s σ H x v vl vu lo hi sl Q I rx hs pl pu q
def tSl (r : V → Option Int → Option Int → Hp → VK → Prop) (te : TE) (tl th : TO) : TE := fun σ H Q => te σ H fun x H1 => tl σ H1 fun l H2 => th σ H2 fun u H3 => r x l u H3 Q
theorem zai {r : V → Option Int → Option Int → Hp → VK → Prop} (hr : SlR X r) (he : PE X e te) (hl : PO X lo tl) (hu : PO X hi th) : PE X (.Subscript e (.Slice lo hi none p2) pos) (tSl r te tl th) := by
 intro pins s σ H Q I h
 refine Subscript_ (thn (he pins s σ H _ I h) fun v s1 ⟨x, H1, I1, r1, q1⟩ => ?_)
 refine wpAny_Slice (thn (hl pins s1 σ H1 _ I1 q1) fun vl s2 ⟨l, H2, I2, pl, q2⟩ => thn (hu pins s2 σ H2 _ I2 q2) fun vu s3 ⟨u, H3, I3, pu, q3⟩ => ?_)
 rw [evalPart_none]
 refine wpAny_pure ?_
 have I4 : Inv X pins σ H3 { s3 with heap := s3.heap.push { cls := .type "slice", data := .fields #[vl, vu, .none] } } := I3.kept (t' := s3.toks) fun b ob q => Heap.get?_push_of_some _ q
 obtain ⟨T, id, hT, ht, hg⟩ := hr pins { s3 with heap := s3.heap.push { cls := .type "slice", data := .fields #[vl, vu, .none] } } σ H3 x v vl vu l u s3.heap.objs.size Q I4 r1 (Heap.IsSliceOf.new ..) pl pu q3
 show wpAny (model X.prog X.w) X.A (subscriptTail e (.Slice lo hi none p2) v (.ref s3.heap.objs.size)) (EP X pins σ Q) X.xe { s3 with heap := s3.heap.push { cls := .type "slice", data := .fields #[vl, vu, .none] } }
 exact tail_any (ops := [.ref s3.heap.objs.size, v]) ht hT hg (by with_unfolding_all rfl)
end
end L2
namespace L2
open PySem PySem.Spec PyProof.Rows
def ixN (n : Nat) (i : Int) : Option Nat := if 0 ≤ i then (if i < n then some i.toNat else none) else if -(n : Int) ≤ i then some (i + n).toNat else none
def atI {α : Type} (xs : List α) (i : Int) : Option α := (ixN xs.length i).bind fun j => xs[j]?
theorem zbj {n : Nat} {i : Int} {j : Nat} (h : ixN n i = some j) : seqIndex? i n = some j ∧ j < n ∧ -(n : Int) ≤ i ∧ i < n := by
 unfold ixN at h
 by_cases h0 : 0 ≤ i
 ·rw [if_pos h0] at h
  by_cases h1 : i < n
  ·rw [if_pos h1] at h
   have e : i.toNat = j := Option.some.inj h
   exact ⟨by rw [seqIndex_of h0 h1, e], by omega, by omega, h1⟩
  ·rw [if_neg h1] at h; cases h
 ·rw [if_neg h0] at h
  by_cases h1 : -(n : Int) ≤ i
  ·rw [if_pos h1] at h
   have e : (i + n).toNat = j := Option.some.inj h
   exact ⟨by rw [seqIndex_neg (by omega) h1, e], by omega, h1, by omega⟩
  ·rw [if_neg h1] at h; cases h
theorem z5r {α : Type} {xs : List α} {i : Int} {v : α} (h : atI xs i = some v) : ∃ j, seqIndex? i xs.length = some j ∧ xs[j]? = some v ∧ j < xs.length ∧ -(xs.length : Int) ≤ i ∧ i < xs.length := by
 unfold atI at h
 cases e : ixN xs.length i with
 | none => rw [e] at h; cases h
 | some j =>
  rw [e] at h
  obtain ⟨h1, h2, h3, h4⟩ := zbj e
  exact ⟨j, h1, h, h2, h3, h4⟩
theorem zi {α : Type} {xs : List α} {j : Nat} {v : α} (h : xs[j]? = some v) : atI xs (j : Int) = some v := by
 have hj : j < xs.length := (List.getElem?_eq_some_iff.mp h).1
 have e : ixN xs.length (j : Int) = some j := by
  unfold ixN
  rw [if_pos (by omega), if_pos (by omega)]; simp
 unfold atI; rw [e]; exact h
def zbk (b : Expr) : Prop := ∀ o i, subscripted b false o i = operate [o, i] (getItem o i)
def IxR (X : Cx) (r : R2) : Prop :=
 ∀ (value slice : Expr) (pins : List (Addr × Obj)) (s : Shared) (σ : St) (H : Hp) (x y : V) (v u : Value) (Q : VK), Inv X pins σ H s → RelV x v → RelV y u → r x y H Q →
  subscripted slice false v u = operate [v, u] (getItem v u) → wpAny (model X.prog X.w) X.A (subscriptTail value slice v u) (EP X pins σ Q) X.xe s
def MtR (X : Cx) (id : String) (r : V → List V → Hp → VK → Prop) : Prop :=
 ∀ (pins : List (Addr × Obj)) (s : Shared) (σ : St) (H : Hp) (x : V) (xs : List V) (v : Value) (us : List Value) (Q : VK), Inv X pins σ H s → RelV x v → Vals xs us → r x xs H Q →
  wpAny (model X.prog X.w) X.A (call (.builtin id) (v :: us)) (EP X pins σ Q) X.xe s
section
variable {X : Cx} {a b : Expr} {ta tb : TE} {pos : Pos}
theorem IxR.or {r r' : R2} (h : IxR X r) (h' : IxR X r') : IxR X (fun x y H Q => r x y H Q ∨ r' x y H Q) := by
 intro value slice pins s σ H x y v u Q I rx ry q hs
 rcases q with q | q
 ·exact h value slice pins s σ H x y v u Q I rx ry q hs
 ·exact h' value slice pins s σ H x y v u Q I rx ry q hs
theorem MtR.or {id : String} {r r' : V → List V → Hp → VK → Prop} (h : MtR X id r) (h' : MtR X id r') : MtR X id (fun x xs H Q => r x xs H Q ∨ r' x xs H Q) := by
 intro pins s σ H x xs v us Q I rx rs q
 rcases q with q | q
 ·exact h pins s σ H x xs v us Q I rx rs q
 ·exact h' pins s σ H x xs v us Q I rx rs q
theorem zn {r : R2} (hr : IxR X r) (ha : PE X a ta) (hb : PE X b tb) (hs : zbk b) : PE X (.Subscript a b pos) (tOp r ta tb) := by
 intro pins s σ H Q I h
 exact Subscript_ (binT ha hb I h fun v u s2 x y H2 I2 rx ry q => hr a b pins s2 σ H2 x y v u Q I2 rx ry q (hs _ _))
def rIxL (K : PySem.W.Frag) : R2 := fun x y H Q => ∃ p xs i v, x = .ref p ∧ y = .int i ∧ SqL K H p xs ∧ atI xs i = some v ∧ Q v H
def rIxT (K : PySem.W.Frag) : R2 := fun x y H Q => ∃ p xs i v, x = .ref p ∧ y = .int i ∧ SqT K H p xs ∧ atI xs i = some v ∧ Q v H
def rIxS : R2 := fun x y H Q => ∃ z i c, x = .str z ∧ y = .int i ∧ z.length ≤ sizeLine ∧ atI z.cps.toList i = some c ∧ Q (.str ⟨#[c]⟩) H
theorem ix_list : IxR X (rIxL X.K) := by
 intro value slice pins s σ H x y v u Q I rx ry h hs
 obtain ⟨p, xs, i, z, rfl, rfl, hq, he, q⟩ := h
 cases rx
 obtain ⟨t, rfl⟩ := ry
 obtain ⟨its, r, pl, hz⟩ := I.list hq
 obtain ⟨j, h1, h2, h3, h4, h5⟩ := z5r he
 obtain ⟨w, ew, rw'⟩ := r.get h2
 have hl := r.length
 have hn := z56
 have fin : EP X pins σ Q w s := ⟨z, H, I, rw', q⟩
 by_cases h0 : 0 ≤ i
 ·have hj : i.toNat = j := by
   rw [seqIndex_of h0 h5] at h1
   exact Option.some.inj h1
  exact item_listR pl.isList h0 (by omega) (by rw [hj]; simpa using ew) fin hs
 ·have hj : (i + (its.toArray.size : Int)).toNat = j := by
   rw [seqIndex_neg (by omega) h4] at h1
   rw [List.size_toArray, ← hl]
   exact Option.some.inj h1
  exact subscriptTail_builtinR (x := w) pl.isList.typeIs slot_list_getitem.lookup
   (wpAny_getItem_list_neg (Q := fun r s' => r = w ∧ EP X pins σ Q r s') pl.isList (by omega) (by rw [List.size_toArray] <;> omega) (by omega) (by rw [hj]; simpa using ew) ⟨rfl, fin⟩) hs
theorem ix_tup : IxR X (rIxT X.K) := by
 intro value slice pins s σ H x y v u Q I rx ry h hs
 obtain ⟨p, xs, i, z, rfl, rfl, hq, he, q⟩ := h
 cases rx
 obtain ⟨t, rfl⟩ := ry
 obtain ⟨its, r, pl, hz⟩ := I.tuple hq
 obtain ⟨j, h1, h2, h3, h4, h5⟩ := z5r he
 obtain ⟨w, ew, rw'⟩ := r.get h2
 have hl := r.length
 have hn := z56
 have fin : EP X pins σ Q w s := ⟨z, H, I, rw', q⟩
 exact subscriptTail_builtinR (x := w) pl.typeIs slot_tuple_getitem.lookup
  (getItem_tuple (j := j) (Q := fun r s' => r = w ∧ EP X pins σ Q r s') pl (by omega) (by omega) (by rw [List.size_toArray, ← hl]; exact h1) (by simpa using ew) ⟨rfl, fin⟩) hs
theorem z58 : IxR X rIxS := by
 intro value slice pins s σ H x y v u Q I rx ry h hs
 obtain ⟨z, i, c, rfl, rfl, hz, he, q⟩ := h
 obtain ⟨t, rfl⟩ := rx
 obtain ⟨t', rfl⟩ := ry
 obtain ⟨j, h1, h2, h3, h4, h5⟩ := z5r he
 have hl : z.cps.toList.length = z.length := by simp [Str.length]
 rw [hl] at h1 h4 h5
 have hn := z56
 exact tail_any (typeIs_str s z t) slot_str_getitem.lookup (getItem_str (c := c) (by
  have e1 : decide (i < -(2 ^ 63 : Int)) = false := decide_eq_false (by omega)
  have e2 : decide (i ≥ 2 ^ 63) = false := decide_eq_false (by omega)
  rw [e1, e2, Bool.or_false]) (by rw [h1]; simpa using h2) ⟨.str ⟨#[c]⟩, H, I.tok _, ⟨_, rfl⟩, q⟩) hs
def rIx (K : PySem.W.Frag) : R2 := fun x y H Q => rIxL K x y H Q ∨ rIxT K x y H Q ∨ rIxS x y H Q
theorem zc2 : IxR X (rIx X.K) := ix_list.or (ix_tup.or z58)
theorem Inv.lst {pins : List (Addr × Obj)} {σ : St} {H : Hp} {s : Shared} {p : Addr} {xs : List V} (I : Inv X pins σ H s) (h : H p = some (.lst xs)) :
  ∃ (its : List Value) (n : Nat), Vals xs its ∧ s.heap.get? p = some { cls := .type "list", data := .seq its.toArray n } ∧ xs.length ≤ sizeLine := by
 obtain ⟨z, its, n, r, e⟩ := I.hok p _ h
 exact ⟨its, n, r, e, z⟩
theorem zy : CallR X (.builtin "len") (fun xs H Q => ∃ p ys, xs = [.ref p] ∧ (SqL X.K H p ys ∨ SqT X.K H p ys) ∧ Q (.int ys.length) H) := by
 intro pins s σ H xs us Q I r h
 obtain ⟨p, ys, rfl, hq, q⟩ := h
 obtain ⟨u, rfl, rx⟩ := z4b r
 cases rx
 have hn := z56
 rcases hq with hq | hq
 ·obtain ⟨its, r', pl, hz⟩ := I.list hq
  have hlen := r'.length
  exact Calls.call_len_list pl.isList (by simp only [List.size_toArray] <;> omega) ⟨.int ys.length, H, I.tok _, ⟨s.toks + 1, by rw [List.size_toArray, hlen]⟩, q⟩
 ·obtain ⟨its, r', pl, hz⟩ := I.tuple hq
  have hlen := r'.length
  exact len_tuple pl (by simp only [List.size_toArray] <;> omega) ⟨.int ys.length, H, I.tok _, ⟨s.toks + 1, by rw [List.size_toArray, hlen]⟩, q⟩
theorem CallR.or {f : Value} {r r' : List V → Hp → VK → Prop} (h : CallR X f r) (h' : CallR X f r') : CallR X f (fun xs H Q => r xs H Q ∨ r' xs H Q) := by
 intro pins s σ H xs us Q I rs q
 rcases q with q | q
 ·exact h pins s σ H xs us Q I rs q
 ·exact h' pins s σ H xs us Q I rs q
theorem z71 : CallR X (.type "list") (fun xs H Q => ∃ p ys, xs = [.ref p] ∧ (SqL X.K H p ys ∨ SqT X.K H p ys) ∧ ∀ l, H l = none → Q (.ref l) (upd H l (.lst ys))) := by
 intro pins s σ H xs us Q I r h
 obtain ⟨p, ys, rfl, hq, q⟩ := h
 obtain ⟨u, rfl, rx⟩ := z4b r
 cases rx
 have fin : ∀ (its : List Value), Vals ys its → ys.length ≤ sizeLine → ∀ (h' : Heap) (c' : Nat), (∀ b o', s.heap.get? b = some o' → h'.get? b = some o') →
   h'.get? s.heap.objs.size = some { cls := .type "list", dict := none, data := .seq its.toArray c', slots := #[] } → EP X pins σ Q (.ref s.heap.objs.size) { s with heap := h' } := fun its r' hz h' c' kp e =>
  ⟨.ref s.heap.objs.size, _, I.laid (t' := s.toks) kp (Nat.le_refl _) (show ObjOk X.prog X.w _ h' _ (.lst ys) from ⟨hz, its, c', r', e⟩), rfl, q _ (I.hok.fresh (Nat.le_refl _))⟩
 rcases hq with hq | hq
 ·obtain ⟨its, r', pl, hz⟩ := I.list hq
  have hlen := r'.length
  obtain ⟨o, ho, hc, n, hd⟩ := pl.isList
  exact call_list_seq p (.inl rfl) ho hc hd (fun h' c' kp e => fin its r' hz h' c' kp e) (by simp only [List.size_toArray] <;> omega)
 ·obtain ⟨its, r', pl, hz⟩ := I.tuple hq
  have hlen := r'.length
  obtain ⟨o, ho, hc, n, hd⟩ := pl
  exact call_list_seq p (.inr rfl) ho hc hd (fun h' c' kp e => fin its r' hz h' c' kp e) (by simp only [List.size_toArray] <;> omega)
def tyV (K : PySem.W.Frag) (T : String) (x : V) (H : Hp) : Prop := match x with
 | .str _ => T = "str"
 | .int _ => T = "int"
 | .ref p => (T = "list" ∧ ∃ xs, SqL K H p xs) ∨ (T = "tuple" ∧ ∃ o, K.lookup p = some o ∧ o.cls = .type "tuple" ∧ o.dict = none) ∨
   (T = "dict" ∧ ((∃ kvs, H p = some (.dK kvs)) ∨ ∃ kvs, H p = some (.dT kvs))) ∨ (T = "set" ∧ ∃ S n, H p = some (.set S n))
 | _ => False
theorem zc3 {pins : List (Addr × Obj)} {σ : St} {H : Hp} {s : Shared} {T : String} {x : V} {v : Value} (I : Inv X pins σ H s) (r : RelV x v) (ty : tyV X.K T x H) :
  s.TypeIs v T ∧ ∀ a, v = .ref a → ∃ ob, s.heap.get? a = some ob ∧ ob.dict = none := by
 cases x with
 | str z =>
  obtain ⟨t, rfl⟩ := r
  cases (show T = "str" from ty)
  exact ⟨typeIs_str s z t, fun _ e => nomatch e⟩
 | int i =>
  obtain ⟨t, rfl⟩ := r
  cases (show T = "int" from ty)
  exact ⟨typeIs_int s i t, fun _ e => nomatch e⟩
 | ref p =>
  cases r
  rcases ty with ⟨rfl, xs, hq⟩ | ⟨rfl, o, hk, hc, hd⟩ | ⟨rfl, hk⟩ | ⟨rfl, S, n, hk⟩
  ·obtain ⟨its, _, pl, _⟩ := I.list hq
   refine ⟨pl.isList.typeIs, fun a e => ?_⟩
   cases e
   obtain ⟨o, n, e, c, hd, _⟩ := pl
   exact ⟨o, e, hd⟩
  ·refine ⟨⟨o, I.kIn p o hk, hc⟩, fun a e => ?_⟩
   cases e
   exact ⟨o, I.kIn _ o hk, hd⟩
  ·have z : ∃ o, s.heap.get? p = some o ∧ o.ExactDict := by
    rcases hk with ⟨kvs, hk⟩ | ⟨kvs, hk⟩
    ·obtain ⟨_, _, _, _, o, _, _, e, ex, _⟩ := I.hok p _ hk
     exact ⟨o, e, ex⟩
    ·obtain ⟨_, _, _, _, o, _, _, e, ex, _⟩ := I.hok p _ hk
     exact ⟨o, e, ex⟩
   obtain ⟨o, e, ex⟩ := z
   refine ⟨⟨o, e, ex.1⟩, fun a e2 => ?_⟩
   cases e2
   exact ⟨o, e, ex.2.1⟩
  ·obtain ⟨o, _, _, _, e, ex, _⟩ := I.hok p _ hk
   refine ⟨⟨o, e, ex.1⟩, fun a e2 => ?_⟩
   cases e2
   exact ⟨o, e, ex.2.1⟩
 | _ => exact False.elim ty
def tBM (K : PySem.W.Frag) (T : String) (r : V → List V → Hp → VK → Prop) (to : TE) (t : TA) : TE := fun σ H Q => to σ H fun x H1 => tyV K T x H1 ∧ t σ H1 fun xs H2 => r x xs H2 Q
variable {o e : Expr} {es : List Expr} {to : TE} {t : TA} {name : Str} {apos cpos : Pos} {T id : String} {r : V → List V → Hp → VK → Prop}
theorem z4c (pa : PlainAttrs T) (slot : Slot T name id) (hty : typeOf (.builtin id) = pure (.type "method_descriptor")) (hm : MtR X id r) (ho : PE X o to) (ha : PA X (e :: es) t)
  (hbase : attributeBase o name X.env (eval o X.env) = eval o X.env := by rfl)
  (hfew : ((backTo cpos (starEach (e :: es) X.env)).all (fun x => !x.1) && (backToKw cpos (keywordEach [] X.env)).all (fun x => x.1.isSome)
   && decide ((e :: es).length + ([] : List Keyword).length + (if ([] : List Keyword).isEmpty then 0 else 1) < 30)) = true := by rfl)
  (hline : (apos.endLine == cpos.line) = true := by rfl) (hs : starEach (e :: es) X.env = (false, eval e X.env) :: starEach es X.env := by rfl) (hplain : (backTo cpos (starEach es X.env)).any (·.1) = false := by rfl) :
  PE X (.Call (.Attribute o name apos) (e :: es) [] cpos) (tBM X.K T r to t) := by
 intro pins s σ H Q I h
 refine wpAny_Call_method_late hbase hfew hline rfl (thn (ho pins s σ H _ I h) fun v s1 ⟨x, H1, I1, r1, ty, q1⟩ => ?_)
 obtain ⟨h1, h2⟩ := zc3 I1 r1 ty
 refine ⟨T, id, pa, slot, hty, h1, h2, ?_⟩
 have hA := ha cpos pins s1 σ H1 _ I1 q1
 rw [hs] at hA ⊢
 refine Calls.callWith_builtin (by show (false || (backTo cpos (starEach es X.env)).any (·.1)) = false; rw [hplain] <;> rfl) (Calls.evalArgs_plain ?_)
 exact thn hA fun us s2 ⟨vs, H2, I2, r2, q2⟩ => hm pins s2 σ H2 x vs v us Q I2 r1 r2 q2
end
end L2
namespace L2
open PySem PySem.Spec PyProof.Rows
def MtM (X : Cx) (id : String) (r : V → List V → Hp → VK → Prop) : Prop :=
 ∀ (pins : List (Addr × Obj)) (s : Shared) (σ : St) (H : Hp) (x : V) (xs : List V) (v : Value) (us : List Value) (Q : VK), Inv X pins σ H s → RelV x v → Vals xs us → r x xs H Q →
  wpAny (model X.prog X.w) X.A (call (.builtin id) (v :: us)) (EP X pins σ Q) X.xe s
theorem Vals.one : ∀ {x : V} {us : List Value}, Vals [x] us → ∃ u, us = [u] ∧ RelV x u
 | _, _, .cons r .nil => ⟨_, rfl, r⟩
theorem Vals.two : ∀ {x y : V} {us : List Value}, Vals [x, y] us → ∃ u v, us = [u, v] ∧ RelV x u ∧ RelV y v
 | _, _, _, .cons r (.cons q .nil) => ⟨_, _, rfl, r, q⟩
theorem Vals.zero : ∀ {us : List Value}, Vals [] us → us = []
 | _, .nil => rfl
theorem Vals.eraseIdx : ∀ {xs : List V} {us : List Value} (i : Nat), Vals xs us → Vals (xs.eraseIdx i) (us.eraseIdx i)
 | _, _, _, .nil => .nil
 | _, _, 0, .cons _ t => t
 | _, _, i + 1, .cons r t => .cons r (Vals.eraseIdx i t)
theorem Vals.reverse {xs : List V} {us : List Value} (h : Vals xs us) : Vals xs.reverse us.reverse := by
 induction h with
 | nil => exact .nil
 | cons r t ih => rw [List.reverse_cons, List.reverse_cons]; exact Vals.append ih (.cons r .nil)
section
variable {X : Cx} {pins : List (Addr × Obj)} {σ : St} {H : Hp} {s : Shared} {l b : Addr} {xs ys zs : List V}
theorem Inv.lset {its its' : List Value} {n : Nat} {f : Array Value → Array Value} {t' : Nat} (I : Inv X pins σ H s) (hH : H l = some (.lst xs))
  (e : s.heap.get? l = some { cls := .type "list", data := .seq its.toArray n }) (hf : f its.toArray = its'.toArray) (hv : Vals ys its') (hz : ys.length ≤ sizeLine) :
  Inv X pins σ (upd H l (.lst ys)) { s with heap := s.heap.update l (Obj.mapSeq f), toks := t' } := by
 have q := PySem.IsL.update e f
 rw [hf] at q
 refine I.write (x := l) (e := l) (by rw [hH]; exact trivial) (.inl rfl) (fun b' u hb hu => (Heap.get?_update_other s.heap (Obj.mapSeq f) (Ne.symm hb)).trans hu) ⟨_, q⟩ ?_
 exact ⟨hz, its', _, hv, q⟩
theorem Inv.fresh (I : Inv X pins σ H s) : H s.heap.objs.size = none := I.hok.fresh (Nat.le_refl _)
theorem Inv.lstM (I : Inv X pins σ H s) (hH : H l = some (.lst xs)) : xs.length ≤ sizeLine ∧ ∃ (its : List Value) (n : Nat), Vals xs its ∧ xs.length = its.length ∧ s.heap.get? l = some { cls := .type "list", data := .seq its.toArray n } := by
 obtain ⟨z, its, n, r, e⟩ := I.hok l _ hH
 exact ⟨z, its, n, r, r.length, e⟩
end
section
variable {X : Cx}
def z8c : V → List V → Hp → VK → Prop := fun x vs H Q => ∃ l xs y, x = .ref l ∧ vs = [y] ∧ H l = some (.lst xs) ∧ xs.length < sizeLine ∧ Q .non (upd H l (.lst (xs ++ [y])))
theorem z2o : MtM X "list.append" z8c := by
 intro pins s σ H x vs v us Q I rx rv h
 obtain ⟨l, xs, y, rfl, rfl, hH, hz, q⟩ := h
 cases rx
 obtain ⟨u, rfl, ru⟩ := rv.one
 obtain ⟨z, its, n, r, hl, e⟩ := I.lstM hH
 refine call_meets F.slot_list_append ⟨_, e, rfl⟩ F.entry_list_append (F.args_list_append_2 _ _) (PySem.list_append l its.toArray n u (by rw [List.size_toArray]; omega)) ⟨e, ?_⟩
 refine ⟨.non, _, I.lset (its' := its ++ [u]) hH e (by simp) (r.append (.cons ru .nil)) ?_, rfl, q⟩
 rw [List.length_append, List.length_singleton]
 omega
end
section
variable {prog : Program} {w : World} {A : Around} {E : Value → Shared → Prop} {s : Shared}
end
section
variable {X : Cx}
end
end L2
namespace Att
open PySem PySem.W PySem.Calls PyProof.Rows
theorem z59 {P : Params} {h : Heap} : ∀ (ns : List Int) (vs : List Value), WellAll P h vs (ns.map WData.int) → IntsAre vs ns := by
 intro ns
 induction ns with
 | nil =>
  intro vs w
  rw [List.map_nil] at w
  cases w
  exact .nil
 | cons n ns ih =>
  intro vs w
  rw [List.map_cons] at w
  cases w with
  | cons a b =>
   cases a
   exact .cons _ _ (ih _ b)
theorem z9z {l : OpenLaw} {n : Nat} (hn : l.most = some n) {P : Params} {h : Heap} {args : List WData} {vals : List Value}
  (hpre : l.row.toRowW.claim.pre args = true) (hwl : WellAll P h vals args) :
  ∃ a vs ns, vals = [Value.ref a] ∧ args = [WData.list (ns.map WData.int)] ∧ h.get? a = some { cls := .type "list", data := .seq vs.toArray } ∧ IntsAre vs ns ∧ ns.length ≤ n := by
 have hsh : WShape.hasAll [] args [.list .int] = true := (pre_splitW hpre).1
 have hc : l.pre.holds [] { args := args } = true := (pre_splitW hpre).2
 obtain ⟨d, r, rfl, h1, h2⟩ := hasAllW_cons hsh
 obtain rfl := hasAllW_nil h2
 obtain ⟨xs, rfl, h3⟩ := hasW_list h1
 obtain ⟨ns, rfl⟩ := items_int h3
 have hlen : ns.length ≤ n := by
  unfold OpenLaw.pre at hc
  have h4 : (WTm.not (.lt (.lit (.int (n : Int))) (.len (.arg 0)))).holds [] { args := [.list (ns.map .int)] } = true := by
   have h4 := (holds_andW hc).1
   rw [hn] at h4
   exact h4
  have h5 := condW_of h4 (w_not (w_lt w_lit (w_len_list (w_arg rfl))))
  rw [List.length_map] at h5
  refine Nat.le_of_not_lt fun q => ?_
  have q' : (n : Int) < ((ns.length : Nat) : Int) := by omega
  first
   | (rw [decide_eq_true q'] at h5; exact absurd h5 (by decide))
   | (simp at h5; omega)
 cases hwl with
 | cons w1 w2 =>
  cases w2
  cases w1 with
  | list ho hall => exact ⟨_, _, ns, rfl, rfl, ho, z59 ns _ hall, hlen⟩
theorem za0 (l : OpenLaw) (args : List WData) : l.row.toRowW.claim.post args (.bool true) args = true :=
 postW_of (r := l.row.toRowW) (X := (true == true))
  (show WShape.has [] (.bool true) .bool = true by first | rfl | decide | simp [WShape.has, WShape.arms, WShape.armsAll])
  (show (WTm.eq .res (.lit (.bool true))).value [] { args := args, res := some (.bool true), after := args } = some (.bool (true == true)) from w_eq_bool (w_res rfl) w_lit) rfl
theorem attach_call {l : OpenLaw} {n : Nat} {q : Program} {loose : List Str} {XP : (Str → Option Value) → Heap → Prop} {YP : World → Heap → Prop} {d : DefRec}
  (hn : l.most = some n) (hdf : d.params.defaults = [])
  (call : ∀ (w : World) (s₀ s₁ : Shared) (mg mb : Str → Option Value) (fa : Addr) (o : Obj) (pm cd doc : Value) (a : Addr) (vs : List Value) (ns : List Int),
   Ground q loose [] XP w s₀ mg mb s₁.heap → YP w s₁.heap →
   s₁.heap.get? fa = some o → o.data = .func (docDef d.name d.params d.body d.scope pm cd doc) → s₁.heap.CodeRec cd d.name → mg d.name = some (.ref fa) →
   s₁.heap.get? a = some { cls := .type "list", data := .seq vs.toArray } → IntsAre vs ns → ns.length ≤ n → s₁.gens = #[] →
   codeAny (model l.prog w) callerA (.call (.ref fa) ⟨[.ref a], []⟩) (fun r s' => r = .ok (.ret (.bool true)) ∧ OldK s₁.heap s'.heap ∧ s'.os = s₁.os ∧ AllBare s'.gens) s₁) :
  WalkO q loose XP YP l.row.toRowW d [] (fun f vs => PySem.call f vs) := by
 intro w s₀ s₁ mg mb G Y fa o pm cd doc dV kV ho hd hcd hD hmg hg args vals as hpre hlay hrd hwl hlo
 obtain rfl : dV = .none := Dflts.none hD hdf
 obtain rfl : kV = .none := Dflts.noKw hD
 obtain ⟨a, vs, ns, rfl, rfl, hobj, hints, hlen⟩ := z9z hn hpre hwl
 refine enter_call (codeAny_mono (call w s₀ s₁ mg mb fa o pm cd doc a vs ns G Y ho (fd_plain hd) hcd hmg hobj hints hlen hg) fun r s' hq => ?_)
 obtain ⟨rfl, h2, h3, h4⟩ := hq
 exact ⟨.inl ⟨.bool true, .bool true, [], rfl, fun _ => rfl, .bool true, za0 l _, fun _ => ⟨List.Pairwise.nil, fun _ hm => (nomatch hm)⟩⟩, h2, h3, h4⟩
section
variable {prog : Program} {w : World} {A : Around} {E : Value → Shared → Prop} {s : Shared} {K : Frag}
def zce (h : Heap) (L d : Addr) : List (Addr × Obj) := (List.range h.objs.size).filterMap fun a => if a = L ∨ a = d then none else (h.get? a).map fun o => (a, o)
end
end Att
namespace L2
open PySem PySem.Spec PyProof.Rows
theorem z68 : ∀ {vs : List Value} {ns : List Int}, IntsAre vs ns → Vals (ns.map V.int) vs
 | _, _, .nil => .nil
 | _, _, .cons n t h => .cons ⟨t, rfl⟩ (z68 h)
end L2
namespace L2
open PySem PySem.Spec PyProof.Rows
end L2
namespace L2
open PySem PySem.Spec PyProof.Rows
def z22 (s : Stmt) : Arguments := match s with
 | .FunctionDef _ a _ _ _ _ _ _ _ _ => a
 | _ => { posonlyargs := [], args := [], vararg := none, kwonlyargs := [], kw_defaults := [], kwarg := none, defaults := [] }
def z1d (s : Stmt) : List Stmt := match s with
 | .FunctionDef _ _ b _ _ _ _ _ _ _ => b
 | _ => []
def zh (s : Stmt) : Scope := match s with
 | .FunctionDef _ _ _ _ _ _ sc _ _ _ => sc
 | _ => { kind := .function, names := [], isGenerator := false, isCoroutine := false }
abbrev CX0 : CXT := fun _ _ _ _ _ _ => False
abbrev E0 : XK := fun _ _ _ => False
theorem zcb {X : Cx} : z6z CX0 X E0 := fun _ _ _ _ _ _ _ h => h.elim
structure Fun (K : PySem.W.Frag) (x qual : Str) (st : Stmt) (f : Addr) (fd : FuncData) : Prop where
 ex : ∃ (oc : Value) (od : Option Addr) (kV doc pm : Value) (an : Option Addr) (cdv ct : Value) (osl : Array (Option Value)),
  fd = PySem.W.fnOf x qual (z22 st) (z1d st) (zh st) .none kV doc pm an cdv ct ∧ K.lookup f = some ⟨oc, od, .func fd, osl⟩ ∧ PySem.W.codeIn K cdv qual = true
 kp : PySem.W.keepIn K (.ref f) = true
section
variable {P : Program} {w : World} {K : PySem.W.Frag} {mg : Str → Option Value} {base : Heap}
theorem Fun.ok {x qual : Str} {st : Stmt} {f : Addr} {fd : FuncData} {N ps : List Str} {k : Nat} {sp : Sp} (F : Fun K x qual st f fd) (S : FnScope N ps (zh st)) (len : ∀ vs H Q E, sp vs H Q E → vs.length = ps.length)
  (hbody : ∀ (cdv : Value) (A : Around) (outer : List Env) (s : Shared) (H : Hp) (vs : List V) (Q : VK) (E : XK), Room k (A.deeper (envOfC qual (zh st) s.heap.objs.size f cdv)) → sp vs H Q E →
   ∃ t, PSs (cxOf CX0 P w K mg base N qual (zh st) f cdv A outer s H E).nox (z1d st) t ∧ t { nx := fun _ H' => Q .non H', rt := Q } (start N vs) H) : FnOk P w K mg base CX0 (k + 1) f fd ps sp := by
 obtain ⟨oc, od, kV, doc, pm, an, cdv, ct, osl, rfl, lk, hcd⟩ := F.ex
 refine z90 lk hcd S len fun A outer s H vs Q E hr hsp => ?_
 obtain ⟨t, h, q⟩ := hbody cdv A outer s H vs Q E hr hsp
 exact ⟨t, h.nox, q⟩
theorem Fun.binds {x qual : Str} {st : Stmt} {f : Addr} {fd : FuncData} {ps : List Str} (F : Fun K x qual st f fd)
  (h : ∀ (kV doc pm : Value) (an : Option Addr) (cdv ct : Value) (us : List Value), us.length = ps.length → bindArgs (PySem.W.fnOf x qual (z22 st) (z1d st) (zh st) .none kV doc pm an cdv ct) ⟨us, []⟩ = pure (ps.zip us)) : Binds K fd ps [] := by
 obtain ⟨oc, od, kV, doc, pm, an, cdv, ct, osl, rfl, lk, hcd⟩ := F.ex
 exact .all (h kV doc pm an cdv ct)
theorem fun_mk {x qual : Str} {st : Stmt} {f : Addr} {oc : Value} {od an : Option Addr} {osl : Array (Option Value)} {kV doc pm cdv ct : Value} (l : K.lookup f = some ⟨oc, od, .func (PySem.W.fnOf x qual (z22 st) (z1d st) (zh st) .none kV doc pm an cdv ct), osl⟩)
  (c : PySem.W.codeIn K cdv qual = true) (k : PySem.W.keepIn K (.ref f) = true) : Fun K x qual st f (PySem.W.fnOf x qual (z22 st) (z1d st) (zh st) .none kV doc pm an cdv ct) := ⟨⟨oc, od, kV, doc, pm, an, cdv, ct, osl, rfl, l, c⟩, k⟩
end
theorem z36 {n : Nat} (h : n ≤ 1000) : n < sizeLine := Nat.lt_of_le_of_lt h (by decide)
section
variable {X : Cx}
theorem pv (i : Nat) {x : Str} {pos : Pos} (hN : X.N[i]? = some x := by rfl) (hv : Vis X.env.scope x := by first | exact Or.inl rfl | exact Or.inr (Or.inl rfl) | exact Or.inr (Or.inr rfl)) (hd : (x == ("__debug__" : Str)) = false := by decide)
  (hcd : (x == ("__classdict__" : Str)) = false := by decide) : PE X (.Name x pos) (tVar i) := zbx hN hv hd hcd
end
theorem ite2 {c A B : Prop} [Decidable c] (h1 : c → A) (h2 : ¬ c → B) : if c then A else B := by
 by_cases h : c
 ·rw [if_pos h]
  exact h1 h
 ·rw [if_neg h]
  exact h2 h
def Same (H H' : Hp) : Prop := ∀ b o, H b = some o → H' b = some o
theorem Same.refl (H : Hp) : Same H H := fun _ _ h => h
theorem Same.trans {H H1 H2 : Hp} (a : Same H H1) (b : Same H1 H2) : Same H H2 := fun c o h => b c o (a c o h)
theorem Same.free {H H' : Hp} (e : Same H H') {l : Addr} (h : H' l = Option.none) : H l = Option.none := by
 cases q : H l with
 | none => rfl
 | some o =>
  rw [e l o q] at h
  cases h
theorem Same.seq {K : PySem.W.Frag} {H H' : Hp} {a : Addr} {xs : List V} (e : Same H H') (h : SqL K H a xs) : SqL K H' a xs := by
 rcases h with (h | ⟨o, h⟩) | h
 ·exact .inl (.inl (e _ _ h))
 ·exact .inl (.inr ⟨o, e _ _ h⟩)
 ·exact .inr h
end L2
end
section
namespace L2
open PySem PySem.Spec PyProof.Rows
section
variable {X : Cx} {tg : Expr}
end
def z1j (env : Env) : List (Str × NameKind) → List (Str × Addr) → List (Str × Addr)
 | [], cs => cs
 | (n, k) :: r, cs => z1j env r (if k == .free then (n, (env.cells.lookup n).getD 0) :: cs else cs)
theorem z5a {sc : Scope} {env : Env} (h : ∀ y ∈ sc.names, y.2 = .free → ∃ c, env.cells.lookup y.1 = some c) : closureFor sc env = pure (z1j env sc.names []) := by
 have go : ∀ (names : List (Str × NameKind)) (cs : List (Str × Addr)), (∀ y ∈ names, y.2 = .free → ∃ c, env.cells.lookup y.1 = some c) →
   (forIn names cs fun (x : Str × NameKind) (r : List (Str × Addr)) => (if (x.2 == .free) = true then (do let a ← cellOf env x.1; pure (ForInStep.yield ((x.1, a) :: r))) else pure (ForInStep.yield r) : Sem (ForInStep (List (Str × Addr))))) = (pure (z1j env names cs) : Sem (List (Str × Addr))) := by
  intro names
  induction names with
  | nil => intro cs _; rfl
  | cons y r ih =>
   intro cs hy
   obtain ⟨n, k⟩ := y
   rw [List.forIn_cons]
   have hr : ∀ z ∈ r, z.2 = .free → ∃ c, env.cells.lookup z.1 = some c := fun z hz => hy z (List.mem_cons_of_mem _ hz)
   by_cases hk : k = .free
   ·subst hk
    obtain ⟨c, hc⟩ := hy (n, .free) List.mem_cons_self rfl
    have hc' : env.cells.lookup n = some c := hc
    simp only [beq_self_eq_true, if_true, z1j, hc', Option.getD_some, cellOf]
    exact ih ((n, c) :: cs) hr
   ·have hb : (k == NameKind.free) = false := by simpa using hk
    simp only [hb, Bool.false_eq_true, if_false, z1j]
    exact ih cs hr
 unfold closureFor
 show (forIn sc.names [] (fun (x : Str × NameKind) (r : List (Str × Addr)) => (if (x.2 == .free) = true then (do let a ← cellOf env x.1; pure (ForInStep.yield ((x.1, a) :: r))) else pure (ForInStep.yield r) : Sem (ForInStep (List (Str × Addr))))) >>= fun cs => pure cs) = _
 rw [go sc.names [] h]
 rfl
theorem z3n {env : Env} : ∀ {names : List (Str × NameKind)} {cs : List (Str × Addr)} {x : Str} {c : Addr}, (∀ y ∈ names, y.2 = .free → ∃ c, env.cells.lookup y.1 = some c) → (∀ y d, cs.lookup y = some d → env.cells.lookup y = some d) →
  (z1j env names cs).lookup x = some c → env.cells.lookup x = some c
 | [], cs, x, c, _, hcs, h => hcs x c h
 | (n, k) :: r, cs, x, c, hy, hcs, h => by
  refine z3n (names := r) (fun z hz => hy z (List.mem_cons_of_mem _ hz)) ?_ h
  intro y d e
  by_cases hk : (k == NameKind.free) = true
  ·rw [if_pos hk, List.lookup_cons] at e
   obtain ⟨c', hc'⟩ := hy (n, k) List.mem_cons_self (by simpa using hk)
   have hc' : env.cells.lookup n = some c' := hc'
   cases hyn : y == n with
   | true =>
    rw [hyn] at e
    have : y = n := by simpa using hyn
    subst this
    simp only [hc', Option.getD_some] at e
    rw [hc']; exact e
   | false =>
    rw [hyn] at e
    exact hcs y d e
  ·rw [if_neg hk] at e
   exact hcs y d e
theorem z4r {env : Env} : ∀ {names : List (Str × NameKind)} {cs : List (Str × Addr)} {x : Str}, (∃ c, cs.lookup x = some c) → ∃ c, (z1j env names cs).lookup x = some c
 | [], cs, x, h => h
 | (n, k) :: r, cs, x, h => by
  refine z4r (names := r) ?_
  split
  ·rw [List.lookup_cons]
   cases hxn : x == n with
   | true => exact ⟨_, rfl⟩
   | false => exact h
  ·exact h
theorem z3o {env : Env} : ∀ {names : List (Str × NameKind)} {cs : List (Str × Addr)} {x : Str}, (x, NameKind.free) ∈ names → ∃ c, (z1j env names cs).lookup x = some c
 | [], _, _, h => by simp at h
 | (n, k) :: r, cs, x, h => by
  rcases List.mem_cons.mp h with e | h
  ·cases e
   refine z4r (names := r) ?_
   rw [if_pos (by rfl), List.lookup_cons]
   rw [show (n == n) = true by simp]
   exact ⟨_, rfl⟩
  ·exact z3o (names := r) h
theorem z4s {env : Env} {sc : Scope} {x : Str} {k : NameKind} (h : (relabel sc env).names.lookup x = some k) (hk : k = .cell ∨ k = .free) (hc : ∀ y ∈ sc.names, y.2 ≠ .cell) : (x, NameKind.free) ∈ sc.names := by
 have hm := PySem.mem_of_lookup h
 unfold relabel at hm
 obtain ⟨⟨n, k'⟩, hn, e⟩ := List.mem_map.mp hm
 by_cases hf : (k' == NameKind.free && env.scope.kind == .function && env.kindOf n == some .cell) = true
 ·have e' : (n, NameKind.cell) = (x, k) := by
   have := e
   simp only [hf, if_true] at this
   exact this
  injection e' with e1 e2
  subst e1
  have hk' : k' = .free := by
   rw [Bool.and_eq_true, Bool.and_eq_true] at hf
   simpa using hf.1.1
  rw [hk'] at hn
  exact hn
 ·have e' : (n, k') = (x, k) := by
   have := e
   simp only [hf, if_false] at this
   exact this
  injection e' with e1 e2
  subst e1 e2
  rcases hk with z | z
  ·exact absurd z (hc _ hn)
  ·rw [z] at hn; exact hn
abbrev z16 (X : Cx) (sc : Scope) (N : List Str) (s : Shared) (H : Hp) (C : Addr) (fp : List Addr) : Cx :=
 { X with N := N, s₀ := s, H₀ := H, env := compEnvC sc (z1j X.env sc.names []) C X.env, outer := X.stack, stack := X.stack, ex := fp, fn := fun _ => false, pn := [], xe := fun _ _ => False }
def CapOk (X : Cx) (sc : Scope) : List Str → List Nat → Prop
 | [], [] => True
 | y :: r, j :: js => (X.N[j]? = some y ∧ (X.env.kindOf y = some .cell ∨ X.env.kindOf y = some .free) ∧ sc.names.lookup y = some .free) ∧ CapOk X sc r js
 | _, _ => False
theorem CapOk.len {X : Cx} {sc : Scope} : ∀ {cap : List Str} {js : List Nat}, CapOk X sc cap js → cap.length = js.length
 | [], [], _ => rfl
 | _ :: _, _ :: _, h => congrArg (· + 1) (CapOk.len h.2)
 | [], _ :: _, h => h.elim
 | _ :: _, [], h => h.elim
theorem CapOk.get {X : Cx} {sc : Scope} : ∀ {cap : List Str} {js : List Nat} {i : Nat} {y : Str}, CapOk X sc cap js → cap[i]? = some y → ∃ j, js[i]? = some j ∧ X.N[j]? = some y ∧ (X.env.kindOf y = some .cell ∨ X.env.kindOf y = some .free) ∧ sc.names.lookup y = some .free
 | [], [], _, _, _, e => by simp at e
 | y :: _, j :: _, 0, _, h, e => by
  simp at e; subst e
  exact ⟨j, rfl, h.1⟩
 | _ :: r, _ :: js, i + 1, y, h, e => by
  obtain ⟨j, e1, e2⟩ := CapOk.get (i := i) h.2 (by simpa using e)
  exact ⟨j, by simpa using e1, e2⟩
 | [], _ :: _, _, _, h, _ => h.elim
 | _ :: _, [], _, _, h, _ => h.elim
def capt (σ : St) (js : List Nat) : St := js.map fun j => (σ[j]?).join
structure CompScope (X : Cx) (sc : Scope) (x : Str) (cap : List Str) (js : List Nat) : Prop where
 kind : sc.kind = .function
 nocell : ∀ y ∈ sc.names, y.2 ≠ .cell
 names : ∀ y ∈ sc.names, y.2 = .local → sc.names.lookup y.1 = some .local
 own : sc.names.lookup x = some .local
 free : ∀ y ∈ sc.names, y.2 = .free → X.env.kindOf y.1 = some .cell ∨ X.env.kindOf y.1 = some .free
 nd : (x :: cap).Nodup
 caps : CapOk X sc cap js
section
variable {X : Cx} {sc : Scope} {x : Str} {cap : List Str} {js : List Nat} {pins : List (Addr × Obj)} {σ : St} {H : Hp} {s : Shared}
theorem CompScope.cells (S : CompScope X sc x cap js) (I : Inv X pins σ H s) : ∀ y ∈ sc.names, y.2 = .free → ∃ c, X.env.cells.lookup y.1 = some c := fun y hy hf => I.ok.has y.1 (S.free y hy hf)
theorem CompScope.sub (S : CompScope X sc x cap js) (I : Inv X pins σ H s) {y : Str} {c : Addr} (h : (z1j X.env sc.names []).lookup y = some c) : X.env.cells.lookup y = some c :=
 z3n (S.cells I) (fun _ _ e => by simp at e) h
theorem z92 {s4 : Shared} {h4 : Heap} {t4 : Nat} {fp : List Addr} {C : Addr} {v : Option V} {m : Str → Option Value} (S : CompScope X sc x cap js) (I : Inv X pins σ H s) (hfp : ∀ b ∈ fp, FpOk X pins H b) (hlt : ∀ b ∈ fp, b < s.heap.objs.size)
  (hC : s.heap.objs.size ≤ C) (hn : h4.Ns C m) (k : ∀ b o, s.heap.get? b = some o → h4.get? b = some o) :
  Inv (z16 X sc (x :: cap) s H C fp) [] (none :: capt σ js) H { s with heap := h4, toks := t4 } := by
 have nf : ∀ b ∈ frs X.stack, b < s.heap.objs.size := fun b hb => by
  obtain ⟨_, o, ho, _⟩ := I.stack.mem hb
  exact Heap.lt_size ho
 refine ⟨⟨I.ok.mod, S.kind, I.ok.glob, I.ok.blt, hC, fun y z c h1 h2 => I.ok.inj y z c (S.sub I h1) (S.sub I h2), fun y hy => ?_, fun y c h => absurd h Bool.false_ne_true, I.ok.hd, I.ok.frames, .inl rfl, fun b hb => ⟨Nat.ne_of_lt (Nat.lt_of_lt_of_le (hlt b hb) hC), fun y c e => (hfp b hb).2.2.2.2.1 y c (S.sub I e)⟩, I.bs,
   Nat.le_trans I.ok.bsz I.sz, fun b o e hb => ?_, fun b hb z => ?_, I.stack, I.stkFree⟩, rfl, I.bare, Un.kept k, ⟨m, hn, fun i y v' h1 h2 h3 => ?_⟩, fun y c e => ?_, I.hok.fresh hC, fun y c e => I.freeC y c (S.sub I e), fun p hp => absurd (show p ∈ ([] : List (Addr × Obj)) from hp) (by simp), I.hok.kept k, ?_⟩
 ·exact z3o (by
   rcases hy with z | z
   ·exact z4s z (.inl rfl) S.nocell
   ·exact z4s z (.inr rfl) S.nocell)
 ·rcases (hfp b hb).2.2.2.1 with z | z
  ·exact I.ok.noex b o e z
  ·exact absurd (Nat.lt_of_lt_of_le (Heap.lt_size e) (Nat.le_trans I.ok.bsz z)) (Nat.lt_irrefl _)
 ·rcases List.mem_cons.mp (I.stkSub b z) with q | q
  ·exact (hfp b hb).2.1 q
  ·exact (hfp b hb).2.2.1 q
 ·cases i with
  | zero => exact absurd (show (none : Option V) = some v' from Option.some.inj h2) (by simp)
  | succ i =>
   have e1 : cap[i]? = some y := by simpa using h1
   obtain ⟨j, q1, q2, q3, q4⟩ := S.caps.get e1
   have e2 : (capt σ js)[i]? = some (some v') := by simpa using h2
   have e3 : σ[j]? = some (some v') := by
    unfold capt at e2
    rw [List.getElem?_map, q1, Option.map_some] at e2
    have e4 : (σ[j]?).join = some v' := Option.some.inj e2
    cases q : σ[j]? with
    | none => rw [q] at e4; cases e4
    | some w => rw [q] at e4; exact congrArg some e4
   have vis : Vis X.env.scope y := by
    rcases q3 with q3 | q3
    ·exact .inr (.inl q3)
    ·exact .inr (.inr q3)
   obtain ⟨mX, hnX, hl⟩ := I.loc
   obtain ⟨u, ru, lk⟩ := hl j y v' q2 e3 vis
   refine ⟨u, ru, .inr ?_⟩
   rcases lk with ⟨hk, _⟩ | ⟨hk, c, hc, hcell⟩
   ·rcases q3 with q3 | q3
    ·rw [q3] at hk; cases hk
    ·rw [q3] at hk; cases hk
   ·obtain ⟨c', hc'⟩ := z3o (env := X.env) (cs := []) (PySem.mem_of_lookup q4)
    have := S.sub I hc'
    rw [hc] at this
    cases this
    obtain ⟨o, ho, hd⟩ := hcell
    refine ⟨?_, c, hc', ⟨o, k c o ho, hd⟩⟩
    rcases h3 with z | z | z
    ·exfalso
     have hz := PySem.mem_of_lookup z
     obtain ⟨⟨n, k'⟩, hn', en⟩ := List.mem_map.mp hz
     by_cases hf : (k' == NameKind.free && X.env.scope.kind == .function && X.env.kindOf n == some .cell) = true
     ·simp only [hf, if_true] at en
      cases en
     ·simp only [hf, if_false] at en
      cases en
      have := S.names _ hn' rfl
      rw [q4] at this
      cases this
    ·exact .inl z
    ·exact .inr z
 ·obtain ⟨v', o, ho, hd⟩ := I.cell y c (S.sub I e)
  exact ⟨v', o, k c o ho, hd⟩
 ·show (none :: capt σ js).length = (x :: cap).length
  unfold capt
  rw [List.length_cons, List.length_cons, List.length_map, S.caps.len]
theorem z72 {sB : Shared} {hB : Heap} {fp : List Addr} {C D : Addr} {HB : Hp} {σB : St} {pinsB : List (Addr × Obj)} {acc : List V} {its : List Value} {n : Nat}
  (I : Inv X pins σ H s) (hfp : ∀ b ∈ fp, FpOk X pins H b) (IB : Inv (z16 X sc (x :: cap) s H C fp) pinsB σB HB sB) (hC : s.heap.objs.size ≤ C) (hD : s.heap.objs.size ≤ D) (hDC : D ≠ C) (hHD : HB D = none)
  (hd : sB.heap.get? D = some { cls := .type "list", data := .seq its.toArray n }) (rv : Vals acc its) (hz : acc.length ≤ sizeLine) (sb : ∀ b o, b ≠ C → sB.heap.get? b = some o → hB.get? b = some o) :
  Inv X pins σ (upd HB D (.lst acc)) { sB with heap := hB } := by
 have u := IB.base
 have hdB := sb D _ hDC hd
 have ltD : ∀ b o, s.heap.get? b = some o → b ≠ D := fun b o e => Nat.ne_of_lt (Nat.lt_of_lt_of_le (Heap.lt_size e) hD)
 have ltC : ∀ b o, s.heap.get? b = some o → b ≠ C := fun b o e => Nat.ne_of_lt (Nat.lt_of_lt_of_le (Heap.lt_size e) hC)
 refine I.call' (ch := fp) IB.os ⟨fun b o e n hb hx => sb b o (ltC b o e) (u.keep b o e n hb hx), fun b o e n hb hx => ?_, fun b o e n hx => by rw [zc (ltD b o e)]; exact u.free b o e n hx, fun b o e hx => ?_,
  fun b xs e => by rw [zc (zf (u.tups b xs e) hHD)]; exact u.tups b xs e, fun b o xs e => by rw [zc (zf (u.frzs b o xs e) hHD)]; exact u.frzs b o xs e, fun b ps e => ?_⟩ ?_ IB.bare fun b hb => ?_
 ·obtain ⟨sl, q⟩ := u.slot b o e n hb hx
  exact ⟨sl, sb b _ (ltC b o e) q⟩
 ·obtain ⟨o', q⟩ := u.there b o e hx
  exact ⟨o', sb b _ (ltC b o e) q⟩
 ·obtain ⟨m1, q⟩ := u.tbls b ps e
  exact ⟨m1, by rw [zc (zf q hHD)]; exact q⟩
 ·intro a o e
  by_cases ha : a = D
  ·subst ha
   rw [za] at e
   cases e
   exact ⟨hz, its, n, rv, hdB⟩
  ·rw [zc ha] at e
   refine (IB.hok a o e).stay (fun b w' hb q => sb b w' (fun z => ?_) q) (fun b q => by rw [zc (zf q hHD)]; exact q) fun b xs q => by rw [zc (zf q hHD)]; exact q
   have fC : HB C = none := IB.free
   rcases hb with hb | hb
   ·rw [z] at hb; rw [← hb, fC] at e; cases e
   ·rw [z, fC] at hb; cases hb
 ·obtain ⟨f0, f1, f2, f3, f4, f5⟩ := hfp b hb
  exact ⟨f3, f1, f4, f5⟩
end
end L2
end
section
namespace L2
open PySem PySem.Spec PyProof.Rows
def PIf (X : Cx) (ifs : List Expr) (t : TT) : Prop :=
 ∀ (pins : List (Addr × Obj)) (s : Shared) (σ : St) (H : Hp) (Q : Bool → Hp → Prop), Inv X pins σ H s → t σ H Q →
  wpAny (model X.prog X.w) X.A (forIn ifs true fun c r => if r = true then do let ok ← isTrue c X.env (eval c X.env); pure (ForInStep.yield ok) else pure (ForInStep.yield r)) (TP X pins σ Q) X.xe s
def tYes : TT := fun _ H Q => Q true H
theorem z4d {X : Cx} : PIf X [] tYes := fun _ _ _ H _ I h => wpAny_pure ⟨H, I, h⟩
theorem z5s {X : Cx} {c : Expr} {tc : TT} (h : PT X c tc) : PIf X [c] tc := by
 intro pins s σ H Q I hw
 simp only [List.forIn_cons, List.forIn_nil, if_true]
 refine wpAny_bind (wpAny_bind (thn (h pins s σ H Q I hw) fun b s1 q => ?_))
 exact wpAny_pure (wpAny_pure q)
def z26 (J : It) (tc : TT) (te : TE) (js : List Nat) (σ : St) (H1 : Hp) (Q : VK) : Prop :=
 ∃ W : Nat → Nat → List V → Hp → Prop, (∃ m, W 0 m [] H1) ∧ ∀ i m acc H, W i m acc H →
  (J.stop i H ∧ ∀ p, H p = none → Q (.ref p) (upd H p (.lst acc))) ∨
  (J.go i H ∧ acc.length < sizeLine ∧ ∀ x H', J.yld i H x H' → tc (some x :: capt σ js) H' fun b H2 =>
   if b = true then te (some x :: capt σ js) H2 fun v H3 => ∃ m', m' < m ∧ W (i + 1) m' (acc ++ [v]) H3 else ∃ m', m' < m ∧ W (i + 1) m' acc H2)
def z93 (wi : TI) (tc : TT) (te : TE) (js : List Nat) : TE := fun σ H Q => wi σ H fun J H1 => z26 J tc te js σ H1 Q
theorem z7t {prog : Program} {w : World} {A : Around} {R : Result → Shared → Prop} {s : Shared} {elt target iter : Expr} {ifs : List Expr} {scope : Scope} {pos : Pos} {it acc : Value} {env : Env} (I : Nat → Shared → Prop)
  (turn : ∀ n s, I n s → wpAny (model prog w) A (pyNext it) (fun r s₁ => match r with
   | none => R (.ok .next) s₁
   | some v => wpAny (model prog w) A (letOwnedTupleGo target it v) (fun _ s₀ => wpAny (model prog w) A (assign target env v) (fun _ s₂ =>
     wpAny (model prog w) A (forIn ifs true fun c r => if r = true then do let ok ← isTrue c env (eval c env); pure (ForInStep.yield ok) else pure (ForInStep.yield r)) (fun ok s₃ =>
      if ok = true then wpAny (model prog w) A (eval elt env) (fun x s₄ =>
       wpAny (model prog w) A (call (.builtin "list.append") [acc, x]) (fun _ s₅ => ∃ m, m < n ∧ I m s₅) (fun _ _ => False) s₄) (fun _ _ => False) s₃
      else ∃ m, m < n ∧ I m s₃) (fun _ _ => False) s₂) (fun _ _ => False) s₀) (fun _ _ => False) s₁) (fun _ _ => False) s)
  (n : Nat) (h : I n s) :
  codeAny (model prog w) A (.compLoop (.ListComp elt [⟨target, iter, ifs, 0⟩] scope pos) 0 it acc env) R s := by
 refine codeAny_loop rfl I (fun n s hI => ?_) n h
 show wpAny _ A ((compTurn (.ListComp elt [⟨target, iter, ifs, 0⟩] scope pos) 0 it acc env).onRaise (fun x => do noteFrame x env; theTreesLotGoes x)) _ _ s
 refine wpAny_noted (wpAny_mono (E := fun _ _ => False) ?_ (fun _ _ q => q) fun _ _ z => z.elim)
 rw [compTurn_list]
 refine wpAny_bind (wpAny_standAt (wpAny_bind (wpAny_mono (turn n s hI) (fun r s₁ h₁ => ?_) fun _ _ h' => h')))
 cases r with
 | none => exact wpAny_pure h₁
 | some v =>
  refine wpAny_bind (wpAny_mono h₁ (fun _ s₀ h₀ => ?_) fun _ _ h' => h')
  refine wpAny_bind (wpAny_mono h₀ (fun _ s₂ h₂ => wpAny_bind (wpAny_mono h₂ (fun ok s₃ h₃ => ?_) fun _ _ h' => h')) fun _ _ h' => h')
  cases ok with
  | false => exact wpAny_pure ⟨rfl, h₃⟩
  | true =>
   exact wpAny_bind (wpAny_bind (wpAny_mono h₃ (fun x s₄ h₄ => wpAny_bind (wpAny_mono h₄ (fun _ s₅ h₅ => wpAny_pure (wpAny_pure ⟨rfl, h₅⟩)) fun _ _ h' => h')) fun _ _ h' => h'))
section
variable {X : Cx} {sc : Scope} {x : Str} {cap : List Str} {js : List Nat} {pins : List (Addr × Obj)} {σ : St} {H : Hp} {s : Shared} {elt iter : Expr} {ifs : List Expr} {px pos : Pos} {tc : TT} {te : TE}
theorem z5b {J : It} {it : Addr} {fp : List Addr} {tn : Nat → Heap → Prop} {Q : VK} {E : Value → Shared → Prop} {RR : Value → Addr → Result → Shared → Prop} (S : CompScope X sc x cap js) (hcalm : X.calm = true)
  (hc : ∀ s H C fp, PIf (z16 X sc (x :: cap) s H C fp) ifs tc) (he : ∀ s H C fp, PE (z16 X sc (x :: cap) s H C fp) elt te)
  (I : Inv X pins σ H s) (T : Turn X.prog X.w X.K (.Name x px) J fp it tn) (st : tn 0 s.heap) (hfp : ∀ b ∈ fp, FpOk X pins H b) (go : z26 J tc te js σ H Q)
  (hRR : ∀ D C HB sB σB acc its n, s.heap.objs.size ≤ D → s.heap.objs.size ≤ C → D ≠ C → Inv (z16 X sc (x :: cap) s H C fp) [] σB HB sB → HB D = none → sB.heap.get? D = some { cls := .type "list", data := .seq (its : List Value).toArray n } → Vals acc its → acc.length ≤ sizeLine →
   (∀ p, HB p = none → Q (.ref p) (upd HB p (.lst acc))) → RR (.ref D) C (.ok .next) sB) :
  wpAny (model X.prog X.w) X.A (newList []) (fun acc s₃ => wpAny (model X.prog X.w) X.A (newFunctionEnv sc X.env.globals (z1j X.env sc.names []) [] X.env.qual none .none (some X.env)) (fun cenv s₄ =>
   codeAny (model X.prog X.w) X.A (.compStart (.ListComp elt [⟨.Name x px, iter, ifs, 0⟩] sc pos) 0 (.ref it) acc { cenv with scope := relabel sc X.env }) (RR acc cenv.locals) s₄) E s₃) E s := by
 refine wpAny_newObj_type (wpAny_newFunctionEnv S.nocell (by intro y hy; simp at hy) (fun h₁ hns₁ hsb₁ => ?_) S.kind)
 dsimp only at hns₁ hsb₁ ⊢
 generalize hH2 : s.heap.push { cls := .type "list", dict := none, data := .seq ([] : List Value).toArray } = H2 at hns₁ hsb₁ ⊢
 have hCs : H2.objs.size = s.heap.objs.size + 1 := by rw [← hH2, Heap.size_push]
 have hDC : s.heap.objs.size ≠ H2.objs.size := by rw [hCs]; exact Nat.ne_of_lt (Nat.lt_succ_self _)
 have hCle : s.heap.objs.size ≤ H2.objs.size := by rw [hCs]; exact Nat.le_succ _
 have below : ∀ b, b < s.heap.objs.size → b ≠ H2.objs.size := fun b hb => by rw [hCs]; exact Nat.ne_of_lt (Nat.lt_succ_of_lt hb)
 have old : ∀ b o, s.heap.get? b = some o → h₁.get? b = some o := fun b o e => hsb₁.extBut b o (below b (Heap.lt_size e)) (Heap.get?_push_of_some _ (hH2 ▸ Heap.get?_push_of_some _ e))
 have hacc : h₁.get? s.heap.objs.size = some { cls := .type "list", data := .seq ([] : List Value).toArray 0 } := hsb₁.extBut _ _ hDC (Heap.get?_push_of_some _ (hH2 ▸ Heap.get?_push_size _ rfl))
 have hlt : ∀ b ∈ fp, b < s.heap.objs.size := fun b hb => by
  obtain ⟨o, e, _⟩ := T.obj _ _ st b hb
  exact Heap.lt_size e
 have hlocal : (relabel sc X.env).names.lookup x = some .local := lookup_relabel_local S.own
 obtain ⟨W, ⟨m0, w0⟩, turn⟩ := go
 have nD : ∀ b ∈ fp, b ≠ s.heap.objs.size := fun b hb => Nat.ne_of_lt (hlt b hb)
 have nfs : s.heap.objs.size ∉ frs X.stack := fun z => by
  obtain ⟨_, o, ho, _⟩ := I.stack.mem z
  exact absurd (Heap.lt_size ho) (Nat.lt_irrefl _)
 have ncl : ∀ y c, (z1j X.env sc.names []).lookup y = some c → c ≠ s.heap.objs.size := fun y c e => by
  obtain ⟨v, o, ho, _⟩ := I.cell y c (S.sub I e)
  exact Nat.ne_of_lt (Heap.lt_size ho)
 have loop : ∀ s₃ : Shared, s₃ = { s with heap := h₁, toks := s.toks + ([] : List (Str × Value)).length } →
   codeAny (model X.prog X.w) X.A (.compLoop (.ListComp elt [⟨.Name x px, iter, ifs, 0⟩] sc pos) 0 (.ref it) (.ref s.heap.objs.size) (compEnvC sc (z1j X.env sc.names []) H2.objs.size X.env))
    (RR (.ref s.heap.objs.size) H2.objs.size) s₃ := by
  rintro s₃ rfl
  have I0 : Inv (z16 X sc (x :: cap) s H H2.objs.size fp) [] (none :: capt σ js) H { s with heap := h₁, toks := s.toks + ([] : List (Str × Value)).length } := z92 (v := none) S I hfp hlt hCle hns₁ old (s4 := s)
  refine z7t (fun n s' => ∃ i H' acc its k, Inv (z16 X sc (x :: cap) s H H2.objs.size fp) [] (none :: capt σ js) H' s' ∧ tn i s'.heap ∧ (∀ b ∈ fp, H' b = none) ∧ H' s.heap.objs.size = none ∧
    s'.heap.get? s.heap.objs.size = some { cls := .type "list", data := .seq (its : List Value).toArray k } ∧ Vals acc its ∧ acc.length ≤ sizeLine ∧ W i n acc H') ?_ m0
   ⟨0, H, [], [], 0, I0, T.keep _ _ _ st fun b _ o e => old b o e, fun b hb => (hfp b hb).1, I.hok.fresh (Nat.le_refl _), hacc, .nil, Nat.zero_le _, w0⟩
  rintro n s3 ⟨i, H3, acc, its, kk, I3, st3, fr3, fD3, d3, r3, z3, w3⟩
  have fpY : ∀ {H' : Hp} {pl : List (Addr × Obj)}, (∀ b ∈ fp, H' b = none) → (∀ p ∈ pl, p.1 = s.heap.objs.size) → ∀ b ∈ fp, FpOk (z16 X sc (x :: cap) s H H2.objs.size fp) pl H' b := fun {H' pl} hn hp b hb =>
   ⟨hn b hb, below b (hlt b hb), fun z => by
    rcases List.mem_cons.mp (I.stkSub b z) with q | q
    ·exact (hfp b hb).2.1 q
    ·exact (hfp b hb).2.2.1 q, .inl hb, fun y c e => (hfp b hb).2.2.2.2.1 y c (S.sub I e), fun p hp' => by
    rw [hp p hp']
    exact Ne.symm (nD b hb)⟩
  have pin3 : Inv (z16 X sc (x :: cap) s H H2.objs.size fp) [(s.heap.objs.size, { cls := .type "list", data := .seq its.toArray kk })] (none :: capt σ js) H3 s3 := I3.pins_of fun p hp => by
   have e : p = (s.heap.objs.size, { cls := .type "list", data := .seq its.toArray kk }) := by simpa using hp
   subst e
   exact ⟨d3, fD3, hDC, nfs, fun v z => by cases z⟩
  have onlyD : ∀ p ∈ [(s.heap.objs.size, ({ cls := .type "list", data := .seq its.toArray kk } : Obj))], p.1 = s.heap.objs.size := fun p hp => by
   have e : p = (s.heap.objs.size, { cls := .type "list", data := .seq its.toArray kk }) := by simpa using hp
   rw [e]
  rcases turn i n acc H3 w3 with ⟨stop, qn⟩ | ⟨gon, hlen, step⟩
  ·refine wpAny_mono (T.done (z16 X sc (x :: cap) s H H2.objs.size fp) rfl rfl rfl hcalm i _ s3 _ H3 (fun _ _ => False) pin3 (fpY fr3 onlyD) st3 stop) (fun r s4 hr => ?_) fun _ _ z => z.elim
   obtain ⟨hr, I4⟩ := hr
   subst hr
   have d4 := (I4.pin _ (List.mem_append_right _ List.mem_cons_self)).1
   exact hRR _ _ H3 s4 _ acc its kk (Nat.le_refl _) hCle hDC (I4.pins_of fun p hp => by simp at hp) fD3 d4 r3 z3 qn
  ·refine wpAny_mono (T.item (z16 X sc (x :: cap) s H H2.objs.size fp) rfl rfl rfl hcalm i _ s3 _ H3 (fun _ _ => False) pin3 (fpY fr3 onlyD) st3 gon) (fun r s4 hr => ?_) fun _ _ z => z.elim
   obtain ⟨u, hr, h4⟩ := hr
   subst hr
   dsimp only
   refine wpAny_mono h4 (fun _ s5 h5 => ?_) fun _ _ z => z.elim
   obtain ⟨xv, H5, I5, r5, y5, st5, fr5⟩ := h5
   have I5' := I5.pinned (fpY fr5 onlyD) (T.obj _ _ st5)
   refine wpAny_assign_Name (z4y (X := z16 X sc (x :: cap) s H H2.objs.size fp) I5' S.nd (i := 0) rfl (.inl hlocal) r5 (fun s6 I6 => ?_) (.inr hlocal))
   have I6' : Inv (z16 X sc (x :: cap) s H H2.objs.size fp) ([(s.heap.objs.size, { cls := .type "list", data := .seq its.toArray kk })] ++ z3h fp s5.heap) (some xv :: capt σ js) H5 s6 := I6
   refine wpAny_mono (hc s H H2.objs.size fp _ s6 _ H5 _ I6' (step xv H5 y5)) (fun b s7 q7 => ?_) fun _ _ z => z.elim
   obtain ⟨H7, I7, q7⟩ := q7
   have weak : ∀ {pl : List (Addr × Obj)} {HH : Hp} {ss : Shared}, Inv (z16 X sc (x :: cap) s H H2.objs.size fp) pl (some xv :: capt σ js) HH ss → Inv (z16 X sc (x :: cap) s H H2.objs.size fp) pl (none :: capt σ js) HH ss := fun J => J.weak rfl fun k v e => by
    cases k with
    | zero => exact absurd (Option.some.inj e) (by simp)
    | succ k => simpa using e
   have back : ∀ {HH : Hp} {ss : Shared}, Inv (z16 X sc (x :: cap) s H H2.objs.size fp) ([(s.heap.objs.size, { cls := .type "list", data := .seq its.toArray kk })] ++ z3h fp s5.heap) (some xv :: capt σ js) HH ss →
     tn (i + 1) ss.heap ∧ (∀ b ∈ fp, HH b = none) ∧ HH s.heap.objs.size = none ∧ ss.heap.get? s.heap.objs.size = some { cls := .type "list", data := .seq its.toArray kk } := fun {HH ss} K => by
    refine ⟨T.keep _ _ _ st5 fun b hb o e => (K.pin (b, o) (List.mem_append_right _ (List.mem_append_right _ (z2s hb e)))).1, fun b hb => ?_, ?_, ?_⟩
    ·obtain ⟨o, e, d⟩ := T.obj _ _ st5 b hb
     exact (K.pin (b, o) (List.mem_append_right _ (List.mem_append_right _ (z2s hb e)))).2.1
    ·exact (K.pin _ (List.mem_append_right _ (List.mem_append_left _ List.mem_cons_self))).2.1
    ·exact (K.pin _ (List.mem_append_right _ (List.mem_append_left _ List.mem_cons_self))).1
   cases b with
   | false =>
    rw [if_neg Bool.false_ne_true] at q7 ⊢
    obtain ⟨m', hm, w7⟩ := q7
    obtain ⟨b1, b2, b3, b4⟩ := back I7
    exact ⟨m', hm, i + 1, H7, acc, its, kk, (weak I7).pins_of fun p hp => by simp at hp, b1, b2, b3, b4, r3, z3, w7⟩
   | true =>
    rw [if_pos rfl] at q7 ⊢
    refine wpAny_mono (he s H H2.objs.size fp _ s7 _ H7 _ I7 q7) (fun u8 s8 q8 => ?_) fun _ _ z => z.elim
    obtain ⟨v8, H8, I8, r8, m', hm, w8⟩ := q8
    obtain ⟨b1, b2, b3, b4⟩ := back I8
    have hl3 := r3.length
    refine call_meets F.slot_list_append ⟨_, b4, rfl⟩ F.entry_list_append (F.args_list_append_2 _ _) (PySem.list_append s.heap.objs.size its.toArray kk u8 (by rw [List.size_toArray]; omega)) ⟨b4, ?_⟩
    have q := PySem.IsL.update b4 (·.push u8)
    obtain ⟨n', q'⟩ : ∃ n', (s8.heap.update s.heap.objs.size (Obj.mapSeq (·.push u8))).get? s.heap.objs.size = some { cls := .type "list", data := .seq (its ++ [u8]).toArray n' } := by
     rw [show (its ++ [u8]).toArray = its.toArray.push u8 by simp]
     exact ⟨_, q⟩
    refine ⟨m', hm, i + 1, H8, acc ++ [v8], its ++ [u8], _, ?_, T.keep _ _ _ b1 fun b hb o e => (Heap.get?_update_other s8.heap _ (Ne.symm (nD b hb))).trans e, b2, b3, q', r3.append (.cons r8 .nil), by rw [List.length_append, List.length_singleton]; omega, w8⟩
    exact Inv.turned (X := z16 X sc (x :: cap) s H H2.objs.size fp) (it := s.heap.objs.size) ((weak I8).pins_of (pins' := []) fun p hp => by simp at hp) (fun b o hb e => (Heap.get?_update_other s8.heap _ (Ne.symm hb)).trans e) b3 hDC (.inr (Nat.le_refl _)) ncl (fun p hp => absurd (show p ∈ ([] : List (Addr × Obj)) from hp) (by simp))
 exact codeAny_compStart_list (loop _ rfl) (T.self _ 0 _ _ _ (T.keep _ _ _ st fun b _ o e => old b o e) (loop _ rfl))
theorem z3k {wi : TI} (hcalm : X.calm = true) (S : CompScope X sc x cap js) (hi : PI X (.Name x px) iter wi) (hc : ∀ s H C fp, PIf (z16 X sc (x :: cap) s H C fp) ifs tc) (he : ∀ s H C fp, PE (z16 X sc (x :: cap) s H C fp) elt te)
  (hs : ∀ x, foldedSetIterable iter X.env x = pure x := by intro _; rfl) : PE X (.ListComp elt [⟨.Name x px, iter, ifs, 0⟩] sc pos) (z93 wi tc te js) := by
 intro pins s σ H Q I h
 rw [eval_ListComp]
 refine wpAny_comprehension_free (use := none) rfl hs (z5a (S.cells I)) S.kind S.names (thn (hi pins s σ H _ I h) fun v s1 h1 => thn h1 fun itv s2 h2 => ?_)
 obtain ⟨it, fp, tn, J, H2, e, I2, T, st2, f2, go⟩ := h2
 subst e
 refine z5b S hcalm hc he I2 T st2 f2 go fun D C HB sB σB acc its n hD hC hDC IB hHD hd rv hz q => ?_
 obtain ⟨m, hn, _⟩ := IB.loc
 exact ⟨m, hn, fun h' sb => ⟨.ref D, upd HB D (.lst acc), z72 (sc := sc) (x := x) (cap := cap) I2 f2 IB hC hD hDC hHD hd rv hz fun b o hb e => sb.extBut b o hb e, rfl, q D hHD⟩⟩
theorem z5c {wi : TI} {i : Nat} {y : Str} {py spos : Pos} (hcalm : X.calm = true) (S : CompScope X sc x cap js) (hN : X.N.Nodup) (hi' : X.N[i]? = some y) (hx : Loc X.env.scope y) (hi : PI X (.Name x px) iter wi) (hc : ∀ s H C fp, PIf (z16 X sc (x :: cap) s H C fp) ifs tc) (he : ∀ s H C fp, PE (z16 X sc (x :: cap) s H C fp) elt te)
  (hsw : swapsWith (.ListComp elt [⟨.Name x px, iter, ifs, 0⟩] sc pos) (some (.Name y py)) spos.line X.env = pure true := by rfl) (hs : ∀ x, foldedSetIterable iter X.env x = pure x := by intro _; rfl)
  (hf : X.fn y = true ∨ X.env.scope.names.lookup y = some .local := by first | exact .inl rfl | exact .inr rfl | assumption) : PS X (.Assign [.Name y py] (.ListComp elt [⟨.Name x px, iter, ifs, 0⟩] sc pos) spos) (tAsg (z93 wi tc te js) (z1r i)) := by
 intro pins s σ H D I h
 rw [exec_Assign_Name_used _ _ _ _ hsw]
 refine wpAny_bind (wpAny_standAt (wpAny_bind ?_))
 show wpAny _ X.A (do let _ ← comprehension (.ListComp elt [⟨.Name x px, iter, ifs, 0⟩] sc pos) sc X.env _ (newList []) false (eval iter X.env) (some (assign (.Name y py) X.env))) _ _ s
 refine wpAny_bind (wpAny_mono (wpAny_comprehension_free (use := some (assign (.Name y py) X.env)) (Q := fun _ s' => SP X pins D .next s') rfl hs (z5a (S.cells I)) S.kind S.names (thn (hi pins s σ H _ I h) fun v s1 h1 => thn h1 fun itv s2 h2 => ?_)) (fun _ s' hq => wpAny_pure (wpAny_pure hq)) fun _ _ e => e)
 obtain ⟨it, fp, tn, J, H2, e, I2, T, st2, f2, go⟩ := h2
 subst e
 refine z5b S hcalm hc he I2 T st2 f2 go fun D' C HB sB σB acc its n hD hC hDC IB hHD hd rv hz q => ?_
 obtain ⟨m, hn, _⟩ := IB.loc
 have IE : Inv X pins σ (upd HB D' (.lst acc)) sB := z72 (hB := sB.heap) (sc := sc) (x := x) (cap := cap) I2 f2 IB hC hD hDC hHD hd rv hz fun b o hb e => e
 refine wpAny_assign_Name (z62 IE hN hi' hx (v := .ref D') rfl (fun s3 I3 hsb => ?_) hf)
 obtain ⟨a, sba, ha⟩ := hsb
 have aC : C ≠ a := by
  rcases ha with z | z
  ·rw [z]; exact Nat.ne_of_gt (Nat.lt_of_lt_of_le I2.lt hC)
  ·obtain ⟨v, o, ho, _⟩ := I2.cell y a z
   exact Nat.ne_of_gt (Nat.lt_of_lt_of_le (Heap.lt_size ho) hC)
 refine ⟨m, hn.sameBut sba aC, fun h' sb => ?_⟩
 refine ⟨σ.set i (some (.ref D')), upd HB D' (.lst acc), I3.turned (it := C) (t' := s3.toks) (fun b o hb e => sb.extBut b o hb e) (by rw [zc (Ne.symm hDC)]; exact IB.free) (Nat.ne_of_gt (Nat.lt_of_lt_of_le I2.lt hC)) (.inr (Nat.le_trans I2.sz hC)) (fun y' c e => ?_) (fun p hp => ?_), q D' hHD⟩
 ·obtain ⟨v, o, ho, _⟩ := I2.cell y' c e
  exact Nat.ne_of_lt (Nat.lt_of_lt_of_le (Heap.lt_size ho) hC)
 ·exact Nat.ne_of_lt (Nat.lt_of_lt_of_le (Heap.lt_size (I2.pin p hp).1) hC)
end
end L2
end
section
namespace L2
open PySem PySem.Spec PyProof.Rows
section
variable {X : Cx}
theorem zc4 : SlR X (fun x lo hi H Q => ∃ z, x = .str z ∧ z.length ≤ sizeLine ∧ Q (.str (Txt.slice z lo hi)) H) := by
 intro pins s σ H x v vl vu lo hi sl Q I rx hs pl pu h
 obtain ⟨z, rfl, hz, q⟩ := h
 obtain ⟨t, rfl⟩ := rx
 refine ⟨"str", _, F.slot_str_getitem.lookup, typeIs_str _ _ _, ?_⟩
 have fin : ∀ t' k, EP X pins σ Q (.str (Txt.slice z lo hi) t') { s with toks := k } := fun t' k => ⟨.str _, H, I.tok _, ⟨_, rfl⟩, q⟩
 obtain ⟨o, h1, h2, h3⟩ := hs
 cases pl with
 | none =>
  cases pu with
  | none => exact wpAny_getItem_str_slice (l := none) (u := none) (st := none) ⟨o, h1, h2, h3⟩ rfl (post_val_or_str ⟨Nat.le_trans (Txt.slice_le z none none) hz, fin⟩)
  | int j u => exact wpAny_getItem_str_slice (l := none) (u := some (j, u)) (st := none) ⟨o, h1, h2, h3⟩ rfl (post_val_or_str ⟨Nat.le_trans (Txt.slice_le z none (some j)) hz, fin⟩)
 | int i u' =>
  cases pu with
  | none => exact wpAny_getItem_str_slice (l := some (i, u')) (u := none) (st := none) ⟨o, h1, h2, h3⟩ rfl (post_val_or_str ⟨Nat.le_trans (Txt.slice_le z (some i) none) hz, fin⟩)
  | int j u => exact wpAny_getItem_str_slice (l := some (i, u')) (u := some (j, u)) (st := none) ⟨o, h1, h2, h3⟩ rfl (post_val_or_str ⟨Nat.le_trans (Txt.slice_le z (some i) (some j)) hz, fin⟩)
theorem z69 : ∀ bs : List Bool, (List.range bs.length).all (fun j => bs.getD j true) = bs.all id
 | [] => rfl
 | b :: bs => by
  show (List.range (bs.length + 1)).all _ = _
  rw [List.range_succ_eq_map, List.all_cons, List.all_map, List.all_cons]
  show (b && (List.range bs.length).all fun j => bs.getD j true) = _
  rw [z69 bs]
  rfl
theorem z39 (hc : X.calm = true) : CallR X (.builtin "all") (fun xs H Q => ∃ p bs, xs = [.ref p] ∧ SqL X.K H p ((bs : List Bool).map V.bl) ∧ Q (.bl (bs.all id)) H) := by
  intro pins s σ H xs us Q I r h
  obtain ⟨p, bs, rfl, hp, q⟩ := h
  obtain ⟨u, rfl, ru⟩ := z4b r
  cases ru
  obtain ⟨its, r1, p1, _⟩ := I.list hp
  have hl := r1.length
  rw [List.length_map] at hl
  refine call_all_walk (wpAny_pyIter_list p1.isList ?_)
  obtain ⟨ol, n, hol, hcl, hdl, hsl⟩ := id p1
  have hne : p ≠ s.heap.objs.size := Nat.ne_of_lt (Heap.lt_size hol)
  refine ⟨s.heap.objs.size, [s.heap.objs.size, p], [s.heap.objs.size], its.toArray.size, _, _, fun j => bs.getD j true, rfl, Walks.list (by exact I.ok.hd hc) s.heap.objs.size p hne its.toArray,
    ⟨⟨_, Heap.get?_push_size _ rfl, rfl, rfl⟩, ⟨ol, Heap.get?_push_of_some _ hol, hcl, n, hsl⟩⟩, ?_, fun h' tk k => ?_⟩
  · intro j v s' Q' E' hv hq
    have hv : its.toArray[j]? = some v := hv
    have e0 : its[j]? = some v := by simpa using hv
    have hj : j < its.length := (List.getElem?_eq_some_iff.mp e0).1
    have e1 : (bs.map V.bl)[j]? = some (V.bl (bs.getD j true)) := by
      rw [List.getElem?_map, List.getD_eq_getElem?_getD, List.getElem?_eq_getElem (by omega)]
      rfl
    obtain ⟨w, q1, rw'⟩ := r1.get e1
    rw [e0] at q1
    cases q1
    cases rw'
    exact wpAny_truthy_bool hq
  · have e : (List.range its.toArray.size).all (fun j => bs.getD j true) = bs.all id := by
      rw [List.size_toArray, ← hl]
      exact z69 bs
    rw [e]
    have I2 : Inv X pins σ H { s with heap := h', toks := tk } := by
     refine I.kept (t' := tk) (h' := h') fun b o e => k b o ?_ (Heap.get?_push_of_some _ e)
     intro z
     have : b = s.heap.objs.size := by simpa using z
     exact absurd (Heap.lt_size e) (by rw [this]; exact Nat.lt_irrefl _)
    exact ⟨.bl _, H, I2, rfl, q⟩
theorem zu : CallR X (.builtin "isinstance") (fun xs H Q => ∃ x c t b, xs = [x, .ty c] ∧ TyOf X.K H x t ∧ PySem.W.kitOne X.K t (.type c) = some b ∧ Q (.bl b) H) := by
 intro pins s σ H xs us Q I r h
 obtain ⟨x, c, t, b, rfl, ty, e, q⟩ := h
 obtain ⟨u, w', rfl, r1, r2⟩ := z8x r
 cases r2
 exact z9x I r1 ty e fun tk => ⟨.bl b, H, I.tok _, rfl, q⟩
end
theorem z1y (K : PySem.W.Frag) : PySem.W.kitOne K (.type "bool") (.type "bool") = some true := by with_unfolding_all rfl
theorem z27 (K : PySem.W.Frag) : PySem.W.kitOne K (.type "int") (.type "bool") = some false := by with_unfolding_all rfl
end L2
end
section
namespace L2
open PySem PySem.Spec PyProof.Rows
def Def (K : PySem.W.Frag) (mg : Str → Option Value) (x : Str) (st : Stmt) (ps : List Str) : Prop := ∃ f fd, Fun K x x st f fd ∧ mg x = some (.ref f) ∧ Binds K fd ps []
def Has (P : Program) (w : World) (K : PySem.W.Frag) (mg : Str → Option Value) (base : Heap) (k : Nat) (x : Str) (ps : List Str) (sp : Sp) : Prop :=
 ∃ f fd, FnOk P w K mg base CX0 k f fd ps sp ∧ mg x = some (.ref f) ∧ PySem.W.keepIn K (.ref f) = true ∧ Binds K fd ps [] ∧ ∃ oc od osl, K.lookup f = some ⟨oc, od, .func fd, osl⟩
theorem Def.ok {P : Program} {w : World} {K : PySem.W.Frag} {mg : Str → Option Value} {base : Heap} {x : Str} {st : Stmt} {N ps : List Str} {k : Nat} {sp : Sp} (D : Def K mg x st ps) (S : FnScope N ps (zh st)) (len : ∀ vs H Q E, sp vs H Q E → vs.length = ps.length)
  (hbody : ∀ (f : Addr) (cdv : Value) (A : Around) (outer : List Env) (s : Shared) (H : Hp) (vs : List V) (Q : VK) (E : XK), Room k (A.deeper (envOfC x (zh st) s.heap.objs.size f cdv)) → sp vs H Q E →
   ∃ t, PSs (cxOf CX0 P w K mg base N x (zh st) f cdv A outer s H E).nox (z1d st) t ∧ t { nx := fun _ H' => Q .non H', rt := Q } (start N vs) H) : Has P w K mg base (k + 1) x ps sp := by
 obtain ⟨f, fd, F, hm, hb⟩ := D
 exact ⟨f, fd, F.ok S len (fun cdv A outer s H vs Q E hr h => hbody f cdv A outer s H vs Q E hr h), hm, F.kp, hb, by
  obtain ⟨oc, od, kV, doc, pm, an, cdv, ct, osl, rfl, lk, hcd⟩ := F.ex
  exact ⟨oc, od, osl, lk⟩⟩
section
variable {X : Cx} {k : Nat} {x : Str} {ps : List Str} {sp : Sp} {e : Expr} {es : List Expr} {t : TA} {p pos : Pos}
theorem z1f (G : Has X.prog X.w X.K X.mg X.base k x ps sp) (hr : Room k X.A) (hg : Gl X x) (ha : PA X (e :: es) t) (hdb : (x == ("__debug__" : Str)) = false := by decide) (he : starEach (e :: es) X.env = (false, eval e X.env) :: starEach es X.env := by rfl) (hpl : (backTo pos (starEach es X.env)).any (·.1) = false := by rfl) :
  PE X (.Call (.Name x p) (e :: es) [] pos) (z57 sp [] E0 t) := by
 obtain ⟨f, fd, F, hm, hk, hb, _⟩ := G
 exact zbg F hr hg hm hk hb .nil zcb ha hdb he hpl
end
def zcc (H : Hp) (Q : VK) (v : V) : Prop := ∀ H', Same H H' → Q v H'
end L2
namespace L2
open PySem PySem.Spec PyProof.Rows
theorem Has.at {P : Program} {w : World} {K : PySem.W.Frag} {mg : Str → Option Value} {base : Heap} {k : Nat} {x : Str} {ps : List Str} {sp : Sp} {st : Stmt} {f : Addr} {fd : FuncData} (G : Has P w K mg base k x ps sp) (hm : mg x = some (.ref f)) (F : Fun K x x st f fd) : FnOk P w K mg base CX0 k f fd ps sp := by
 obtain ⟨f', fd', FO, hm', hk, hb, oc', od', osl', lk'⟩ := G
 have e := hm'.symm.trans hm
 cases e
 obtain ⟨oc, od, kV, doc, pm, an, cdv, ct, osl, rfl, lk, hcd⟩ := F.ex
 rw [lk] at lk'
 have e2 := Option.some.inj lk'
 injection e2 with _ _ e3 _
 injection e3 with e4
 rw [e4]
 exact FO
end L2
namespace L2
open PySem PySem.Spec PyProof.Rows
theorem ze {n : Nat} (h : n ≤ 1000000) : n ≤ sizeLine := by rw [sizeLine_eq]; omega
theorem Same.upd {H : Hp} {p : Addr} {o : HO} (h : H p = none) : Same H (upd H p o) := fun b u e => by
 rw [zc (zf e h)]
 exact e
end L2
namespace L2
open PySem PySem.Spec PyProof.Rows
def z6u (J : It) (g : TG) (tb : TS) (D : Ends) (σ : St) (H : Hp) : Prop := ∃ W : Nat → Nat → St → Hp → Prop, (∃ m, W 0 m σ H) ∧ ∀ i m σ H, W i m σ H →
 (J.stop i H ∧ D.nx σ H) ∨ (J.go i H ∧ ∃ N : St → Hp → Prop, (∀ σ' H', N σ' H' → ∃ m', m' < m ∧ W (i + 1) m' σ' H') ∧ ∀ x H', J.yld i H x H' → g x σ H' fun σ2 H2 => tb { D with nx := N, ct := N, bk := D.nx } σ2 H2)
theorem z73 (wi : TI) (g : TG) (tb : TS) (D : Ends) (σ : St) (H : Hp) : tFor wi g tb D σ H = wi σ H fun J H1 => z6u J g tb D σ H1 := rfl
theorem z6a (ta : TA) (σ : St) (H : Hp) (R : It → Hp → Prop) : z8w ta σ H R = ta σ H fun vs H1 => ∃ j : Int, vs = [.int j] ∧ (-(2 ^ 62) ≤ j ∧ j < 2 ^ 62) ∧ R (Itr 0 j.toNat) H1 := by
 unfold z8w
 simp only [and_assoc]
theorem z6b (ta : TA) (σ : St) (H : Hp) (R : It → Hp → Prop) : zb6 ta σ H R = ta σ H fun vs H1 => ∃ i j : Int, vs = [.int i, .int j] ∧ (-(2 ^ 62) ≤ i ∧ i < 2 ^ 62 ∧ -(2 ^ 62) ≤ j ∧ j < 2 ^ 62) ∧ R (Itr i (j - i).toNat) H1 := rfl
theorem z2l {lo : Int} {n : Nat} {g : TG} {tb : TS} {D : Ends} {σ : St} {H : Hp} (sp : Nat → St → Hp → Prop) (h0 : sp 0 σ H)
  (hs : ∀ (Pv : Nat → St → Hp → Prop), (∀ i σ H, sp i σ H → Pv i σ H) → ∀ i σ H, i < n → sp i σ H → g (.int (lo + i)) σ H fun σ2 H2 => tb { D with nx := Pv (i + 1), ct := Pv (i + 1), bk := D.nx } σ2 H2) (hd : ∀ σ H, sp n σ H → D.nx σ H) : z6u (Itr lo n) g tb D σ H :=
 z9t sp h0 (hs sp fun _ _ _ h => h) hd
theorem z5d {K : PySem.W.Frag} {a : Addr} {xs : List V} {g : TG} {tb : TS} {D : Ends} {σ : St} {H : Hp} (sp : Nat → St → Hp → Prop) (h0 : sp 0 σ H) (hl : ∀ i σ H, i ≤ xs.length → sp i σ H → SqL K H a xs)
  (hs : ∀ (Pv : Nat → St → Hp → Prop), (∀ i σ H, sp i σ H → Pv i σ H) → ∀ i x σ H, xs[i]? = some x → sp i σ H → g x σ H fun σ2 H2 => tb { D with nx := Pv (i + 1), ct := Pv (i + 1), bk := D.nx } σ2 H2) (hd : ∀ σ H, sp xs.length σ H → D.nx σ H) : z6u (Itl K a) g tb D σ H :=
 zah sp h0 hl (hs sp fun _ _ _ h => h) hd
theorem z6c (wi : TI) (tc : TT) (te : TE) (js : List Nat) (σ : St) (H : Hp) (Q : VK) : z93 wi tc te js σ H Q = wi σ H fun J H1 => z26 J tc te js σ H1 Q := rfl
def Nx (n : Nat) (Pv : Nat → List V → Hp → Prop) (i : Nat) (acc : List V) (H : Hp) : Prop := ∃ m', m' < n - i ∧ m' = n - (i + 1) ∧ i + 1 ≤ n ∧ Pv (i + 1) acc H
theorem nx {n : Nat} {Pv : Nat → List V → Hp → Prop} {i : Nat} {acc : List V} {H : Hp} (hi : i < n) (h : Pv (i + 1) acc H) : Nx n Pv i acc H := ⟨n - (i + 1), by omega, rfl, hi, h⟩
theorem z5e {J : It} {tc : TT} {te : TE} {js : List Nat} {σ : St} {H1 : Hp} {Q : VK} (n : Nat) (hn : n ≤ sizeLine) (Pv : Nat → List V → Hp → Prop) (h0 : Pv 0 [] H1) (hlen : ∀ i acc H, Pv i acc H → acc.length ≤ i)
  (hgo : ∀ i acc H, i < n → Pv i acc H → J.go i H) (hstop : ∀ acc H, Pv n acc H → J.stop n H)
  (hs : ∀ i acc H x H', i < n → Pv i acc H → J.yld i H x H' → tc (some x :: capt σ js) H' fun b H2 => if b = true then te (some x :: capt σ js) H2 fun v H3 => Nx n Pv i (acc ++ [v]) H3 else Nx n Pv i acc H2)
  (hd : ∀ acc H, Pv n acc H → ∀ p, H p = none → Q (.ref p) (upd H p (.lst acc))) : z26 J tc te js σ H1 Q := by
 refine ⟨fun i m acc H => m = n - i ∧ i ≤ n ∧ Pv i acc H, ⟨n, by simp, Nat.zero_le _, h0⟩, ?_⟩
 rintro i m acc H ⟨rfl, hi, p⟩
 by_cases hlt : i < n
 ·exact .inr ⟨hgo i acc H hlt p, by have := hlen i acc H p; omega, fun x H' y => hs i acc H x H' hlt p y⟩
 ·have e : i = n := by omega
  subst e
  exact .inl ⟨hstop acc H p, hd acc H p⟩
theorem z6i {lo : Int} {n : Nat} {tc : TT} {te : TE} {js : List Nat} {σ : St} {H1 : Hp} {Q : VK} (hn : n ≤ sizeLine) (Pv : Nat → List V → Hp → Prop) (h0 : Pv 0 [] H1) (hlen : ∀ i acc H, Pv i acc H → acc.length ≤ i)
  (hs : ∀ i acc H, i < n → Pv i acc H → tc (some (.int (lo + i)) :: capt σ js) H fun b H2 => if b = true then te (some (.int (lo + i)) :: capt σ js) H2 fun v H3 => Nx n Pv i (acc ++ [v]) H3 else Nx n Pv i acc H2)
  (hd : ∀ acc H, Pv n acc H → ∀ p, H p = none → Q (.ref p) (upd H p (.lst acc))) : z26 (Itr lo n) tc te js σ H1 Q := by
 refine z5e n hn Pv h0 hlen (fun i acc H hi p => hi) (fun acc H p => Nat.le_refl _) (fun i acc H x H' hi p y => ?_) hd
 obtain ⟨e, y⟩ := y
 subst e y
 exact hs i acc H' hi p
theorem z74 {K : PySem.W.Frag} {a : Addr} {xs : List V} {tc : TT} {te : TE} {js : List Nat} {σ : St} {H1 : Hp} {Q : VK} (hn : xs.length ≤ sizeLine) (Pv : Nat → List V → Hp → Prop) (h0 : Pv 0 [] H1) (hlen : ∀ i acc H, Pv i acc H → acc.length ≤ i) (hl : ∀ i acc H, Pv i acc H → SqL K H a xs)
  (hs : ∀ i acc H x, xs[i]? = some x → i < xs.length → Pv i acc H → tc (some x :: capt σ js) H fun b H2 => if b = true then te (some x :: capt σ js) H2 fun v H3 => Nx xs.length Pv i (acc ++ [v]) H3 else Nx xs.length Pv i acc H2)
  (hd : ∀ acc H, Pv xs.length acc H → ∀ p, H p = none → Q (.ref p) (upd H p (.lst acc))) : z26 (Itl K a) tc te js σ H1 Q := by
 refine z5e xs.length hn Pv h0 hlen (fun i acc H hi p => ⟨xs, xs[i], hl i acc H p, by simp [hi]⟩) (fun acc H p => ⟨xs, hl _ acc H p, Nat.le_refl _⟩) (fun i acc H x H' hi p y => ?_) hd
 obtain ⟨e, y⟩ := y
 subst e
 exact hs i acc H' x (y xs (hl i acc H' p)) hi p
theorem z2z {lo : Int} {n : Nat} {tc : TT} {te : TE} {js : List Nat} {σ : St} {H1 : Hp} {Q : VK} (hn : n ≤ sizeLine) (sp : Nat → List V → Hp → Prop) (h0 : sp 0 [] H1) (hlen : ∀ i acc H, sp i acc H → acc.length ≤ i)
  (hs : ∀ (Nt : List V → Hp → Prop) i acc H, (∀ acc H, sp (i + 1) acc H → Nt acc H) → i < n → sp i acc H → tc (some (.int (lo + i)) :: capt σ js) H fun b H2 => if b = true then te (some (.int (lo + i)) :: capt σ js) H2 fun v H3 => Nt (acc ++ [v]) H3 else Nt acc H2)
  (hd : ∀ acc H, sp n acc H → ∀ p, H p = none → Q (.ref p) (upd H p (.lst acc))) : z26 (Itr lo n) tc te js σ H1 Q :=
 z6i hn sp h0 hlen (fun i acc H hi p => hs (Nx n sp i) i acc H (fun _ _ h => nx hi h) hi p) hd
theorem z3a {K : PySem.W.Frag} {a : Addr} {xs : List V} {tc : TT} {te : TE} {js : List Nat} {σ : St} {H1 : Hp} {Q : VK} (hn : xs.length ≤ sizeLine) (sp : Nat → List V → Hp → Prop) (h0 : sp 0 [] H1) (hlen : ∀ i acc H, sp i acc H → acc.length ≤ i) (hl : ∀ i acc H, sp i acc H → SqL K H a xs)
  (hs : ∀ (Nt : List V → Hp → Prop) i acc H x, (∀ acc H, sp (i + 1) acc H → Nt acc H) → xs[i]? = some x → i < xs.length → sp i acc H → tc (some x :: capt σ js) H fun b H2 => if b = true then te (some x :: capt σ js) H2 fun v H3 => Nt (acc ++ [v]) H3 else Nt acc H2)
  (hd : ∀ acc H, sp xs.length acc H → ∀ p, H p = none → Q (.ref p) (upd H p (.lst acc))) : z26 (Itl K a) tc te js σ H1 Q :=
 z74 hn sp h0 hlen hl (fun i acc H x hx hi p => hs (Nx xs.length sp i) i acc H x (fun _ _ h => nx hi h) hx hi p) hd
end L2
namespace L2
open PySem PySem.Spec PyProof.Rows
def tCut (t u : TS) : TS := fun D σ H => ∃ Mid : St → Hp → Prop, t { D with nx := Mid } σ H ∧ ∀ σ H, Mid σ H → u D σ H
theorem z2b {X : Cx} {st : Stmt} {rest : List Stmt} {t u : TS} (h1 : PS X st t) (h2 : PSs X rest u) : PSs X (st :: rest) (tCut t u) := by
 intro pins s σ H D I ⟨Mid, h, hm⟩
 refine wpAny_execs_cons (thn (h1 pins s σ H { D with nx := Mid } I h) fun f s1 q => ?_)
 cases f with
 | next =>
  obtain ⟨σ', H', I', q⟩ := q
  exact h2 pins s1 σ' H' D I' (hm σ' H' q)
 | ret v => exact q
 | brk => exact q
 | cont => exact q
theorem z3p {t u : TS} {D : Ends} {σ : St} {H : Hp} (sp : St → Hp → Prop) (h1 : ∀ Mid : St → Hp → Prop, (∀ σ H, sp σ H → Mid σ H) → t { D with nx := Mid } σ H) (h2 : ∀ σ H, sp σ H → u D σ H) : tCut t u D σ H := ⟨sp, h1 sp fun _ _ h => h, h2⟩
theorem cdiv {i j : Int} (h1 : 0 < j) (h2 : j < 1073741824) : CDiv i j := ⟨h1, h2⟩
end L2
namespace L2
open PySem PySem.Spec PyProof.Rows
def zc5 (dn cn : List (Str × NameKind)) : Bool := cn.all fun y => (y.2 != .free) || (dn.lookup y.1 == some .cell) || (dn.lookup y.1 == some .free)
theorem z1l {X : Cx} {sc : Scope} (h : zc5 X.env.scope.names sc.names = true) : ∀ y ∈ sc.names, y.2 = .free → X.env.kindOf y.1 = some .cell ∨ X.env.kindOf y.1 = some .free := by
 intro y hy hf
 have := List.all_eq_true.mp h y hy
 rw [hf] at this
 simp at this
 exact this
end L2
end
section
namespace L2
open PySem PySem.Spec PyProof.Rows
theorem ObjOk.here {P : Program} {w : World} {H : Hp} {h : Heap} {a : Addr} {o : HO} (x : ObjOk P w H h a o) : ∃ ob, h.get? a = some ob := by
 cases o with
 | lst xs => obtain ⟨_, _, _, _, e⟩ := x; exact ⟨_, e⟩
 | tup xs => obtain ⟨_, _, _, ob, e, _⟩ := x; exact ⟨_, e⟩
 | dK kvs => obtain ⟨_, _, _, _, ob, _, _, e, _⟩ := x; exact ⟨_, e⟩
 | dT kvs => obtain ⟨_, _, _, _, ob, _, _, e, _⟩ := x; exact ⟨_, e⟩
 | set S n => obtain ⟨ob, _, _, _, e, _⟩ := x; exact ⟨_, e⟩
 | ins C dx fs => obtain ⟨_, _, _, e, _⟩ := x; exact ⟨_, e⟩
 | own y => obtain ⟨ob, e⟩ := x; exact ⟨_, e⟩
 | xd fs => obtain ⟨_, ⟨ob, _, _, e, _⟩, _⟩ := x; exact ⟨_, e⟩
 | rng lo hi => obtain ⟨_, _, _, e⟩ := x; exact ⟨_, e⟩
 | frz ob u => obtain ⟨e, _⟩ := x; exact ⟨_, e⟩
 | tbl ps => exact ⟨_, (show h.get? a = some _ from x)⟩
 | met f y => exact ⟨_, (show h.get? a = some _ from x)⟩
 | ext φ => obtain ⟨_, ⟨ob, e⟩, _⟩ := x; exact ⟨_, e⟩
theorem zbl {P : Program} {w : World} {H : Hp} {B h h' : Heap} (k : B.StaysIn h) (k' : B.StaysIn h') (tr : ∀ b u, H b = some u → ∃ o, B.get? b = some o) (ok : HOk P w H h) : HOk P w H h' := fun a o e =>
 (ok a o e).stay (fun b u hb q => by
  have hbt : ∃ v, H b = some v := by
   rcases hb with z | z
   ·exact ⟨o, by rw [z]; exact e⟩
   ·exact ⟨_, z⟩
  obtain ⟨v, hv⟩ := hbt
  obtain ⟨ob, hob⟩ := tr b v hv
  have := k b ob hob
  rw [q] at this
  cases this
  exact k' b u hob) (fun _ q => q) fun _ _ q => q
def CX1 (P : Program) (w : World) : CXT := fun outer H s E e s' => ∃ (x C t : Addr) (B : Heap) (H' : Hp), e = .ref x ∧ s'.os = s.os ∧ AllBare s'.gens ∧ Un (frs outer) [] H H' s.heap s'.heap ∧ HOk P w H' s'.heap ∧
 Heap.FlyingW B outer x (.ref C) (.ref t) s'.heap ∧ (∀ b u, H' b = some u → ∃ o, B.get? b = some o) ∧ (∀ b o, s.heap.get? b = some o → b ∉ frs outer → ∃ o', B.get? b = some o') ∧ E (.ref C) none H'
section
variable {P : Program} {w : World} {K : PySem.W.Frag} {mg : Str → Option Value} {base : Heap} {N : List Str} {qual : Str} {sc : Scope} {f : Addr} {cd : Value} {A : Around} {outer : List Env} {s : Shared} {H : Hp} {E : XK}
end
section
variable {X : Cx} {E : XK} {x : Str} {C : Addr} {np cpos pos : Pos} {e : Expr} {es : List Expr} {t : TA} {bmB : List Value} {B nid iid : String}
end
def MDef (K : PySem.W.Frag) (C : Addr) (m qual : Str) (st : Stmt) (ps : List Str) : Prop := ∃ f fd, Fun K m qual st f fd ∧ Meth K C m f ∧ Binds K fd ps []
def MHas (P : Program) (w : World) (K : PySem.W.Frag) (mg : Str → Option Value) (base : Heap) (CX : CXT) (k : Nat) (C : Addr) (m : Str) (ps : List Str) (sp : Sp) : Prop :=
 ∃ f fd, FnOk P w K mg base CX k f fd ps sp ∧ Meth K C m f ∧ Binds K fd ps []
section
variable {P : Program} {w : World} {K : PySem.W.Frag} {mg : Str → Option Value} {base : Heap}
theorem Fun.okx {x qual : Str} {st : Stmt} {f : Addr} {fd : FuncData} {N ps : List Str} {k : Nat} {sp : Sp} (F : Fun K x qual st f fd) (S : FnScope N ps (zh st)) (len : ∀ vs H Q E, sp vs H Q E → vs.length = ps.length)
  (hbody : ∀ (cdv : Value) (A : Around) (outer : List Env) (s : Shared) (H : Hp) (vs : List V) (Q : VK) (E : XK), Room k (A.deeper (envOfC qual (zh st) s.heap.objs.size f cdv)) → sp vs H Q E →
   ∃ t, PSs (cxOf (CX1 P w) P w K mg base N qual (zh st) f cdv A outer s H E) (z1d st) t ∧ t { nx := fun _ H' => Q .non H', rt := Q } (start N vs) H) : FnOk P w K mg base (CX1 P w) (k + 1) f fd ps sp := by
 obtain ⟨oc, od, kV, doc, pm, an, cdv, ct, osl, rfl, lk, hcd⟩ := F.ex
 exact z90 lk hcd S len fun A outer s H vs Q E hr hsp => hbody cdv A outer s H vs Q E hr hsp
theorem MDef.ok {C : Addr} {m qual : Str} {st : Stmt} {N ps : List Str} {k : Nat} {sp : Sp} (D : MDef K C m qual st ps) (S : FnScope N ps (zh st)) (len : ∀ vs H Q E, sp vs H Q E → vs.length = ps.length)
  (hbody : ∀ (f : Addr) (cdv : Value) (A : Around) (outer : List Env) (s : Shared) (H : Hp) (vs : List V) (Q : VK) (E : XK), Room k (A.deeper (envOfC qual (zh st) s.heap.objs.size f cdv)) → sp vs H Q E →
   ∃ t, PSs (cxOf CX0 P w K mg base N qual (zh st) f cdv A outer s H E).nox (z1d st) t ∧ t { nx := fun _ H' => Q .non H', rt := Q } (start N vs) H) : MHas P w K mg base CX0 (k + 1) C m ps sp := by
 obtain ⟨f, fd, F, hm, hb⟩ := D
 exact ⟨f, fd, F.ok S len (fun cdv A outer s H vs Q E hr h => hbody f cdv A outer s H vs Q E hr h), hm, hb⟩
theorem MDef.okx {C : Addr} {m qual : Str} {st : Stmt} {N ps : List Str} {k : Nat} {sp : Sp} (D : MDef K C m qual st ps) (S : FnScope N ps (zh st)) (len : ∀ vs H Q E, sp vs H Q E → vs.length = ps.length)
  (hbody : ∀ (f : Addr) (cdv : Value) (A : Around) (outer : List Env) (s : Shared) (H : Hp) (vs : List V) (Q : VK) (E : XK), Room k (A.deeper (envOfC qual (zh st) s.heap.objs.size f cdv)) → sp vs H Q E →
   ∃ t, PSs (cxOf (CX1 P w) P w K mg base N qual (zh st) f cdv A outer s H E) (z1d st) t ∧ t { nx := fun _ H' => Q .non H', rt := Q } (start N vs) H) : MHas P w K mg base (CX1 P w) (k + 1) C m ps sp := by
 obtain ⟨f, fd, F, hm, hb⟩ := D
 exact ⟨f, fd, F.okx S len (fun cdv A outer s H vs Q E hr h => hbody f cdv A outer s H vs Q E hr h), hm, hb⟩
end
section
variable {X : Cx} {k : Nat} {C : Addr} {m : Str} {ps : List Str} {sp : Sp} {o e : Expr} {es : List Expr} {ta : TE} {t : TA} {apos pos : Pos}
end
def Mine (X : Cx) (pins : List (Addr × Obj)) (b : Addr) : Prop := (∃ o, X.s₀.heap.get? b = some o) ∨ b = X.env.locals ∨ (∃ y, X.env.cells.lookup y = some b) ∨ ∃ p ∈ X.pn ++ pins, p.1 = b
structure Fly (X : Cx) (pins : List (Addr × Obj)) (σ : St) (H : Hp) (s : Shared) (x C t : Addr) (B : Heap) : Prop where
 inv : Inv X pins σ H s
 fly : Heap.FlyingW B X.stack x (.ref C) (.ref t) s.heap
 tr : ∀ b u, H b = some u → ∃ o, B.get? b = some o
 mine : ∀ b, Mine X pins b → b ∈ frs X.stack ∨ ∃ o, B.get? b = some o
def XP (X : Cx) (pins : List (Addr × Obj)) (σ : St) (Ex : XK) (ev : Value) (s' : Shared) : Prop := ∃ x C t B H', ev = .ref x ∧ Fly X pins σ H' s' x C t B ∧ Ex (.ref C) none H'
theorem Inv.mine {X : Cx} {pins : List (Addr × Obj)} {σ : St} {H : Hp} {s : Shared} (I : Inv X pins σ H s) (hx : X.ex = []) {b : Addr} (h : Mine X pins b) : ∃ o, s.heap.get? b = some o := by
 rcases h with ⟨o, h⟩ | h | ⟨y, h⟩ | ⟨p, hp, h⟩
 ·exact I.base.there b o h (by rw [hx]; simp)
 ·obtain ⟨m, ⟨o, _, _, e, _⟩, _⟩ := I.loc
  exact ⟨o, by rw [h]; exact e⟩
 ·obtain ⟨v, o, e, _⟩ := I.cell y b h
  exact ⟨o, e⟩
 ·exact ⟨_, by rw [← h]; exact (I.pin p hp).1⟩
theorem Fly.on {X : Cx} {pins : List (Addr × Obj)} {σ : St} {H : Hp} {s : Shared} {x C t : Addr} {B : Heap} {h' : Heap} (F : Fly X pins σ H s x C t B) (fl : Heap.FlyingW B X.stack x (.ref C) (.ref t) h') (up : s.heap.UpToSlots h') : Fly X pins σ H { s with heap := h' } x C t B := by
 have I := F.inv
 refine ⟨?_, fl, F.tr, F.mine⟩
 have slotF : ∀ b o, b ∈ frs X.stack → s.heap.get? b = some o → ∃ sl, h'.get? b = some { o with slots := sl } := fun b o hb q => by
  obtain ⟨_, o2, e2, d2⟩ := I.stack.mem hb
  rw [q] at e2
  cases e2
  exact up b _ q d2
 have at' : ∀ b o, Mine X pins b → b ∉ frs X.stack → s.heap.get? b = some o → h'.get? b = some o := fun b o hm hb q => by
  rcases F.mine b hm with z | ⟨ob, z⟩
  ·exact absurd z hb
  ·have := F.fly.1 b ob z
   rw [q] at this
   cases this
   exact fl.1 b o z
 have any' : ∀ b o, Mine X pins b → s.heap.get? b = some o → ∃ sl, h'.get? b = some { o with slots := sl } := fun b o hm q => by
  by_cases hb : b ∈ frs X.stack
  ·exact slotF b o hb q
  ·exact ⟨o.slots, at' b o hm hb q⟩
 have cellK : ∀ y c, X.env.cells.lookup y = some c → ∀ v, s.heap.IsCell c v → h'.IsCell c v := fun y c e v ⟨o, ho, hd⟩ => by
  obtain ⟨sl, q⟩ := any' c o (.inr (.inr (.inl ⟨y, e⟩))) ho
  exact ⟨_, q, hd⟩
 refine ⟨I.ok, I.os, I.bare, ⟨fun b o e n hb hx => ?_, fun b o e n hb hx => ?_, I.base.free, fun b o e hx => ?_, I.base.tups, I.base.frzs, I.base.tbls⟩, ?_, fun y c e => ?_, I.free, I.freeC, fun p hp => ?_, zbl F.fly.1 fl.1 F.tr I.hok, I.len⟩
 ·have q := I.base.keep b o e n hb hx
  by_cases hf : b ∈ frs X.stack
  ·rcases List.mem_cons.mp (I.stkSub b hf) with z | z
   ·exact absurd (Nat.lt_of_lt_of_le (Heap.lt_size e) I.ok.above) (by rw [z]; exact Nat.lt_irrefl _)
   ·exact absurd z hb
  ·exact at' b o (.inl ⟨o, e⟩) hf q
 ·obtain ⟨sl, q⟩ := I.base.slot b o e n hb hx
  obtain ⟨sl', q'⟩ := any' b _ (.inl ⟨o, e⟩) q
  exact ⟨sl', q'⟩
 ·obtain ⟨o', q⟩ := I.base.there b o e hx
  obtain ⟨sl', q'⟩ := any' b _ (.inl ⟨o, e⟩) q
  exact ⟨_, q'⟩
 ·obtain ⟨m, ⟨o, es, ep, ho, r⟩, hl⟩ := I.loc
  obtain ⟨sl, q⟩ := any' _ o (.inr (.inl rfl)) ho
  refine ⟨m, ⟨_, es, ep, q, r⟩, fun i y v e1 e2 e3 => ?_⟩
  obtain ⟨u, ru, l⟩ := hl i y v e1 e2 e3
  refine ⟨u, ru, ?_⟩
  rcases l with l | ⟨k, c, e, z⟩
  ·exact .inl l
  ·exact .inr ⟨k, c, e, cellK y c e _ z⟩
 ·obtain ⟨v, z⟩ := I.cell y c e
  exact ⟨v, cellK y c e v z⟩
 ·obtain ⟨e, n, ne, nf, d⟩ := I.pin p hp
  refine ⟨?_, n, ne, nf, d⟩
  by_cases hf : p.1 ∈ frs X.stack
  ·rcases List.mem_cons.mp (I.stkSub p.1 hf) with z | z
   ·exact absurd z ne
   ·exact absurd z nf
  ·exact at' p.1 p.2 (.inr (.inr (.inr ⟨p, hp, rfl⟩))) hf e
end L2
end
section
namespace L2
open PySem PySem.Spec PyProof.Rows
abbrev TEX := St → Hp → VK → XK → Prop
section
variable {X : Cx} {k : Nat} {C : Addr} {m : Str} {ps : List Str} {sp : Sp} {o e : Expr} {es : List Expr} {ta : TE} {t : TA} {tx : TEX} {apos pos : Pos}
end
end L2
end
section
namespace L2
open PySem PySem.Spec PyProof.Rows
section
variable {X : Cx}
theorem z94 : OpR X (binaryOp .Mult) (fun x y H Q => ∃ z n, x = .str z ∧ y = .int n ∧ MulOk z n ∧ Q (.str (Txt.mul z n)) H) := by
 intro pins s σ H x y v u Q I rx ry h
 obtain ⟨z, n, rfl, rfl, hok, q⟩ := h
 obtain ⟨t, rfl⟩ := rx
 obtain ⟨t', rfl⟩ := ry
 exact SB.mul hok fun t2 k => ⟨.str _, H, I.tok _, ⟨_, rfl⟩, q⟩
theorem zaj : MtR X "str.count" (fun x vs H Q => ∃ z y, x = .str z ∧ vs = [.str y] ∧ Q (.int (Txt.count z y)) H) := by
 intro pins s σ H x vs v us Q I rx rv h
 obtain ⟨z, y, rfl, rfl, q⟩ := h
 obtain ⟨t, rfl⟩ := rx
 obtain ⟨u, rfl, t', rfl⟩ := rv.one
 exact SC.count ⟨.int _, H, I.tok _, ⟨_, rfl⟩, q⟩
theorem z75 (hu : X.A.units < cLine) : OpR X (compareOp .NotEq) (fun x y H Q => ∃ p q xs, x = .ref p ∧ y = .ref q ∧ SqL X.K H p xs ∧ SqL X.K H q [] ∧ Q (.bl (!xs.isEmpty)) H) := by
 intro pins s σ H x y v u Q I rx ry h
 obtain ⟨p, q, xs, rfl, rfl, hp, hq, hQ⟩ := h
 cases rx
 cases ry
 obtain ⟨us, r1, p1, _⟩ := I.list hp
 obtain ⟨ws, r2, p2, _⟩ := I.list hq
 have l1 := r1.length
 cases r2
 cases xs with
 | nil =>
  cases r1
  exact SeqAt.RcNeAt.lists (e := fun _ => true) p1.isList p2.isList rfl hu (fun j h1 h2 => absurd h1 (Nat.not_lt_zero _)) _ _ _ _ (zw I hQ rfl)
 | cons a xs => exact SeqAt.RcNeAt.lists_lengths p1.isList p2.isList (by simp only [List.size_toArray, bne_iff_ne]; rw [← l1]; simp) hu _ _ _ _ (zw I hQ rfl)
theorem z95 {A : Around} {E : Value → Shared → Prop} {Q : Value → Shared → Prop} {pins : List (Addr × Obj)} {σ : St} {H : Hp} {s : Shared} {x : V} {u t : Value} {tp : Addr} {its : List Value} {b : Bool} (I : Inv X pins σ H s) (rx : RelV x u) (ty : TyOf X.K H x t) (ht : IsTup s.heap tp its.toArray)
  (e : PySem.W.kitAny X.K t its = some b) (h : ∀ tk, Q (.bool b) { s with toks := tk }) : wpAny (model X.prog X.w) A (call (.builtin "isinstance") [u, .ref tp]) Q E s := by
 obtain ⟨⟨c0, dd, dt, sl⟩, e0, hc0, n0, hd0⟩ := ht
 simp only at hc0 hd0
 subst hc0 hd0
 cases ty with
 | non => cases (show u = Value.none from rx); exact PySem.W.kia_tup PySem.W.kitx_none I.kIn True.intro e0 e (fun z => nomatch z) h
 | bl y => cases (show u = Value.bool y from rx); exact PySem.W.kia_tup PySem.W.kitx_bool I.kIn True.intro e0 e (fun z => nomatch z) h
 | int i => obtain ⟨t, q⟩ := (show ∃ t, u = Value.int i t from rx); cases q; exact PySem.W.kia_tup PySem.W.kitx_int I.kIn True.intro e0 e (fun z => nomatch z) h
 | str y => obtain ⟨t, q⟩ := (show ∃ t, u = Value.str y t from rx); cases q; exact PySem.W.kia_tup PySem.W.kitx_str I.kIn True.intro e0 e (fun z => nomatch z) h
 | flt y => obtain ⟨t, q⟩ := (show ∃ t, u = Value.float y t from rx); cases q; exact PySem.W.kia_tup PySem.W.kitx_float I.kIn True.intro e0 e (fun z => nomatch z) h
 | @lst a xs ea =>
  cases (show u = Value.ref a from rx)
  obtain ⟨_, _, n, _, h1⟩ := (show ObjOk X.prog X.w H s.heap a (.lst xs) from I.hok a _ ea)
  exact PySem.W.kia_tup PySem.W.kitx_list I.kIn ⟨_, h1, rfl⟩ e0 e (fun z => nomatch z) h
 | @tup a xs ea =>
  cases (show u = Value.ref a from rx)
  obtain ⟨_, _, _, p⟩ := (show ObjOk X.prog X.w H s.heap a (.tup xs) from I.hok a _ ea)
  obtain ⟨o, h1, h2, _⟩ := p
  exact PySem.W.kia_tup PySem.W.kitx_tuple I.kIn ⟨o, h1, h2⟩ e0 e (fun z => nomatch z) h
 | @frz a ob xs ea =>
  cases (show u = Value.ref a from rx)
  obtain ⟨_, _, _, n, _, h1⟩ := (show ObjOk X.prog X.w H s.heap a (.frz ob (.lst xs)) from I.hok a _ ea)
  exact PySem.W.kia_tup PySem.W.kitx_list I.kIn ⟨_, h1, rfl⟩ e0 e (fun z => nomatch z) h
 | @dK a kvs ea =>
  cases (show u = Value.ref a from rx)
  obtain ⟨_, _, vs, _, p⟩ := (show ObjOk X.prog X.w H s.heap a (.dK kvs) from I.hok a _ ea)
  obtain ⟨o, es, ep, h1, h2, _⟩ := p
  exact PySem.W.kia_tup PySem.W.kitx_dict I.kIn ⟨o, h1, h2.1⟩ e0 e (fun z => nomatch z) h
 | @dT a kvs ea =>
  cases (show u = Value.ref a from rx)
  obtain ⟨_, _, xs, _, o, es, ep, h1, h2, _⟩ := (show ObjOk X.prog X.w H s.heap a (.dT kvs) from I.hok a _ ea)
  exact PySem.W.kia_tup PySem.W.kitx_dict I.kIn ⟨o, h1, h2.1⟩ e0 e (fun z => nomatch z) h
 | @ins a C dx fs ea cl ha hn htk hm =>
  cases (show u = Value.ref a from rx)
  obtain ⟨mA, O, _⟩ := z8b I.hok ea
  obtain ⟨od, J, _⟩ := O.look
  exact PySem.W.kia_tup (PySem.W.kitx_own (cl.get _) cl.hd ha hn htk hm) I.kIn J e0 e (fun z => nomatch z) h
theorem z3z : CallR X (.builtin "isinstance") (fun xs H Q => ∃ x p c d t b, xs = [x, .ref p] ∧ SqT X.K H p [.ty c, .ty d] ∧ TyOf X.K H x t ∧ PySem.W.kitAny X.K t [.type c, .type d] = some b ∧ Q (.bl b) H) := by
 intro pins s σ H xs us Q I r h
 obtain ⟨x, p, c, d, t, b, rfl, hp, ty, e, q⟩ := h
 obtain ⟨u, w', rfl, r1, r2⟩ := z8x r
 cases r2
 obtain ⟨its, rv, pl, _⟩ := I.tuple hp
 obtain ⟨u1, u2, rfl, q1, q2⟩ := rv.two
 cases q1
 cases q2
 exact z95 I r1 ty pl e fun tk => ⟨.bl b, H, I.tok _, rfl, q⟩
def KHas (P : Program) (w : World) (K : PySem.W.Frag) (mg : Str → Option Value) (base : Heap) (k : Nat) (C : Addr) (ps : List Str) (sp : Sp) : Prop :=
 ∃ f fd, FnOk P w K mg base CX0 k f fd ps sp ∧ Mk K C f ∧ Binds K fd ps []
end
def KDef (K : PySem.W.Frag) (C : Addr) (qual : Str) (st : Stmt) (ps : List Str) : Prop := ∃ f fd, Fun K "__init__" qual st f fd ∧ Mk K C f ∧ Binds K fd ps []
theorem KDef.ok {P : Program} {w : World} {K : PySem.W.Frag} {mg : Str → Option Value} {base : Heap} {C : Addr} {qual : Str} {st : Stmt} {N ps : List Str} {k : Nat} {sp : Sp} (D : KDef K C qual st ps) (S : FnScope N ps (zh st)) (len : ∀ vs H Q E, sp vs H Q E → vs.length = ps.length)
  (hbody : ∀ (f : Addr) (cdv : Value) (A : Around) (outer : List Env) (s : Shared) (H : Hp) (vs : List V) (Q : VK) (E : XK), Room k (A.deeper (envOfC qual (zh st) s.heap.objs.size f cdv)) → sp vs H Q E →
   ∃ t, PSs (cxOf CX0 P w K mg base N qual (zh st) f cdv A outer s H E).nox (z1d st) t ∧ t { nx := fun _ H' => Q .non H', rt := Q } (start N vs) H) : KHas P w K mg base (k + 1) C ps sp := by
 obtain ⟨f, fd, F, hm, hb⟩ := D
 exact ⟨f, fd, F.ok S len (fun cdv A outer s H vs Q E hr h => hbody f cdv A outer s H vs Q E hr h), hm, hb⟩
def z8d : Sp := fun _ _ _ _ => False
theorem za1 {P : Program} {w : World} {K : PySem.W.Frag} {mg : Str → Option Value} {base : Heap} {x : Str} {st : Stmt} {ps : List Str} {k : Nat} (D : Def K mg x st ps) : Has P w K mg base k x ps z8d := by
 obtain ⟨f, fd, F, hm, hb⟩ := D
 refine ⟨f, fd, ⟨fun _ _ _ _ h => h.elim, fun _ _ _ _ _ _ _ _ _ _ _ _ _ h => h.elim⟩, hm, F.kp, hb, ?_⟩
 obtain ⟨oc, od, kV, doc, pm, an, cdv, ct, osl, rfl, lk, hcd⟩ := F.ex
 exact ⟨oc, od, osl, lk⟩
theorem z3x (K : PySem.W.Frag) : PySem.W.kitOne K (.type "list") (.type "list") = some true := by with_unfolding_all rfl
theorem z15 (K : PySem.W.Frag) : PySem.W.kitOne K (.type "int") (.type "int") = some true ∧ PySem.W.kitOne K (.type "bool") (.type "int") = some true ∧ PySem.W.kitOne K (.type "str") (.type "int") = some false ∧ PySem.W.kitOne K (.type "str") (.type "str") = some true ∧ PySem.W.kitOne K (.type "int") (.type "str") = some false ∧
  PySem.W.kitOne K (.type "str") (.type "bool") = some false ∧ PySem.W.kitOne K (.type "tuple") (.type "tuple") = some true ∧ PySem.W.kitOne K (.type "tuple") (.type "list") = some false ∧ PySem.W.kitOne K (.type "list") (.type "tuple") = some false := by
 refine ⟨?_, ?_, ?_, ?_, ?_, ?_, ?_, ?_, ?_⟩ <;> with_unfolding_all rfl
theorem z23 (K : PySem.W.Frag) : PySem.W.kitAny K (.type "int") [.type "list", .type "tuple"] = some false ∧ PySem.W.kitAny K (.type "bool") [.type "list", .type "tuple"] = some false ∧ PySem.W.kitAny K (.type "str") [.type "list", .type "tuple"] = some false ∧
  PySem.W.kitAny K (.type "list") [.type "list", .type "tuple"] = some true ∧ PySem.W.kitAny K (.type "tuple") [.type "list", .type "tuple"] = some true := by
 refine ⟨?_, ?_, ?_, ?_, ?_⟩ <;> with_unfolding_all rfl
theorem Has.or {P : Program} {w : World} {K : PySem.W.Frag} {mg : Str → Option Value} {base : Heap} {k k' n : Nat} {x : Str} {ps : List Str} {sp sp' : Sp} (G : Has P w K mg base k x ps sp) (G' : Has P w K mg base k' x ps sp') (h1 : k ≤ n) (h2 : k' ≤ n) : Has P w K mg base n x ps (fun vs H Q E => sp vs H Q E ∨ sp' vs H Q E) := by
 obtain ⟨f, fd, F, hm, hk, hb, oc, od, osl, lk⟩ := G
 obtain ⟨f', fd', F', hm', hk', hb', oc', od', osl', lk'⟩ := G'
 have e := hm.symm.trans hm'
 cases e
 rw [lk] at lk'
 have e2 := Option.some.inj lk'
 injection e2 with _ _ e3 _
 injection e3 with e4
 subst e4
 refine ⟨f, fd, ⟨fun vs H Q E h => h.elim (F.len vs H Q E) (F'.len vs H Q E), fun A outer s H args us vs Q E hr he hB hv hs => ?_⟩, hm, hk, hb, oc, od, osl, lk⟩
 rcases hs with hs | hs
 ·exact (F.mono h1).run A outer s H args us vs Q E hr he hB hv hs
 ·exact (F'.mono h2).run A outer s H args us vs Q E hr he hB hv hs
section
variable {X : Cx} {K : PySem.W.Frag}
theorem z3q (h : X.K = K := by rfl) : IxR X (rIxT K) := h ▸ ix_tup
theorem z2c (h : X.K = K := by rfl) : IxR X (rIx K) := h ▸ zc2
end
end L2
end
section
namespace L2
open PySem PySem.Spec PyProof.Rows
section
variable {X : Cx}
end
end L2
end
section
namespace PySem
open Sem (wp)
open AutoSeq1 (wpAny_loadPart')
end PySem
end
section
namespace PySem
open Sem (wp)
end PySem
end
section
namespace PySem.W
open PySem PySem.Spec PySem.Calls PyProof.Rows
open Builtin Builtin.Getset_descriptor
section
variable {prog : Program} {w : World} {A : Around} {E : Value → Shared → Prop} {s : Shared} {K : Frag} {x C : Addr} {R : Result → Shared → Prop}
structure ErrCls (K : Frag) (C : Addr) : Prop where
 ga : findIn K (.ref C) "__getattribute__" = some (some (.builtin "BaseException.__getattribute__"))
 no : findIn K (.ref C) "__getattr__" = some none
 cl : findIn K (.ref C) "__class__" = some (some (.builtin "object.__class__"))
 sp : specialIn K (.builtin "object.__class__") "__get__" = some (some (.builtin "getset_descriptor.__get__"))
 tk : takesIn K (.builtin "object.__class__") = some true
 mo : mroIn K C (.type "object") = some true
 mb : mroIn K C (.type "BaseException") = some true
end
end PySem.W
namespace L2
open PySem PySem.Spec PyProof.Rows
section
variable {X : Cx}
end
end L2
end
section
namespace PySem
end PySem
namespace L2
open PySem PySem.Spec PyProof.Rows
section
variable {X : Cx}
end
end L2
end
section
namespace L2
open PySem PySem.Spec PyProof.Rows
structure CompScope2 (X : Cx) (sc : Scope) (x y2 : Str) (cap : List Str) (js : List Nat) : Prop where
 kind : sc.kind = .function
 nocell : ∀ y ∈ sc.names, y.2 ≠ .cell
 names : ∀ y ∈ sc.names, y.2 = .local → sc.names.lookup y.1 = some .local
 own : sc.names.lookup x = some .local
 own2 : sc.names.lookup y2 = some .local
 free : ∀ y ∈ sc.names, y.2 = .free → X.env.kindOf y.1 = some .cell ∨ X.env.kindOf y.1 = some .free
 nd : (x :: y2 :: cap).Nodup
 caps : CapOk X sc cap js
section
variable {X : Cx} {sc : Scope} {x y2 : Str} {cap : List Str} {js : List Nat} {pins : List (Addr × Obj)} {σ : St} {H : Hp} {s : Shared}
theorem CompScope2.cells (S : CompScope2 X sc x y2 cap js) (I : Inv X pins σ H s) : ∀ y ∈ sc.names, y.2 = .free → ∃ c, X.env.cells.lookup y.1 = some c := fun y hy hf => I.ok.has y.1 (S.free y hy hf)
theorem CompScope2.sub (S : CompScope2 X sc x y2 cap js) (I : Inv X pins σ H s) {y : Str} {c : Addr} (h : (z1j X.env sc.names []).lookup y = some c) : X.env.cells.lookup y = some c :=
 z3n (S.cells I) (fun _ _ e => by simp at e) h
end
section
variable {X : Cx} {sc : Scope} {x y2 : Str} {cap : List Str} {js : List Nat} {pins : List (Addr × Obj)} {σ : St} {H : Hp} {s : Shared} {elt iter tg : Expr} {g2 : TG} {ifs : List Expr} {px pos : Pos} {tc : TT} {te : TE}
end
end L2
end
section
namespace L2
open PySem PySem.Spec PyProof.Rows
section
variable {J : It} {K : PySem.W.Frag} {a : Addr} {xs : List V} {g2 : TG} {tc : TT} {te : TE} {js : List Nat} {σ : St} {H1 : Hp} {Q : VK}
end
section
variable {X : Cx} {k : Nat} {C : Addr} {m : Str} {ps : List Str} {sp : Sp} {o e : Expr} {es : List Expr} {ta : TE} {t : TA} {apos pos : Pos} {E : XK}
end
section
variable {X : Cx}
end
end L2
end
section
namespace PySem
open PyProof.Rows (StrsAre)
theorem z8e (t : SetTable) (j : Nat) : (t.put j).1.led = t.led ∧ (t.put j).1.plain = t.plain := by
 unfold SetTable.put; exact ⟨rfl, rfl⟩
theorem z96 (t : SetTable) (es : Array (Int × Value)) (h : Int) (x : Value) :
  (layNew t es h x).2.1.led = t.led ∧ (t.plain = false → (layNew t es h x).2.1.plain = false) := by
 unfold layNew
 split
 ·dsimp only
  unfold SetTable.orStandIn
  split
  ·exact ⟨(z8e t _).1, fun p => (z8e t _).2.trans p⟩
  ·exact ⟨rfl, fun _ => rfl⟩
 ·exact ⟨rfl, fun _ => rfl⟩
theorem zak {mask finger moves : Nat} {led plain : Bool} {hs : Array Int} {r : SetTable × Array Nat}
  (e : SetTable.laid mask finger moves led plain hs = some r) : r.1.led = led ∧ r.1.plain = plain := by
 unfold SetTable.laid at e
 simp only [Option.bind_eq_bind, Option.bind_eq_some_iff, Option.some.injEq, Option.pure_def] at e
 obtain ⟨o, _, rfl⟩ := e
 exact ⟨rfl, rfl⟩
theorem z76 (t : SetTable) (es : Array (Int × Value)) (n : Nat) :
  (relayAll t es n).2.1.led = t.led ∧ (t.plain = false → (relayAll t es n).2.1.plain = false) := by
 unfold relayAll
 split
 ·rename_i e
  dsimp only
  split
  ·unfold SetTable.relaid at e
   have := zak e
   exact ⟨this.1, fun p => this.2.trans p⟩
  ·exact ⟨rfl, fun _ => rfl⟩
 ·exact ⟨rfl, fun _ => rfl⟩
def TextSet (prog : Program) (w : World) (h : Heap) (a : Addr) (D : List Str) (led : Bool) : Prop :=
 ∃ o es ep t, h.get? a = some o ∧ o.ExactSet ∧ o.data = .set es ep t ∧ ElemsOf (strKind prog w) es.toList ∧
  (∀ k, decide (k ∈ D) = true ↔ ∃ e ∈ es.toList, (strKind prog w).is k e.2 = true) ∧
  es.size < scanBound ∧ t.fits es.size = true ∧ es.size = D.length ∧ t.led = led ∧ (es.size ≠ 0 → t.plain = false)
section
variable {prog : Program} {w : World} {A : Around} {E : Value → Shared → Prop} {s : Shared}
theorem TextSet.keep {h h' : Heap} {a : Addr} {D : List Str} {led : Bool} (T : TextSet prog w h a D led)
  (e : ∀ o, h.get? a = some o → h'.get? a = some o) : TextSet prog w h' a D led := by
 obtain ⟨o, es, ep, t, ho, more⟩ := T
 exact ⟨o, es, ep, t, e o ho, more⟩
end
section
variable {prog : Program} {w : World} {A : Around} {R : Result → Shared → Prop} {I : Addr}
variable {fp wr : List Addr} {G : Array GenState → Array GenState → Prop} {P : Nat → Value → Prop} {St : Nat → Shared → Prop}
end
abbrev z1t (w : World) : Bool := !(w.params.followText "set-order")
section
variable {prog : Program} {w : World} {A : Around} {E : Value → Shared → Prop} {s : Shared}
abbrev z1h (led : Bool) : Obj := { cls := .type "set", dict := none, data := .set #[] 0 (.fresh 0 0 led) }
theorem z7u (a : Value) {Q₁ : Value → Shared → Prop}
  (h : Q₁ (.ref s.heap.objs.size) { s with heap := s.heap.push (z1h (z1t w)) }) :
  codeAny (model prog w) A (.call (.builtin "set.__new__") ⟨[.type "set", a], []⟩) (wants Q₁ E) s := by
 refine codeAny_of_tree ?_
 have c := F.newCall_set_1 a
 show wpAny _ A.in1 (checkBuiltinCall "set.__new__" ⟨[.type "set", a], []⟩ >>= fun _ => again (.builtin "set.__new__" ⟨[.type "set", a], []⟩)) _ _ s
 refine wpAny_bind (wpAny_of_eq c (wpAny_pure ⟨plainId_quiet F.plain_set_new _, ?_⟩))
 refine codeAny_builtin F.entry_set_new ?_
 rw [Around.under_plainId F.plain_set_new _]
 unfold Builtin.«set.__new__» Builtin.Frozenset.newClass
 have sub := sub_set_self
 obtain ⟨hp, g, d, tk, os⟩ := s
 dsimp only
 wp_walk
 refine wpAny_askSetting (wpAny_pure ?_)
 dsimp only
 simp only [newObj]
 refine wpAny_bind (wpAny_alloc (wpAny_pure ?_))
 exact wpAny_pure h
end
end PySem
end
section
namespace PySem
open PyProof.Rows (StrsAre)
section
variable {prog : Program} {w : World} {A : Around} {E : Value → Shared → Prop} {s : Shared}
end
end PySem
end
section
namespace PySem
open PyProof.Rows (StrsAre)
section
variable {prog : Program} {w : World} {A : Around} {E : Value → Shared → Prop}
theorem z77 {src : Source} {n : Nat} {Q : Nat → Shared → Prop} {s : Shared} (hn : n ≠ 0)
  (h : ∀ i, i < n → Q i { s with drawn := s.drawn.bump src }) : wpAny (model prog w) A (choose src n) Q E s := by
 intro Γ p hA
 exact ⟨hn, h _ (Nat.mod_lt _ (Nat.pos_of_ne_zero hn))⟩
theorem z2r {α : Type} : ∀ (l : List α) (i : Nat) (h : i < l.length), List.Perm (l[i] :: l.eraseIdx i) l
 | x :: l, 0, h => by simp
 | x :: l, i + 1, h => by
  have := z2r l i (by simpa using h)
  simp only [List.getElem_cons_succ, List.eraseIdx_cons_succ]
  exact (List.Perm.swap ..).trans (this.cons x)
theorem z6j {α : Type} : drawOrder 0 ([] : List α) = pure [] := by rw [drawOrder]
theorem z5f {α : Type} (n : Nat) : ∀ (xs : List α) {Q : List α → Shared → Prop} {s : Shared}, xs.length = n →
  (∀ ys d, List.Perm ys xs → Q ys { s with drawn := d }) → wpAny (model prog w) A (drawOrder n xs) Q E s := by
 induction n with
 | zero =>
  intro xs Q s hl h
  have e := List.length_eq_zero_iff.mp hl
  subst e
  rw [z6j]
  exact wpAny_pure (h [] s.drawn .nil)
 | succ n ih =>
  intro xs Q s hl h
  cases xs with
  | nil => cases hl
  | cons x xs =>
   rw [drawOrder]
   case x_2 => intro z; cases z
   refine wpAny_bind (z77 (by simp) fun i hi => ?_)
   rw [List.getElem?_eq_getElem hi]
   dsimp only
   refine wpAny_bind (ih _ (by rw [List.length_eraseIdx_of_lt hi]; omega) fun ys d pr => ?_)
   exact wpAny_pure (h _ d ((pr.cons _).trans (z2r _ _ hi)))
theorem z4t {α : Type} (next : Nat → Nat) : ∀ (fuel k : Nat) (left : List α) (out : Array α), left.length = fuel →
  (pickOrder.go next fuel k left out).toList.Perm (out.toList ++ left)
 | 0, k, left, out, h => by
  rw [List.length_eq_zero_iff.mp h]; unfold pickOrder.go; simp
 | fuel + 1, k, left, out, h => by
  unfold pickOrder.go
  have hi : next k % left.length < left.length := Nat.mod_lt _ (by omega)
  rw [List.getElem?_eq_getElem hi]
  dsimp only
  refine (z4t next fuel _ _ _ (by rw [List.length_eraseIdx_of_lt hi]; omega)).trans ?_
  rw [Array.toList_push, List.append_assoc]
  exact (z2r _ _ hi).append_left _
theorem z2d {α : Type} (next : Nat → Nat) (xs : Array α) : (pickOrder next xs).toList.Perm xs.toList := by
 have := z4t next xs.size 0 xs.toList #[] (by simp)
 simpa [pickOrder] using this
end
end PySem
end
section
namespace PySem
open PyProof.Rows (StrsAre)
theorem z6k : entryFor table "set.__iter__" = some Builtin.«frozenset.__iter__» :=
 entryFor_alias (id' := "frozenset.__iter__") (by kernel_rfl) rfl (by decide +kernel) (by kernel_rfl)
theorem z78 (v : Value) : argsOk "set.__iter__" ⟨[v], []⟩ := by unfold argsOk; kernel_rfl
theorem slot_setNext : Slot "set_iterator" "__next__" "set_iterator.__next__" := by
 refine .of (owner := "set_iterator") (n := "__next__") ?_ ?_ ?_ ?_ ?_ ?_
 ·rw [typeLookup_type, builtinLookup_eq_fast]; kernel_rfl
 ·decide +kernel
 ·decide +kernel
 ·decide +kernel
 ·first
   | exact .inl (by decide +kernel)
   | exact .inr (by decide +kernel)
 ·rw [isSubtype_type]; kernel_rfl
theorem z30 : Slot "set_iterator" "__iter__" "set_iterator.__iter__" := by
 refine .of (owner := "set_iterator") (n := "__iter__") ?_ ?_ ?_ ?_ ?_ ?_
 ·rw [typeLookup_type, builtinLookup_eq_fast]; kernel_rfl
 ·decide +kernel
 ·decide +kernel
 ·decide +kernel
 ·first
   | exact .inl (by decide +kernel)
   | exact .inr (by decide +kernel)
 ·rw [isSubtype_type]; kernel_rfl
theorem z1z : entryFor table "set_iterator.__next__" = some Builtin.«set_iterator.__next__» := by
 refine entryFor_of_tree ?_
 kernel_rfl
theorem z28 (v : Value) : argsOk "set_iterator.__next__" ⟨[v], []⟩ := by unfold argsOk; kernel_rfl
section
variable {prog : Program} {w : World} {A : Around} {E : Value → Shared → Prop} {s : Shared}
theorem z1p {Q : Bool → Shared → Prop} (h : Q (w.params.followText "set-order") s) :
  wpAny (model prog w) A setsByText Q E s := by
 unfold setsByText
 exact wpAny_bind (wpAny_askSetting (wpAny_pure h))
abbrev z17 (first : Value) (i : Nat) (a : Addr) (n ep : Nat) : Obj :=
 { cls := .type "set_iterator", data := .fields #[first, .int i 0, .ref a, .int n 0, .int ep 0] }
theorem z97 {a : Addr} {o : Obj} {es : Array (Int × Value)} {ep : Nat} {t : SetTable} {Q : Value → Shared → Prop}
  (ho : s.heap.get? a = some o) (hx : o.ExactSet) (hd : o.data = .set es ep t) (hf : t.fits es.size = true) (hb : es.size < scanBound)
  (hdrawn : w.params.followText "set-order" = false → t.plain = false → es.size > 1 → ∀ (ps : List Nat) d, ps.Perm (List.range es.size) →
   Q (.ref (s.heap.objs.size + 1)) { s with
    heap := (s.heap.push { cls := .type "tuple", data := .seq (ps.map fun (i : Nat) => rawInt i).toArray }).push (z17 (.ref s.heap.objs.size) 0 a es.size ep), drawn := d })
  (hplace : (w.params.followText "set-order" = true ∨ t.plain = true ∨ es.size ≤ 1) →
   Q (.ref s.heap.objs.size) { s with heap := s.heap.push (z17 (.int 0 0) 0 a es.size ep) }) :
  wpAny (model prog w) A (pyIter (.ref a)) Q E s := by
 have ty : s.TypeIs (.ref a) "set" := ⟨o, ho, hx.1⟩
 refine wpAny_pyIter_slot ty F.slot_set_iter (wpAny_call_entry F.slot_set_iter ty z6k ?_ (z78 _))
 unfold Builtin.«frozenset.__iter__» Builtin.Frozenset.slot0 slotArgs
 simp only [List.isEmpty_nil, Bool.not_true, Bool.false_eq_true, ↓reduceIte, bind_assoc, List.length_nil, bne_self_eq_false]
 unfold Builtin.Frozenset.addrOf Builtin.Frozenset.sizeOf setDrawn
 refine wpAny_bind (wpAny_pure ?_)
 dsimp only
 refine wpAny_bind (wpAny_pure ?_)
 refine wpAny_bind (wpAny_bind (wpAny_setEntries_of ho hd hf (wpAny_pure ?_)))
 refine wpAny_bind (wpAny_bind (wpAny_setState_of ho hd hf ?_))
 dsimp only
 refine wpAny_bind (z1p (wpAny_pure ?_))
 have look := slot_setNext.lookup
 by_cases c : (!w.params.followText "set-order" && (!t.plain && decide (es.size > 1))) = true
 ·refine (?_ : wpAny _ _ (if (!w.params.followText "set-order" && (!t.plain && decide (es.size > 1))) = true then _ else _) _ _ _)
  rw [if_pos c]
  simp only [Bool.and_eq_true, Bool.not_eq_true', decide_eq_true_eq] at c
  refine wpAny_bind (z5f _ _ (by simp) fun ps d pr => ?_)
  unfold newTuple
  refine wpAny_bind (wpAny_newObj_type ?_ (by
   have l := fits_of_scanBound hb
   have z := pr.length_eq
   simp only [List.length_range] at z
   show _ ≤ sizeLine
   simp only [List.size_toArray, List.length_map]
   omega))
  refine wpAny_bind (wpAny_setEpoch_of (Heap.get?_push_of_some _ ho) hd hf ?_)
  unfold newFields
  refine wpAny_bind (wpAny_newObj_type (wpAny_pure ⟨_, rfl, "set_iterator", _, ⟨_, Heap.get?_push_size _ rfl, rfl⟩, look, ?_⟩))
  have := hdrawn c.1 c.2.1 c.2.2 ps d pr
  rw [Heap.size_push]
  exact this
 ·refine (?_ : wpAny _ _ (if (!w.params.followText "set-order" && (!t.plain && decide (es.size > 1))) = true then _ else _) _ _ _)
  rw [if_neg c]
  refine wpAny_bind (wpAny_pure ?_)
  refine wpAny_bind (wpAny_setEpoch_of ho hd hf ?_)
  unfold newFields
  refine wpAny_bind (wpAny_newObj_type (wpAny_pure ⟨_, rfl, "set_iterator", _, ⟨_, Heap.get?_push_size _ rfl, rfl⟩, look, ?_⟩))
  refine hplace ?_
  cases hb : w.params.followText "set-order" with
  | true => exact .inl rfl
  | false =>
   cases hp : t.plain with
   | true => exact .inr (.inl rfl)
   | false =>
    refine .inr (.inr ?_)
    rw [hb, hp] at c; simp at c; omega
def SetIterAt (h : Heap) (I : Addr) (first : Value) (i : Nat) (a : Addr) (n ep : Nat) : Prop :=
 ∃ o, h.get? I = some o ∧ o.cls = .type "set_iterator" ∧ o.data = .fields #[first, .int i 0, .ref a, .int n 0, .int ep 0]
theorem z6l {I T a : Addr} {i : Nat} {o oT : Obj} {es : Array (Int × Value)} {ep : Nat} {t : SetTable} {ps : List Nat} {nT : Nat} {Q : Option Value → Shared → Prop}
  (ho : s.heap.get? a = some o) (hd : o.data = .set es ep t) (hf : t.fits es.size = true)
  (hi : SetIterAt s.heap I (.ref T) i a es.size ep) (gT : s.heap.get? T = some oT) (dT : oT.data = .seq (ps.map fun (i : Nat) => rawInt i).toArray nT)
  {p : Nat} {e : Int × Value} (hp : ps[i]? = some p) (he : es[p]? = some e)
  (h : ∀ h', SetIterAt h' I (.ref T) (i + 1) a es.size ep → Heap.SameBut I s.heap h' → Q (some e.2) { s with heap := h' }) :
  wpAny (model prog w) A (pyNext (.ref I)) Q E s := by
 obtain ⟨oI, gI, cI, dI⟩ := hi
 have ty : s.TypeIs (.ref I) "set_iterator" := ⟨oI, gI, cI⟩
 unfold pyNext
 refine wpAny_bind (wpAny_attempt (wpAny_callSpecial?_slot (name := Str.ofString "__next__") ty slot_setNext
  (wpAny_call_entry slot_setNext ty z1z ?_ (z28 _))))
 unfold Builtin.«set_iterator.__next__» slotArgs
 simp only [List.isEmpty_nil, Bool.not_true, Bool.false_eq_true, ↓reduceIte, bind_assoc, List.length_nil, bne_self_eq_false]
 refine wpAny_bind (wpAny_pure ?_)
 dsimp only
 refine wpAny_bind (wpAny_fieldsOf gI dI ?_)
 dsimp only
 refine wpAny_bind (wpAny_setEntries_of ho hd hf ?_)
 rw [if_neg (show ¬ ((((es.size : Nat) : Int) != ((es.size : Nat) : Int)) = true) by simp)]
 refine wpAny_bind (wpAny_seqItems gT dT ?_)
 have look : (ps.map fun (i : Nat) => rawInt i).toArray[(↑i : Int).toNat]? = some (.int p 0) := by
  simp [hp, rawInt]
 dsimp only
 rw [look]
 dsimp only
 unfold setNextDrawn
 refine wpAny_bind (wpAny_bind (wpAny_setState_of ho hd hf ?_))
 dsimp only
 rw [if_neg (show ¬ ((ep != (↑ep : Int).toNat) = true) by simp)]
 have look2 : es[(↑p : Int).toNat]? = some e := by simpa using he
 rw [look2]
 dsimp only
 refine wpAny_pure ?_
 refine wpAny_bind (wpAny_setField gI dI (by simp) (wpAny_pure ⟨e.2, rfl, wpAny_pure (h _ ?_ (Heap.SameBut.update ..))⟩))
 refine ⟨_, Heap.get?_update_self _ gI (Obj.isFreed_of_fields (Obj.data_mapFields dI _)), (Obj.cls_mapFields ..).trans cI, ?_⟩
 rw [Obj.data_mapFields dI]
 simp [rawInt]
end
end PySem
end
section
namespace PySem
open PyProof.Rows (StrsAre)
section
variable {prog : Program} {w : World} {A : Around} {E : Value → Shared → Prop} {s : Shared}
theorem z4o {I T a : Addr} {i : Nat} {o oT : Obj} {es : Array (Int × Value)} {ep : Nat} {t : SetTable} {ps : List Nat} {nT : Nat} {Q : Option Value → Shared → Prop}
  (hh : A.handled = none) (ho : s.heap.get? a = some o) (hd : o.data = .set es ep t) (hf : t.fits es.size = true)
  (hi : SetIterAt s.heap I (.ref T) i a es.size ep) (gT : s.heap.get? T = some oT) (dT : oT.data = .seq (ps.map fun (i : Nat) => rawInt i).toArray nT)
  (hp : ps[i]? = none) (h : ∀ h', Heap.ExtBut I s.heap h' → Q none { s with heap := h' }) :
  wpAny (model prog w) A (pyNext (.ref I)) Q E s := by
 obtain ⟨oI, gI, cI, dI⟩ := hi
 have ty : s.TypeIs (.ref I) "set_iterator" := ⟨oI, gI, cI⟩
 unfold pyNext
 refine wpAny_bind (wpAny_attempt (wpAny_callSpecial?_slot (name := Str.ofString "__next__") ty slot_setNext
  (wpAny_call_entry slot_setNext ty z1z ?_ (z28 _))))
 unfold Builtin.«set_iterator.__next__» slotArgs
 simp only [List.isEmpty_nil, Bool.not_true, Bool.false_eq_true, ↓reduceIte, bind_assoc, List.length_nil, bne_self_eq_false]
 refine wpAny_bind (wpAny_pure ?_)
 dsimp only
 refine wpAny_bind (wpAny_fieldsOf gI dI ?_)
 dsimp only
 refine wpAny_bind (wpAny_setEntries_of ho hd hf ?_)
 rw [if_neg (show ¬ ((((es.size : Nat) : Int) != ((es.size : Nat) : Int)) = true) by simp)]
 refine wpAny_bind (wpAny_seqItems gT dT ?_)
 have look : (ps.map fun (i : Nat) => rawInt i).toArray[(↑i : Int).toNat]? = none := by
  simp at hp; simp [hp]
 dsimp only
 rw [look]
 dsimp only
 refine wpAny_bind (wpAny_setField gI dI (by simp) ?_)
 have g2 := Heap.get?_update_self (Obj.mapFields (·.setIfInBounds 0 (rawInt 0))) gI (Obj.isFreed_of_fields (Obj.data_mapFields dI _))
 refine wpAny_bind (wpAny_setField g2 (Obj.data_mapFields dI _) (by simp) ?_)
 refine wpAny_bind ?_
 simp only [newExc, newTuple]
 refine wpAny_bind (wpAny_newObj_type ?_ (by size_fits))
 refine wpAny_bind (m := firstArgMember _ _) (wpAny_of_eq (a := Value.none) (by simp only [firstArgMember]; rfl) ?_)
 refine wpAny_newObj_type ?_ (by size_fits)
 simp only [raiseNew]
 refine wpAny_bind (wpAny_handled ?_)
 rw [show A.in1.handled = none from hh]
 refine wpAny_bind (wpAny_pure (wpAny_throw ?_))
 refine wpAny_bind (wpAny_isInstance (T := "StopIteration") (b := true) ⟨_, Heap.get?_push_size _ rfl, rfl⟩ isSubtype_stop ?_)
 exact wpAny_pure (h _ ((((Heap.SameBut.update ..).trans (Heap.SameBut.update ..)).extBut.push _).push _))
theorem z40 {a : Addr} {o : Obj} {es : Array (Int × Value)} {ep : Nat} {t : SetTable} {slot i : Nat} {Q : Option (Value × Nat) → Shared → Prop}
  (hw : w.params.followText "set-order" = true) (ho : s.heap.get? a = some o) (hd : o.data = .set es ep t) (hf : t.fits es.size = true)
  (h : Q (((pickOrder (w.params.setOrder a ep) es)[i]?).map fun e => (e.2, slot)) s) : wpAny (model prog w) A (setNext a slot i ep) Q E s := by
 unfold setNext
 refine wpAny_bind (wpAny_setState_of ho hd hf ?_)
 dsimp only
 refine wpAny_bind (z1p ?_)
 rw [hw]
 simp only [↓reduceIte, bne_self_eq_false, Bool.false_eq_true]
 unfold setWalk
 refine wpAny_bind (wpAny_bind (wpAny_setState_of ho hd hf ?_))
 dsimp only
 refine wpAny_bind (z1p ?_)
 rw [hw]
 simp only [↓reduceIte]
 refine wpAny_bind (wpAny_askSetting (wpAny_pure ?_))
 exact wpAny_pure h
end
end PySem
end
section
namespace PySem
open PyProof.Rows (StrsAre)
section
variable {prog : Program} {w : World} {A : Around} {E : Value → Shared → Prop} {s : Shared}
theorem z41 {I a : Addr} {slot i next : Nat} {x : Value} {o : Obj} {es : Array (Int × Value)} {ep : Nat} {t : SetTable} {Q : Option Value → Shared → Prop}
  (ho : s.heap.get? a = some o) (hd : o.data = .set es ep t) (hf : t.fits es.size = true)
  (hi : SetIterAt s.heap I (.int slot 0) i a es.size ep)
  (hs : ∀ (A : Around) (E : Value → Shared → Prop) (Q : Option (Value × Nat) → Shared → Prop), Q (some (x, next)) s → wpAny (model prog w) A (setNext a slot i ep) Q E s)
  (h : ∀ h', SetIterAt h' I (.int next 0) (i + 1) a es.size ep → Heap.SameBut I s.heap h' → Q (some x) { s with heap := h' }) :
  wpAny (model prog w) A (pyNext (.ref I)) Q E s := by
 obtain ⟨oI, gI, cI, dI⟩ := hi
 have ty : s.TypeIs (.ref I) "set_iterator" := ⟨oI, gI, cI⟩
 unfold pyNext
 refine wpAny_bind (wpAny_attempt (wpAny_callSpecial?_slot (name := Str.ofString "__next__") ty slot_setNext
  (wpAny_call_entry slot_setNext ty z1z ?_ (z28 _))))
 unfold Builtin.«set_iterator.__next__» slotArgs
 simp only [List.isEmpty_nil, Bool.not_true, Bool.false_eq_true, ↓reduceIte, bind_assoc, List.length_nil, bne_self_eq_false]
 refine wpAny_bind (wpAny_pure ?_)
 dsimp only
 refine wpAny_bind (wpAny_fieldsOf gI dI ?_)
 dsimp only
 refine wpAny_bind (wpAny_setEntries_of ho hd hf ?_)
 rw [if_neg (show ¬ ((((es.size : Nat) : Int) != ((es.size : Nat) : Int)) = true) by simp)]
 simp only [Int.toNat_natCast]
 refine wpAny_bind (hs _ _ _ ?_)
 dsimp only
 refine wpAny_bind (wpAny_setField gI dI (by simp) ?_)
 have d2 := Obj.data_mapFields dI (·.setIfInBounds 0 (rawInt next))
 have g2 := Heap.get?_update_self (Obj.mapFields (·.setIfInBounds 0 (rawInt next))) gI (Obj.isFreed_of_fields d2)
 refine wpAny_bind (wpAny_setField g2 d2 (by simp) (wpAny_pure ⟨x, rfl, wpAny_pure (h _ ?_ ((Heap.SameBut.update ..).trans (Heap.SameBut.update ..)))⟩))
 refine ⟨_, Heap.get?_update_self _ g2 (Obj.isFreed_of_fields (Obj.data_mapFields d2 _)), ?_, ?_⟩
 ·exact (Obj.cls_mapFields ..).trans ((Obj.cls_mapFields ..).trans cI)
 ·rw [Obj.data_mapFields d2]
  simp [rawInt]
theorem z31 {I a : Addr} {slot i : Nat} {o : Obj} {es : Array (Int × Value)} {ep : Nat} {t : SetTable} {Q : Option Value → Shared → Prop}
  (hh : A.handled = none) (ho : s.heap.get? a = some o) (hd : o.data = .set es ep t) (hf : t.fits es.size = true)
  (hi : SetIterAt s.heap I (.int slot 0) i a es.size ep)
  (hs : ∀ (A : Around) (E : Value → Shared → Prop) (Q : Option (Value × Nat) → Shared → Prop), Q none s → wpAny (model prog w) A (setNext a slot i ep) Q E s)
  (h : ∀ h', Heap.ExtBut I s.heap h' → Q none { s with heap := h' }) :
  wpAny (model prog w) A (pyNext (.ref I)) Q E s := by
 obtain ⟨oI, gI, cI, dI⟩ := hi
 have ty : s.TypeIs (.ref I) "set_iterator" := ⟨oI, gI, cI⟩
 unfold pyNext
 refine wpAny_bind (wpAny_attempt (wpAny_callSpecial?_slot (name := Str.ofString "__next__") ty slot_setNext
  (wpAny_call_entry slot_setNext ty z1z ?_ (z28 _))))
 unfold Builtin.«set_iterator.__next__» slotArgs
 simp only [List.isEmpty_nil, Bool.not_true, Bool.false_eq_true, ↓reduceIte, bind_assoc, List.length_nil, bne_self_eq_false]
 refine wpAny_bind (wpAny_pure ?_)
 dsimp only
 refine wpAny_bind (wpAny_fieldsOf gI dI ?_)
 dsimp only
 refine wpAny_bind (wpAny_setEntries_of ho hd hf ?_)
 rw [if_neg (show ¬ ((((es.size : Nat) : Int) != ((es.size : Nat) : Int)) = true) by simp)]
 simp only [Int.toNat_natCast]
 refine wpAny_bind (hs _ _ _ ?_)
 dsimp only
 refine wpAny_bind (wpAny_setField gI dI (by simp) ?_)
 refine wpAny_bind ?_
 simp only [newExc, newTuple]
 refine wpAny_bind (wpAny_newObj_type ?_ (by size_fits))
 refine wpAny_bind (m := firstArgMember _ _) (wpAny_of_eq (a := Value.none) (by simp only [firstArgMember]; rfl) ?_)
 refine wpAny_newObj_type ?_ (by size_fits)
 simp only [raiseNew]
 refine wpAny_bind (wpAny_handled ?_)
 rw [show A.in1.handled = none from hh]
 refine wpAny_bind (wpAny_pure (wpAny_throw ?_))
 refine wpAny_bind (wpAny_isInstance (T := "StopIteration") (b := true) ⟨_, Heap.get?_push_size _ rfl, rfl⟩ isSubtype_stop ?_)
 exact wpAny_pure (h _ (((Heap.SameBut.update ..).extBut.push _).push _))
end
end PySem
end
section
namespace PySem
open PyProof.Rows (StrsAre)
theorem z4p : entryFor table "set_iterator.__iter__" = some Builtin.«dict_keyiterator.__iter__» :=
 entryFor_alias (id' := "dict_keyiterator.__iter__") (by kernel_rfl) rfl (by decide +kernel) (by kernel_rfl)
theorem z4z (v : Value) : argsOk "set_iterator.__iter__" ⟨[v], []⟩ := by unfold argsOk; kernel_rfl
section
variable {prog : Program} {w : World} {A : Around} {E : Value → Shared → Prop} {s : Shared}
theorem z32 {I a : Addr} {first : Value} {i n ep : Nat} {Q : Value → Shared → Prop} (hi : SetIterAt s.heap I first i a n ep)
  (h : Q (.ref I) s) : wpAny (model prog w) A (pyIter (.ref I)) Q E s := by
 obtain ⟨o, g, c, d⟩ := hi
 have ty : s.TypeIs (.ref I) "set_iterator" := ⟨o, g, c⟩
 refine wpAny_pyIter_slot ty z30 (wpAny_call_entry z30 ty z4p ?_ (z4z _))
 show wpAny _ _ (ret (.ref I)) _ _ s
 exact wpAny_pure ⟨_, rfl, "set_iterator", _, ty, slot_setNext.lookup, h⟩
theorem SetIterAt.keep {h h' : Heap} {I a : Addr} {first : Value} {i n ep : Nat} (t : SetIterAt h I first i a n ep)
  (e : ∀ o, h.get? I = some o → h'.get? I = some o) : SetIterAt h' I first i a n ep := by
 obtain ⟨o, g, r⟩ := t
 exact ⟨o, e o g, r⟩
theorem z7v (hh : A.handled = none) {I T a : Addr} {o oT : Obj} {es : Array (Int × Value)} {ep : Nat} {t : SetTable} {ps : List Nat} {nT : Nat}
  (hd : o.data = .set es ep t) (hf : t.fits es.size = true) (dT : oT.data = .seq (ps.map fun (i : Nat) => rawInt i).toArray nT)
  (hI : a ≠ I) (hT : T ≠ I) (pr : ps.Perm (List.range es.size)) :
  WalksS prog w A I [I, a, T] [I] (fun x y => x = y) es.size (fun i v => ∃ p e, ps[i]? = some p ∧ es[p]? = some e ∧ v = e.2)
   (fun i s => SetIterAt s.heap I (.ref T) i a es.size ep ∧ s.heap.get? a = some o ∧ s.heap.get? T = some oT) where
 sub := fun b hb => by simp at hb; simp [hb]
 grefl := fun _ => rfl
 gtrans := fun _ _ _ p q => p.trans q
 frame := fun i s h' tk st _ k => ⟨st.1.keep (k I (by simp)), k a (by simp) _ st.2.1, k T (by simp) _ st.2.2⟩
 item := fun i s Q E lt st hQ => by
  have len : ps.length = es.size := by simpa using pr.length_eq
  have hp : ps[i]? = some ps[i] := List.getElem?_eq_getElem (by omega)
  have mem : ps[i] < es.size := List.mem_range.mp (pr.mem_iff.mp (List.getElem_mem _))
  have he : es[ps[i]]? = some es[ps[i]] := Array.getElem?_eq_getElem mem
  refine z6l st.2.1 hd hf st.1 st.2.2 dT hp he fun h' si sb => ?_
  refine hQ _ _ ⟨_, _, hp, he, rfl⟩ ⟨si, ?_, ?_⟩ ⟨fun b o' hb e => ?_, rfl, rfl, rfl, Nat.le_refl _⟩
  ·exact (sb.2 a hI).trans st.2.1
  ·exact (sb.2 T hT).trans st.2.2
  ·exact (sb.2 b (by simpa using hb)).trans e
 done := fun s Q E st hQ => by
  have len : ps.length = es.size := by simpa using pr.length_eq
  refine z4o hh st.2.1 hd hf st.1 st.2.2 dT (List.getElem?_eq_none (by omega)) fun h' xb => ?_
  exact hQ _ ⟨fun b o' hb e => xb b o' (by simpa using hb) e, rfl, rfl, rfl, Nat.le_refl _⟩
 self := fun i s Q E st h => z32 st.1 h
theorem z98 (hh : A.handled = none) (hw : w.params.followText "set-order" = true) {I a : Addr} {o : Obj} {es : Array (Int × Value)} {ep : Nat} {t : SetTable}
  (hd : o.data = .set es ep t) (hf : t.fits es.size = true) (hI : a ≠ I) :
  WalksS prog w A I [I, a] [I] (fun x y => x = y) es.size (fun i v => ∃ e, (pickOrder (w.params.setOrder a ep) es)[i]? = some e ∧ v = e.2)
   (fun i s => SetIterAt s.heap I (.int (0 : Nat) 0) i a es.size ep ∧ s.heap.get? a = some o) where
 sub := fun b hb => by simp at hb; simp [hb]
 grefl := fun _ => rfl
 gtrans := fun _ _ _ p q => p.trans q
 frame := fun i s h' tk st _ k => ⟨st.1.keep (k I (by simp)), k a (by simp) _ st.2⟩
 item := fun i s Q E lt st hQ => by
  have len : (pickOrder (w.params.setOrder a ep) es).size = es.size := by
   rw [← Array.length_toList, (z2d _ _).length_eq, Array.length_toList]
  have he : (pickOrder (w.params.setOrder a ep) es)[i]? = some (pickOrder (w.params.setOrder a ep) es)[i] := Array.getElem?_eq_getElem (by omega)
  refine z41 (next := 0) (x := (pickOrder (w.params.setOrder a ep) es)[i].2) st.2 hd hf st.1 (fun A' E' Q' q => z40 hw st.2 hd hf (by rw [he]; exact q)) fun h' si sb => ?_
  refine hQ _ _ ⟨_, he, rfl⟩ ⟨si, (sb.2 a hI).trans st.2⟩ ⟨fun b o' hb e => ?_, rfl, rfl, rfl, Nat.le_refl _⟩
  exact (sb.2 b (by simpa using hb)).trans e
 done := fun s Q E st hQ => by
  have len : (pickOrder (w.params.setOrder a ep) es).size = es.size := by
   rw [← Array.length_toList, (z2d _ _).length_eq, Array.length_toList]
  have he : (pickOrder (w.params.setOrder a ep) es)[es.size]? = none := Array.getElem?_eq_none (by omega)
  refine z31 hh st.2 hd hf st.1 (fun A' E' Q' q => z40 hw st.2 hd hf (by rw [he]; exact q)) fun h' xb => ?_
  exact hQ _ ⟨fun b o' hb e => xb b o' (by simpa using hb) e, rfl, rfl, rfl, Nat.le_refl _⟩
 self := fun i s Q E st h => z32 st.1 h
end
end PySem
end
section
namespace PySem
open PyProof.Rows (StrsAre)
section
variable {prog : Program} {w : World} {A : Around} {E : Value → Shared → Prop} {s : Shared}
theorem z5g {t : SetTable} {n : Nat} (h : t.fits n = true) : t.place.size = n := by
 unfold SetTable.fits at h
 simp only [Bool.and_eq_true, beq_iff_eq] at h
 exact h.1
end
end PySem
end
section
namespace PySem
open PyProof.Rows (StrsAre)
section
variable {prog : Program} {w : World} {A : Around} {E : Value → Shared → Prop} {s : Shared}
theorem zal {a : Addr} {Q : Bool → Shared → Prop} (ty : s.TypeIs (.ref a) "set") (h : Q false s) :
  wpAny (model prog w) A (Builtin.List.listLengthHint (.ref a)) Q E s := by
 unfold Builtin.List.listLengthHint
 refine wpAny_bind (wpAny_specialOf ty F.slot_set_len.lookup ?_)
 generalize e : ("set.__len__" : String) = id
 wp_delta
 have sp : splitId id = some ("set", "__len__") := by subst e; decide +kernel
 rw [sp]
 subst e
 refine wpAny_bind (wpAny_isInstance (b := true) ty sub_set_self ?_)
 refine wpAny_ite_split (fun z => absurd z (by decide)) (fun _ => ?_)
 refine wpAny_ite_split (fun _ => ?_) (fun z => absurd (by decide +kernel) z)
 exact wpAny_bind (wpAny_typeOf ty (wpAny_pure h))
theorem z29 {R : Result → Shared → Prop} {a I S : Addr} {fp : List Addr} {n c : Nat} {P : Nat → Value → Prop} {St : Nat → Shared → Prop} {res : Value} {b : Bool}
  (W : WalksS prog w A.in1 I fp [I] (fun x y => x = y) n P St) (hn : n ≤ sizeLine) (hS : S ∉ fp) (st : St 0 s)
  (gS : s.heap.get? S = some { cls := .type "list", data := .seq #[] c }) (ty : s.TypeIs (.ref a) "set")
  (hR : ∀ s' acc c', Moved (S :: [I]) (fun x y => x = y) s s' → s'.heap.get? S = some { cls := .type "list", dict := none, data := .seq acc c', slots := #[] } → ItemsOf P acc n → R (.ok (.ret res)) s') :
  wpAny (model prog w) A.in1 (do
   let room ← holding [.ref I] (Builtin.List.listLengthHint (.ref a))
   if (room || b) = true then do
    rule "list.extend.makes-room"
    Builtin.List.listTouch (.ref S)
    again (.builtin "list.extend.loop" ⟨[.ref S, .ref I, res], []⟩)
   else again (.builtin "list.extend.loop" ⟨[.ref S, .ref I, res], []⟩))
   (fun fin s' => match fin with | .done f => R (.ok f) s' | .again c' => c'.quiet = true ∧ codeAny (model prog w) A c' R s') (fun e s' => R (.error e) s') s := by
 refine wpAny_bind (wpAny_holding (zal ty ?_))
 refine wpAny_ite_split (fun _ => ?_) (fun _ => wpAny_pure ⟨plainId_quiet F.plain_extend_loop _, codeAny_extend_loopS W hn S hS res n 0 _ #[] c rfl (Nat.zero_le _) st gS (ItemsOf.nil _) hR⟩)
 refine wpAny_bind (wpAny_rule ?_)
 refine wpAny_bind ?_
 show wpAny _ _ (updateSeq S (·.push .none) >>= fun _ => updateSeq S (·.pop)) _ _ _
 refine wpAny_bind (wpAny_updateSeq gS rfl ?_)
 have g2 := Heap.get?_update_self (Obj.mapSeq (·.push Value.none)) gS rfl
 refine wpAny_updateSeq (hz := by seq_fits) g2 rfl ?_
 have g3 := Heap.get?_update_self (Obj.mapSeq (·.pop)) g2 rfl
 have oth : ∀ q o, q ≠ S → s.heap.get? q = some o → ((s.heap.update S (Obj.mapSeq (·.push Value.none))).update S (Obj.mapSeq (·.pop))).get? q = some o :=
  fun q o hq e => (Heap.get?_update_other _ _ (Ne.symm hq)).trans ((Heap.get?_update_other _ _ (Ne.symm hq)).trans e)
 refine wpAny_pure ⟨plainId_quiet F.plain_extend_loop _, codeAny_extend_loopS W hn S hS res n 0 _ _ _ rfl (Nat.zero_le _) ?_ g3 (ItemsOf.nil _) fun s' acc c' mv g ii => ?_⟩
 ·exact W.frame 0 s _ s.toks st (Nat.le_refl _) fun q hq o e => oth q o (fun z => hS (z ▸ hq)) e
 ·refine hR s' acc c' (Moved.trans W.gtrans ((Moved.refl W.grefl).then_heap (Nat.le_refl _) fun q o hq e => ?_) mv) g ii
  exact oth q o (fun z => hq (z ▸ .head _)) e
end
end PySem
end
section
namespace PySem
open PyProof.Rows (StrsAre)
theorem z4u {α : Type} [BEq α] [LawfulBEq α] : ∀ (D ks : List α), D.Nodup → (∀ x ∈ D, x ∈ ks) → ks.length = D.length → ks.Perm D
 | [], ks, _, _, h => by rw [List.length_eq_zero_iff.mp h]
 | x :: D, ks, nd, sub, h => by
  have xin := sub x (.head _)
  have pe := List.perm_cons_erase xin
  refine pe.trans ((z4u D (ks.erase x) (List.nodup_cons.mp nd).2 (fun y hy => ?_) ?_).cons x)
  ·have ne : y ≠ x := fun e => (List.nodup_cons.mp nd).1 (e ▸ hy)
   exact (List.mem_erase_of_ne ne).mpr (sub y (.tail _ hy))
  ·have := pe.length_eq
   simp only [List.length_cons] at this h
   omega
theorem za2 {P : Nat → Value → Prop} {L : List (Int × Value)} {acc : Array Value} (h : ItemsOf P acc L.length)
  (hP : ∀ i v, P i v → ∃ e, L[i]? = some e ∧ v = e.2) : acc.toList = L.map (·.2) := by
 apply List.ext_getElem?
 intro i
 by_cases lt : i < L.length
 ·have lt' : i < acc.size := by rw [h.1]; exact lt
  obtain ⟨e, he, hv⟩ := hP i acc[i] (h.2 i acc[i] (Array.getElem?_eq_getElem lt'))
  rw [Array.getElem?_toList, Array.getElem?_eq_getElem lt', List.getElem?_map, he, hv]
  rfl
 ·rw [List.getElem?_eq_none (by rw [Array.length_toList, h.1]; omega), List.getElem?_eq_none (by rw [List.length_map]; omega)]
section
variable {prog : Program} {w : World} {A : Around} {E : Value → Shared → Prop} {s : Shared}
end
end PySem
end
section
namespace PySem
open PyProof.Rows (StrsAre)
section
variable {prog : Program} {w : World} {A : Around} {E : Value → Shared → Prop} {s : Shared}
end
end PySem
end
section
namespace PySem
open PyProof.Rows
section
variable {prog : Program} {w : World} {A : Around} {E : Value → Shared → Prop} {s : Shared}
end
end PySem
end
section
namespace L2
open PySem PySem.Spec PyProof.Rows
theorem z7w {P : Program} {w : World} {H : Hp} {h : Heap} {a : Addr} {o : HO} (x : ObjOk P w H h a o) : ∃ u, h.get? a = some u := by
 cases o with
 | lst xs => obtain ⟨_, _, _, _, e⟩ := x; exact ⟨_, e⟩
 | tup xs => obtain ⟨_, _, _, _, e, _⟩ := x; exact ⟨_, e⟩
 | dK kvs => obtain ⟨_, _, _, _, _, _, _, e, _⟩ := x; exact ⟨_, e⟩
 | dT kvs => obtain ⟨_, _, _, _, _, _, _, e, _⟩ := x; exact ⟨_, e⟩
 | set S n => obtain ⟨_, _, _, _, e, _⟩ := x; exact ⟨_, e⟩
 | ins C dx fs => obtain ⟨_, _, _, e, _⟩ := x; exact ⟨_, e⟩
 | own y => obtain ⟨_, e⟩ := x; exact ⟨_, e⟩
 | xd fs => obtain ⟨_, ⟨_, _, _, e, _⟩, _⟩ := x; exact ⟨_, e⟩
 | rng lo hi => obtain ⟨_, _, _, e⟩ := x; exact ⟨_, e⟩
 | frz ob u => obtain ⟨e, _⟩ := x; exact ⟨_, e⟩
 | tbl ps => exact ⟨_, show h.get? a = some _ from x⟩
 | met f y => exact ⟨_, show h.get? a = some _ from x⟩
 | ext φ => obtain ⟨_, ⟨_, e⟩, _⟩ := x; exact ⟨_, e⟩
section
variable {X : Cx}
end
end L2
end
section
namespace L2
open PySem PySem.Spec PyProof.Rows
section
variable {X : Cx}
end
section
variable {X : Cx}
end
end L2
end
section
namespace L2
open PySem PySem.Spec PyProof.Rows
section
variable {X : Cx}
end
end L2
end
section
namespace L2
open PySem PySem.Spec PyProof.Rows
section
variable {X : Cx}
end
end L2
end
section
namespace L2
open PySem PySem.Spec PyProof.Rows
section
variable {X : Cx}
end
end L2
end
section
namespace L2
open PySem PySem.Spec PyProof.Rows
theorem MHas.never {P : Program} {w : World} {K : PySem.W.Frag} {mg : Str → Option Value} {base : Heap} {k : Nat} {C : Addr} {m : Str} {ps : List Str} {sp : Sp} (G : MHas P w K mg base (CX1 P w) k C m ps sp) : MHas P w K mg base CX0 k C m ps (fun vs H Q _ => sp vs H Q E0) := by
 obtain ⟨f, fd, F, hm, hb⟩ := G
 refine ⟨f, fd, ⟨fun vs H Q E h => F.len vs H Q E0 h, fun A outer s H args us vs Q E hr he hb hv hs => codeAny_mono (F.run A outer s H args us vs Q E0 hr he hb hv hs) fun r s' h => ?_⟩, hm, hb⟩
 cases r with
 | error e =>
  obtain ⟨_, _, _, _, _, _, _, _, _, _, _, _, _, z⟩ := h
  exact z
 | ok fl => cases fl <;> exact h
section
variable {X : Cx}
theorem PS.nox {st : Stmt} {t : TS} (h : PS X.nox st t) : PS X st t := fun pins s σ H D I hw =>
 wpAny_mono (h pins s σ H D (I.wish _) hw) (fun _ _ q => q.unwish) fun _ _ z => False.elim z
end
end L2
end
section
namespace L2
open PySem PySem.Spec PyProof.Rows
section
variable {X : Cx}
theorem Inv.gone {pins : List (Addr × Obj)} {σ : St} {H : Hp} {s : Shared} {h' : Heap} {m : Str → Option Value} {u0 : Option Value} {t' i : Nat} {n : Str} (I : Inv X pins σ H s) (hN : X.N.Nodup) (hi : X.N[i]? = some n) (h0 : s.heap.Ns X.env.locals m)
  (hm : ∀ (i : Nat) (x : Str) (v : V), X.N[i]? = some x → σ[i]? = some (some v) → Vis X.env.scope x → ∃ u, RelV v u ∧ Look X.env s.heap m x u)
  (hn : h'.Ns X.env.locals (fun x => if x = n then u0 else m x)) (hs : Heap.SameBut X.env.locals s.heap h') :
  Inv X pins (σ.set i none) H { s with heap := h', toks := t' } := by
 have old : ∀ b o, X.s₀.heap.get? b = some o → b ≠ X.env.locals := fun b o e => Nat.ne_of_lt (Nat.lt_of_lt_of_le (Heap.lt_size e) I.ok.above)
 refine ⟨I.ok, I.os, I.bare, ⟨fun b o e n hb hx => ?_, fun b o e n hb hx => ?_, I.base.free, fun b o e hx => ?_, I.base.tups, I.base.frzs, I.base.tbls⟩, ⟨_, hn, fun j y v e1 e2 vis => ?_⟩, fun y c e => ?_, I.free, I.freeC, fun p hp => ?_, fun b ob e => ?_, by rw [List.length_set]; exact I.len⟩
 ·rw [hs.2 b (old b o e)]
  exact I.base.keep b o e n hb hx
 ·obtain ⟨sl, q⟩ := I.base.slot b o e n hb hx
  exact ⟨sl, by rw [hs.2 b (old b o e)]; exact q⟩
 ·obtain ⟨o2, q⟩ := I.base.there b o e hx
  exact ⟨o2, by rw [hs.2 b (old b o e)]; exact q⟩
 ·by_cases hji : j = i
  ·subst hji
   rw [List.getElem?_set] at e2
   simp only [if_true] at e2
   split at e2
   ·cases e2
   ·cases e2
  ·rw [List.getElem?_set_ne (Ne.symm hji)] at e2
   have hyn : y ≠ n := fun z => by
    subst z
    have hjl := (List.getElem?_eq_some_iff.mp e1).1
    exact hji ((List.getElem?_inj hjl hN).mp (e1.trans hi.symm))
   obtain ⟨u, ru, lk⟩ := hm j y v e1 e2 vis
   refine ⟨u, ru, ?_⟩
   rcases lk with ⟨k1, k2⟩ | ⟨k1, c, k2, k3⟩
   ·exact .inl ⟨k1, by show (if y = n then u0 else m y) = some u; rw [if_neg hyn]; exact k2⟩
   ·exact .inr ⟨k1, c, k2, k3.sameBut hs (I.cne y c k2)⟩
 ·obtain ⟨u, z⟩ := I.cell y c e
  exact ⟨u, z.sameBut hs (I.cne y c e)⟩
 ·obtain ⟨a1, a2, a3, a4⟩ := I.pin p hp
  exact ⟨by rw [hs.2 p.1 a3]; exact a1, a2, a3, a4⟩
 ·have hf := I.free
  refine (I.hok b ob e).stay (fun c u hc q => ?_) (fun _ q => q) fun _ _ q => q
  have ne : c ≠ X.env.locals := by
   rintro rfl
   rcases hc with hc | hc
   ·rw [hc] at hf
    rw [hf] at e
    cases e
   ·rw [hf] at hc
    cases hc
  rw [hs.2 c ne]
  exact q
end
section
variable {X : Cx} {sc : Scope} {x y2 : Str} {cap : List Str} {js : List Nat} {tg elt iter : Expr} {ifs : List Expr} {g2 : TG} {tc : TT} {te : TE} {pos : Pos}
end
end L2
end
section
namespace L2
open PySem PySem.Spec PyProof.Rows
theorem z79 : ∀ {us : List Value} {ns : List Int}, IntsAre us ns → Vals (ns.map V.int) us
 | _, _, .nil => .nil
 | _, _, .cons y t r => .cons ⟨t, rfl⟩ (z79 r)
section
variable {X : Cx}
end
end L2
end
section
namespace PySem
open SetTable
def Rise (t : SetTable) : Prop := t.place.toList.Pairwise (· < ·) ∧ t.dummies = #[]
theorem z50 {xs : Array Nat} {j : Nat} (hr : xs.toList.Pairwise (· < ·)) : ∀ (fuel lo hi : Nat), lo ≤ hi → hi ≤ xs.size → hi - lo ≤ fuel → (∀ k, k < lo → xs.getD k j < j) → (∀ k, hi ≤ k → k < xs.size → j ≤ xs.getD k j) →
  below.go xs j fuel lo hi ≤ xs.size ∧ (∀ k, k < below.go xs j fuel lo hi → xs.getD k j < j) ∧ ∀ k, below.go xs j fuel lo hi ≤ k → k < xs.size → j ≤ xs.getD k j
 | 0, lo, hi, h1, h2, h3, h4, h5 => ⟨by show lo ≤ _; omega, h4, fun k hk hs => h5 k (by have : lo ≤ k := hk; omega) hs⟩
 | fuel + 1, lo, hi, h1, h2, h3, h4, h5 => by
  have up : ∀ a b, a < b → b < xs.size → xs.getD a j < xs.getD b j := fun a b hab hb => by
   have := List.pairwise_iff_getElem.mp hr a b (by simpa using (by omega : a < xs.size)) (by simpa using hb) hab
   simpa [Array.getD, hb, (by omega : a < xs.size)] using this
  unfold below.go
  by_cases c : lo < hi
  ·rw [if_pos c]
   dsimp only
   by_cases d : xs.getD ((lo + hi) / 2) j < j
   ·rw [if_pos d]
    refine z50 hr fuel _ hi (by omega) h2 (by omega) (fun k hk => ?_) h5
    by_cases e : k = (lo + hi) / 2
    ·rw [e]; exact d
    ·have := up k ((lo + hi) / 2) (by omega) (by omega)
     omega
   ·rw [if_neg d]
    refine z50 hr fuel lo _ (by omega) (by omega) (by omega) h4 (fun k hk hs => ?_)
    by_cases e : k = (lo + hi) / 2
    ·rw [e]; omega
    ·have := up ((lo + hi) / 2) k (by omega) hs
     omega
  ·rw [if_neg c]
   exact ⟨by omega, h4, fun k hk hs => h5 k (by omega) hs⟩
theorem z3r {xs : Array Nat} (j : Nat) (hr : xs.toList.Pairwise (· < ·)) : below xs j ≤ xs.size ∧ (∀ k, k < below xs j → xs.getD k j < j) ∧ ∀ k, below xs j ≤ k → k < xs.size → j ≤ xs.getD k j :=
 z50 hr _ 0 _ (Nat.zero_le _) (Nat.le_refl _) (by omega) (fun k hk => by omega) fun k hk hs => by omega
theorem Rise.up {t : SetTable} (h : Rise t) {a b : Nat} (hab : a < b) (hb : b < t.place.size) (d : Nat) : t.place.getD a d < t.place.getD b d := by
 have := List.pairwise_iff_getElem.mp h.1 a b (by simpa using (by omega : a < t.place.size)) (by simpa using hb) hab
 simpa [Array.getD, hb, (by omega : a < t.place.size)] using this
theorem Rise.free {t : SetTable} (h : Rise t) {j : Nat} (e : t.slot j = .empty) : j ∉ t.place.toList := fun hm => by
 obtain ⟨b1, b2, b3⟩ := z3r j h.1
 obtain ⟨k, hk, ek⟩ := List.getElem_of_mem hm
 have hk' : k < t.place.size := by simpa using hk
 have gk : t.place.getD k j = j := by simpa [Array.getD, hk'] using ek
 have k1 : below t.place j ≤ k := Nat.le_of_not_lt fun z => by have := b2 k z; omega
 have e2 : below t.place j = k := by
  by_cases z : below t.place j < k
  ·have := b3 (below t.place j) (Nat.le_refl _) (by omega)
   have := h.up z hk' j
   omega
  ·omega
 unfold SetTable.slot at e
 dsimp only at e
 rw [e2, Array.getElem?_eq_getElem hk'] at e
 have : t.place[k] = j := by simpa using ek
 rw [this] at e
 simp at e
theorem z7a (j : Nat) : has #[] j = false := by unfold has; simp
theorem z5h {t : SetTable} (h : Rise t) {f : Nat → Int} {hh : Int} : ∀ (fuel : Nat) (p : Probe), p.dummy = none → ∀ j d, probe.go t f hh fuel p = some (.empty j d) → t.slot j = .empty ∧ d = none
 | 0, p, hp, j, d, e => by unfold probe.go at e; cases e
 | fuel + 1, p, hp, j, d, e => by
  unfold probe.go at e
  have ad : ∀ q : Probe, (t.advance q).dummy = q.dummy := fun q => by unfold SetTable.advance; split <;> rfl
  cases es : t.slot p.j with
  | empty =>
   rw [es] at e
   dsimp only at e
   cases e
   exact ⟨es, hp⟩
  | dummy =>
   exfalso
   unfold SetTable.slot at es
   dsimp only at es
   rw [h.2, z7a] at es
   split at es <;> simp at es
  | live i =>
   rw [es] at e
   dsimp only at e
   split at e
   ·cases e
   ·exact z5h h fuel _ (by rw [ad]; exact hp) j d e
theorem Rise.put {t : SetTable} (h : Rise t) {j : Nat} (hj : j ∉ t.place.toList) : Rise (t.put j).1 := by
 obtain ⟨b1, b2, b3⟩ := z3r j h.1
 refine ⟨?_, ?_⟩
 ·show (insertAt t.place (below t.place j) j).toList.Pairwise (· < ·)
  have e : (insertAt t.place (below t.place j) j).toList = t.place.toList.take (below t.place j) ++ ([j] ++ t.place.toList.drop (below t.place j)) := by
   unfold insertAt
   simp
   exact List.take_of_length_le (by simp)
  rw [e]
  have hp := h.1
  rw [← List.take_append_drop (below t.place j) t.place.toList] at hp
  obtain ⟨p1, p2, p3⟩ := List.pairwise_append.mp hp
  have lo : ∀ a ∈ t.place.toList.take (below t.place j), a < j := fun a ha => by
   obtain ⟨k, hk, ek⟩ := List.getElem_of_mem ha
   rw [List.length_take] at hk
   have hk' : k < t.place.size := by have := Nat.min_le_right (below t.place j) t.place.toList.length; simp at this; simp at hk; omega
   have := b2 k (by omega)
   rw [List.getElem_take] at ek
   have e2 : t.place.getD k j = a := by simpa [Array.getD, hk'] using ek
   omega
  have hi : ∀ b ∈ t.place.toList.drop (below t.place j), j < b := fun b hb => by
   have hb' := List.mem_of_mem_drop hb
   obtain ⟨k, hk, ek⟩ := List.getElem_of_mem hb
   rw [List.length_drop] at hk
   rw [List.getElem_drop] at ek
   have hk' : below t.place j + k < t.place.size := by simp at hk; omega
   have := b3 (below t.place j + k) (by omega) hk'
   have e2 : t.place.getD (below t.place j + k) j = b := by simpa [Array.getD, hk'] using ek
   have ne : b ≠ j := fun z => hj (z ▸ hb')
   omega
  refine List.pairwise_append.mpr ⟨p1, List.pairwise_append.mpr ⟨List.pairwise_singleton _ _, p2, fun a ha b hb => ?_⟩, fun a ha b hb => ?_⟩
  ·rw [List.mem_singleton.mp ha]; exact hi b hb
  ·rcases List.mem_append.mp hb with hb | hb
   ·rw [List.mem_singleton.mp hb]; exact lo a ha
   ·exact p3 a ha b hb
 ·show (if has t.dummies j = true then _ else t.dummies) = #[]
  rw [h.2, z7a, if_neg Bool.false_ne_true]
theorem Rise.standIn (t : SetTable) (n : Nat) : Rise (t.standIn n) := ⟨by show (Array.range n).toList.Pairwise _; rw [Array.toList_range]; exact List.pairwise_lt_range, rfl⟩
theorem Rise.orStandIn {t : SetTable} (h : Rise t) (n : Nat) : Rise (t.orStandIn n) := by
 unfold SetTable.orStandIn
 split
 ·exact h
 ·exact Rise.standIn t n
theorem Rise.layNew {t : SetTable} (h : Rise t) (es : Array (Int × Value)) (hh : Int) (x : Value) : Rise (layNew t es hh x).2.1 := by
 unfold PySem.layNew
 cases e : t.freeSlot hh with
 | none => exact Rise.standIn t _
 | some r =>
  obtain ⟨sl, wd⟩ := r
  refine Rise.orStandIn (h.put ?_) _
  unfold SetTable.freeSlot at e
  split at e
  ·rename_i j d ep
   obtain ⟨f1, rfl⟩ := z5h h _ _ rfl j d ep
   simp at e
   rw [← e.1]
   exact h.free f1
  ·cases e
theorem Rise.laid {mask finger moves : Nat} {led plain : Bool} {hs : Array Int} {r : SetTable × Array Nat} (e : SetTable.laid mask finger moves led plain hs = some r) : Rise r.1 := by
 unfold SetTable.laid at e
 simp only [Option.bind_eq_bind, Option.bind_eq_some_iff, Option.some.injEq, Option.pure_def] at e
 obtain ⟨o, _, rfl⟩ := e
 refine ⟨?_, rfl⟩
 dsimp only
 rw [List.pairwise_map]
 refine List.Pairwise.filterMap (fun j => (o.getD j none).map (j, ·)) (R := fun a b : Nat => a < b) (fun a a' haa b hb b' hb' => ?_) List.pairwise_lt_range
 simp only [Option.mem_def, Option.map_eq_some_iff] at hb hb'
 obtain ⟨_, _, rfl⟩ := hb
 obtain ⟨_, _, rfl⟩ := hb'
 exact haa
theorem Rise.relayAll (t : SetTable) (es : Array (Int × Value)) (n : Nat) : Rise (relayAll t es n).2.1 := by
 unfold PySem.relayAll
 split
 ·rename_i e
  dsimp only
  split
  ·unfold SetTable.relaid at e
   exact Rise.laid e
  ·exact Rise.standIn _ _
 ·exact Rise.standIn _ _
def z19 (t : SetTable) (i : Nat) : Nat := if i = 0 then 0 else t.place.getD (i - 1) 0 + 1
theorem z42 {t : SetTable} (h : Rise t) {i : Nat} (hi : i ≤ t.place.size) : below t.place (z19 t i) = i := by
 obtain ⟨b1, b2, b3⟩ := z3r (z19 t i) h.1
 have gd : ∀ k d d', k < t.place.size → t.place.getD k d = t.place.getD k d' := fun k d d' hk => by simp [Array.getD, hk]
 have hlt : ∀ k, k < i → t.place.getD k (z19 t i) < z19 t i := fun k hk => by
  unfold z19
  rw [if_neg (by omega), gd k _ 0 (by omega)]
  by_cases e : k = i - 1
  ·rw [e]; omega
  ·have := h.up (a := k) (b := i - 1) (by omega) (by omega) 0
   omega
 have hge : ∀ k, i ≤ k → k < t.place.size → z19 t i ≤ t.place.getD k (z19 t i) := fun k hk hs => by
  rw [gd k _ 0 hs]
  unfold z19
  by_cases e : i = 0
  ·rw [if_pos e]; omega
  ·rw [if_neg e]
   have := h.up (a := i - 1) (b := k) (by omega) hs 0
   omega
 apply Nat.le_antisymm
 ·refine Nat.le_of_not_lt fun z => ?_
  have := b2 i z
  have := hge i (Nat.le_refl _) (by omega)
  omega
 ·refine Nat.le_of_not_lt fun z => ?_
  have := b3 (below t.place (z19 t i)) (Nat.le_refl _) (by omega)
  have := hlt (below t.place (z19 t i)) z
  omega
end PySem
end
section
namespace PySem
section
variable {κ : Type} [DecidableEq κ]
def z1k (D : List κ) (v : κ) : List κ := if v ∈ D then D else D ++ [v]
def gAll (ss : List κ) : List κ := ss.foldl z1k []
theorem z6d (D : List κ) (v k : κ) : k ∈ z1k D v ↔ k ∈ D ∨ k = v := by
 unfold z1k; split
 ·rename_i h
  exact ⟨.inl, fun o => o.elim id fun e => e ▸ h⟩
 ·simp
theorem z7x {D : List κ} (h : D.Nodup) (v : κ) : (z1k D v).Nodup := by
 unfold z1k; split
 ·exact h
 ·rename_i hv
  refine List.nodup_append.mpr ⟨h, by simp, ?_⟩
  intro a ha b hb e
  simp at hb; subst hb; subst e; exact hv ha
theorem z6e : ∀ (ss D : List κ) (k : κ), k ∈ ss.foldl z1k D ↔ k ∈ D ∨ k ∈ ss
 | [], D, k => by simp
 | v :: ss, D, k => by
  rw [List.foldl_cons, z6e ss, z6d]; simp [or_assoc]
theorem z4v : ∀ (ss D : List κ), D.Nodup → (ss.foldl z1k D).Nodup
 | [], D, h => h
 | v :: ss, D, h => z4v ss _ (z7x h v)
theorem zam (ss : List κ) (k : κ) : k ∈ gAll ss ↔ k ∈ ss := by
 rw [gAll, z6e]; simp
theorem z5i (ss : List κ) : (gAll ss).Nodup := z4v ss [] .nil
theorem z7b (D : List κ) (v : κ) : (z1k D v).length = if decide (v ∈ D) = true then D.length else D.length + 1 := by
 unfold z1k; by_cases h : v ∈ D <;> simp [h]
theorem z7c : ∀ (ss D : List κ), (ss.foldl z1k D).length ≤ D.length + ss.length
 | [], D => by simp
 | v :: ss, D => by
  have := z7c ss (z1k D v)
  have h2 := z7b D v
  rw [List.foldl_cons, List.length_cons]
  split at h2 <;> omega
theorem z8f (ss : List κ) : (gAll ss).length ≤ ss.length := by have := z7c ss []; simpa [gAll] using this
theorem za3 (ss : List κ) (i : Nat) (h : i < ss.length) : gAll (ss.take (i + 1)) = z1k (gAll (ss.take i)) ss[i] := by
 unfold gAll; rw [List.take_succ_eq_append_getElem h, List.foldl_append]; rfl
end
def ESet {prog : Program} {w : World} {κ : Type} [DecidableEq κ] (knd : KeyKind prog w κ) (h : Heap) (a : Addr) (D : List κ) (led : Bool) : Prop :=
 ∃ o es ep t, h.get? a = some o ∧ o.ExactSet ∧ o.data = .set es ep t ∧ ElemsOf knd es.toList ∧
  (∀ k, decide (k ∈ D) = true ↔ ∃ e ∈ es.toList, knd.is k e.2 = true) ∧
  es.size < scanBound ∧ t.fits es.size = true ∧ es.size = D.length ∧ t.led = led ∧ Rise t
section
variable {prog : Program} {w : World} {κ : Type} [DecidableEq κ] {knd : KeyKind prog w κ} {A : Around} {E : Value → Shared → Prop} {s : Shared}
theorem ESet.keep {h h' : Heap} {a : Addr} {D : List κ} {led : Bool} (T : ESet knd h a D led)
  (e : ∀ o, h.get? a = some o → h'.get? a = some o) : ESet knd h' a D led := by
 obtain ⟨o, es, ep, t, ho, more⟩ := T
 exact ⟨o, es, ep, t, e o ho, more⟩
theorem z43 {g : Bool → Sem Unit} (hg : ∀ (b : Bool) (s₁ : Shared) (Q' : Unit → Shared → Prop), Q' () s₁ → wpAny (model prog w) A (g b) Q' E s₁)
  {a : Addr} {o : Obj} {es : Array (Int × Value)} {ep : Nat} {t : SetTable} (ho : s.heap.get? a = some o) (hx : o.ExactSet)
  (hd : o.data = .set es ep t) {e1 : Array (Int × Value)} {t1 : SetTable} {D : List κ}
  (he : ElemsOf knd e1.toList) (hm : ∀ k, decide (k ∈ D) = true ↔ ∃ e ∈ e1.toList, knd.is k e.2 = true)
  (hb : e1.size < scanBound) (hf : t1.fits e1.size = true) (hn : e1.size = D.length) (hp : Rise t1)
  {was : Bool} {R : Option Bool → Shared → Prop}
  (h : ∀ h', Heap.SameBut a s.heap h' → ESet knd h' a D t1.led → R (some true) { s with heap := h' }) :
  wpAny (model prog w) A (do
   storeSet a e1 t1
   if (!was && t1.tooFull) = true then do
    g (relayAll t1 e1 (SetTable.grown e1.size)).2.2
    storeSet a (relayAll t1 e1 (SetTable.grown e1.size)).1 (relayAll t1 e1 (SetTable.grown e1.size)).2.1
    pure (some true)
   else pure (some true)) R E s := by
 refine wpAny_bind (wpAny_storeSet_of ho hd ?_ (fits_of_scanBound hb))
 obtain ⟨g1, _⟩ := SetOf_store (knd := knd) ho hx hd he hm hb hf
 have b1 := Heap.SameBut.update s.heap a (Obj.putSet e1 t1)
 split
 ·have pr := relayAll_perm t1 e1 (SetTable.grown e1.size)
  have fr := relayAll_fits t1 e1 (SetTable.grown e1.size)
  have lr := z76 t1 e1 (SetTable.grown e1.size)
  have rr := Rise.relayAll t1 e1 (SetTable.grown e1.size)
  generalize relayAll t1 e1 (SetTable.grown e1.size) = L at pr fr lr rr ⊢
  obtain ⟨e2, t2, gave⟩ := L
  dsimp only at pr fr lr rr ⊢
  have sz : e2.size = e1.size := by rw [← Array.length_toList, pr.length_eq, Array.length_toList]
  have hm2 : ∀ k, decide (k ∈ D) = true ↔ ∃ e ∈ e2.toList, knd.is k e.2 = true := fun k =>
   (hm k).trans ⟨fun ⟨e, q, z⟩ => ⟨e, pr.mem_iff.mpr q, z⟩, fun ⟨e, q, z⟩ => ⟨e, pr.mem_iff.mp q, z⟩⟩
  refine wpAny_bind (hg _ _ _ ?_)
  refine wpAny_bind (wpAny_storeSet_of g1 rfl ?_ (fits_of_scanBound (by rw [sz]; exact hb)))
  obtain ⟨g2, _⟩ := SetOf_store (knd := knd) g1 hx rfl (he.perm pr) hm2 (by rw [sz]; exact hb) fr
  refine wpAny_pure (h _ (b1.trans (Heap.SameBut.update _ a _)) ⟨_, e2, _, t2, g2, hx, rfl, he.perm pr, hm2, by rw [sz]; exact hb, fr, sz.trans hn, lr.1, rr⟩)
 ·exact wpAny_pure (h _ b1 ⟨_, e1, _, t1, g1, hx, rfl, he, hm, hb, hf, hn, rfl, hp⟩)
theorem zan {a : Addr} {D : List κ} {led : Bool} {k : κ} {v : Value} {Q : Bool → Shared → Prop} (T : ESet knd s.heap a D led) (is : knd.is k v = true) (hsc : v.scannable = true)
  (room : D.length + 1 < scanBound)
  (h : ∀ h' b, Heap.SameBut a s.heap h' → ESet knd h' a (z1k D k) led → Q b { s with heap := h' }) :
  wpAny (model prog w) A (setAddHashed a v (knd.hash k)) Q E s := by
 obtain ⟨o, es, ep, t, ho, hx, hd, he, hm, hb, hf, hn, hl, hp⟩ := T
 unfold setAddHashed setAddHashedIn
 refine wpAny_holding (wpAny_bind (wpAny_setState_of ho hd hf ?_))
 dsimp only
 rw [byScan_of hsc hb he]
 simp only [↓reduceIte]
 unfold setAddByScan
 refine wpAny_bind ?_
 refine wpAny_bind (wpAny_rule ?_)
 refine wpAny_bind (wpAny_setScan_of is ho hd hf he ?_)
 cases hr : List.findIdx? (fun e => knd.is k e.2) es.toList with
 | some j =>
  dsimp only
  obtain ⟨hj, pj, _⟩ := List.findIdx?_eq_some_iff_getElem.mp hr
  have xin : k ∈ D := of_decide_eq_true ((hm k).mpr ⟨es.toList[j], List.getElem_mem hj, pj⟩)
  have same : z1k D k = D := if_pos xin
  refine wpAny_pure (wpAny_pure ?_)
  have := h s.heap false (Heap.SameBut.refl a s.heap) (by rw [same]; exact ⟨o, es, ep, t, ho, hx, hd, he, hm, hb, hf, hn, hl, hp⟩)
  cases s; exact this
 | none =>
  dsimp only
  have xout : k ∉ D := fun q => by
   obtain ⟨e, qe, z⟩ := (hm k).mp (decide_eq_true q)
   have := List.findIdx?_eq_none_iff.mp hr e qe
   rw [z] at this; cases this
  have grow : z1k D k = D ++ [k] := if_neg xout
  have pr := layNew_perm t es (knd.hash k) v
  have fr := layNew_fits t es (knd.hash k) v
  have lr := z96 t es (knd.hash k) v
  have rr := hp.layNew es (knd.hash k) v
  generalize layNew t es (knd.hash k) v = L at pr fr lr rr ⊢
  obtain ⟨e1, t1, was, gave⟩ := L
  dsimp only at pr fr lr rr ⊢
  rw [Array.toList_push] at pr
  have he1 : ElemsOf knd e1.toList := (he.push is hsc).perm pr
  have hm1 : ∀ k1, decide (k1 ∈ z1k D k) = true ↔ ∃ e ∈ e1.toList, knd.is k1 e.2 = true := fun k1 => by
   rw [← mem_push_iff is hm pr k1, ← Bool.decide_or, decide_eq_true_eq, decide_eq_true_eq]
   exact z6d D k k1
  have sz : e1.size = es.size + 1 := by rw [← Array.length_toList, pr.length_eq, List.length_append, Array.length_toList]; rfl
  have hn1 : e1.size = (z1k D k).length := by rw [sz, grow, List.length_append, hn]; rfl
  have hb1 : e1.size < scanBound := by rw [sz, hn]; exact room
  have gw : ∀ (b : Bool) (s₁ : Shared) (Q' : Unit → Shared → Prop), Q' () s₁ →
    wpAny (model prog w) A (match b with | true => rule "set.scan.the-table-gave-way" | false => pure ()) Q' E s₁ := fun b s₁ Q' q => by
   cases b
   ·exact wpAny_pure q
   ·exact wpAny_rule q
  refine wpAny_bind (gw _ _ _ ?_)
  split
  ·refine wpAny_bind ?_
   rw [hashByValue_scannable 8 hsc]
   refine wpAny_pure ?_
   cases plainKind v with
   | true =>
    simp only [↓reduceIte]
    refine z43 (t1 := t1) gw ho hx hd he1 hm1 hb1 fr hn1 rr fun h' sb T' => ?_
    dsimp only
    refine wpAny_pure (h h' true sb ?_)
    rw [← hl, ← lr.1]; exact T'
   | false =>
    simp only [Bool.false_eq_true, ↓reduceIte]
    refine z43 (t1 := { t1 with plain := false }) gw ho hx hd he1 hm1 hb1 (SetTable.fits_plain_off fr) hn1 rr fun h' sb T' => ?_
    dsimp only
    refine wpAny_pure (h h' true sb ?_)
    rw [← hl, ← lr.1]; exact T'
  ·refine wpAny_bind (wpAny_pure ?_)
   simp only [↓reduceIte]
   refine z43 (t1 := t1) gw ho hx hd he1 hm1 hb1 fr hn1 rr fun h' sb T' => ?_
   dsimp only
   refine wpAny_pure (h h' true sb ?_)
   rw [← hl, ← lr.1]; exact T'
end
section
variable {prog : Program} {w : World} {κ : Type} [DecidableEq κ] {knd : KeyKind prog w κ} {A : Around} {R : Result → Shared → Prop} {I : Addr}
variable {fp wr : List Addr} {G : Array GenState → Array GenState → Prop} {P : Nat → Value → Prop} {St : Nat → Shared → Prop}
theorem z5t {ss : List κ} (W : WalksS prog w A.in1 I fp wr G ss.length P St) (a : Addr) (ha : a ∉ fp)
  {led : Bool} (hv : ∀ i v (h : i < ss.length), P i v → knd.is ss[i] v = true ∧ v.scannable = true) (hb : ss.length + 1 < scanBound) :
  ∀ (k i : Nat) (s : Shared), ss.length - i = k → i ≤ ss.length → St i s → ESet knd s.heap a (gAll (ss.take i)) led →
   (∀ s', Moved (a :: wr) G s s' → ESet knd s'.heap a (gAll ss) led → R (.ok (.ret .none)) s') →
   codeAny (model prog w) A (.builtin "set.update.loop" ⟨[.ref a, .ref I], []⟩) R s := by
 have haw : a ∉ wr := fun h => ha (W.sub _ h)
 intro k
 induction k with
 | zero =>
  intro i s hk hi st T hR
  have ei : i = ss.length := by omega
  subst ei
  rw [List.take_length] at T
  refine codeAny_builtin PyProof.Rows.F.entry_set_update_loop ?_
  rw [Around.under_plainId PyProof.Rows.F.plain_set_update_loop _]
  refine wpAny_bind (m := pyNext (.ref I)) (W.done s _ _ st fun s' mv => ?_)
  refine wpAny_pure (hR s' (mv.mono fun b h => .tail _ h) (T.keep fun o e => mv.heap a o haw e))
 | succ k ih =>
  intro i s hk hi st T hR
  have lt : i < ss.length := by omega
  refine codeAny_builtin PyProof.Rows.F.entry_set_update_loop ?_
  rw [Around.under_plainId PyProof.Rows.F.plain_set_update_loop _]
  refine wpAny_bind (m := pyNext (.ref I)) (W.item i s _ _ lt st fun v s' hP st' mv => ?_)
  obtain ⟨is, hsc⟩ := hv i v lt hP
  have T' := T.keep (h' := s'.heap) fun o e => mv.heap a o haw e
  refine wpAny_bind (m := holding [v] (setAdd a v)) (wpAny_holding ?_)
  unfold setAdd
  refine wpAny_holding ?_
  refine wpAny_bind (knd.pyHash (k := ss[i]) is ?_)
  have room : (gAll (ss.take i)).length + 1 < scanBound := by
   have := z8f (ss.take i)
   rw [List.length_take] at this
   omega
  refine zan (s := { s' with toks := s'.toks + 1 }) T' is hsc room fun h2 _ sb T2 => ?_
  have T3 : ESet knd h2 a (gAll (ss.take (i + 1))) led := by
   rw [za3 ss i lt]; exact T2
  refine wpAny_pure ⟨plainId_quiet PyProof.Rows.F.plain_set_update_loop _, ih (i + 1) _ (by omega) lt ?_ T3 fun s3 mv3 T4 => ?_⟩
  ·refine W.frame _ s' _ _ st' (Nat.le_succ _) fun b hbf o e => ?_
   rw [sb.2 b fun e' : b = a => ha (e' ▸ hbf)]
   exact e
  ·refine hR s3 (Moved.trans W.gtrans ((mv.mono fun b h => .tail _ h).then_heap (Nat.le_succ _) fun b o hbw e => ?_) mv3) T4
   rw [sb.2 b fun e' : b = a => hbw (e' ▸ .head _)]
   exact e
end
section
variable {prog : Program} {w : World} {κ : Type} [DecidableEq κ] {knd : KeyKind prog w κ} {A : Around} {E : Value → Shared → Prop} {s : Shared}
theorem z99 {h : Heap} {a : Addr} {led : Bool} (g : h.get? a = some (z1h led)) : ESet knd h a [] led :=
 ⟨_, #[], 0, .fresh 0 0 led, g, ⟨rfl, rfl, rfl⟩, rfl, fun e q => by simp at q, fun k => by simp, by decide, by cases led <;> decide, rfl, rfl, List.Pairwise.nil, rfl⟩
theorem z5u {l : Addr} {items : Array Value} {ss : List κ} {Q : Value → Shared → Prop} (hh : A.handled = none)
  (hl : s.heap.IsList l items) (len : items.size = ss.length) (hv : ∀ (i : Nat) (v : Value) (h : i < ss.length), items[i]? = some v → knd.is ss[i] v = true ∧ v.scannable = true) (hb : ss.length + 1 < scanBound)
  (h : ∀ (h' : Heap) (tk : Nat), ESet knd h' s.heap.objs.size (gAll ss) (z1t w) → s.toks ≤ tk →
   (∀ b o, s.heap.get? b = some o → h'.get? b = some o) → Q (.ref s.heap.objs.size) { s with heap := h', toks := tk }) :
  wpAny (model prog w) A (call (.type "set") [.ref l]) Q E s := by
 obtain ⟨_, _, mro⟩ := F.called_set.mro
 have made := F.called_set.made
 have self := F.called_set.sub
 refine wpAny_call (codeAny_of_tree ?_)
 show wpAny _ _ (callAny (.type "set") _) _ _ _
 refine wpAny_pure ⟨Code.quiet_builtin _ (by decide +kernel), ?_⟩
 refine codeAny_builtin F.entry_type_call ?_
 rw [Around.under_plain (weight_type_call_type "set" [.ref l] []) rfl]
 have n1 := F.called_set.notType
 have n2 := F.called_set.canCreate
 have n3 := F.typeCall_set_1 (.ref l)
 repeat (any_goals (first | assumption | wp_step))
 refine codeAny_mono (z7u (.ref l) (E := E)
  (Q₁ := fun x s₁ => ∃ led : Bool, led = z1t w ∧ x = .ref s.heap.objs.size ∧ s₁ = { s with heap := s.heap.push (z1h led) }) ⟨_, rfl, rfl, rfl⟩) fun r s₁ hr => ?_
 match r, hr with
 | .error e, hr => exact hr
 | .ok (.ret x), hr =>
  obtain ⟨led, hled, rfl, rfl⟩ := hr
  have gS : (s.heap.push (z1h led)).get? s.heap.objs.size = some (z1h led) := Heap.get?_push_size _ rfl
  have ty : Shared.TypeIs { s with heap := s.heap.push (z1h led) } (.ref s.heap.objs.size) "set" := ⟨_, gS, rfl⟩
  have look := F.called_set.init.lookup
  have bound := F.called_set.init.bind (.ref s.heap.objs.size)
  repeat (any_goals (first | assumption | wp_step))
  refine codeAny_mono (codeAny_call_builtin (R := wants (fun r s₂ => r = .none ∧ ∃ h' tk, s₂ = { s with heap := h', toks := tk } ∧
   ESet knd h' s.heap.objs.size (gAll ss) (z1t w) ∧ s.toks ≤ tk ∧ ∀ b o, s.heap.get? b = some o → h'.get? b = some o) E)
   F.called_set.init.plain F.entry_set_init (check_set_init_1 ty ?_)) fun r₂ s₂ hr₂ => ?_
  ·obtain ⟨ol, gl, cl, nl, dl⟩ := hl
   obtain ⟨ocls, odict, odata, oslots⟩ := ol
   simp only at cl dl
   subst cl dl
   have gl' : (s.heap.push (z1h led)).get? l = some { cls := .type "list", dict := odict, data := .seq items nl, slots := oslots } :=
    Heap.get?_push_of_some _ gl
   have m1 := F.sub_list_set
   have m2 := F.sub_list_frozenset
   have m3 : (Value.type "list" == Value.type "dict") = false := by decide
   have isl : (s.heap.push (z1h led)).IsList l items := ⟨_, gl', rfl, nl, rfl⟩
   unfold Builtin.«set.__init__» noKeywords Builtin.Frozenset.updateFrom
   generalize hPI : pyIter = PI
   wp_walk
   subst hPI
   refine wpAny_pyIter_list isl ?_
   refine wpAny_bind (wpAny_runValue ?_)
   have lt : l < s.heap.objs.size := Heap.lt_size gl
   have h3 : A.in1.in1.in1.handled = none := by simp [hh]
   have lI : l ≠ (s.heap.push (z1h led)).objs.size := by
    rw [Heap.size_push]; exact Nat.ne_of_lt (Nat.lt_succ_of_lt lt)
   have aI : s.heap.objs.size ∉ [(s.heap.push (z1h led)).objs.size, l] := by
    rw [Heap.size_push]; intro m
    rcases List.mem_cons.mp m with e | m
    ·exact Nat.ne_of_lt (Nat.lt_succ_self _) e
    ·exact Nat.ne_of_gt lt (List.mem_singleton.mp m)
   have WW := ((Walks.list (prog := prog) (w := w) h3 _ l lI items).toS)
   rw [len] at WW
   refine z5t (led := z1t w) WW s.heap.objs.size aI hv hb (ss.length - 0) 0 _ (by omega) (Nat.zero_le _)
    ⟨⟨_, Heap.get?_push_size _ rfl, rfl, rfl⟩, (isl.push _)⟩ ?s0 ?sR
   case s0 =>
    have g2 : ((s.heap.push (z1h led)).push { cls := .type "list_iterator", data := .fields #[.ref l, .int 0 0] }).get? s.heap.objs.size = some (z1h led) :=
     Heap.get?_push_of_some _ gS
    rw [← hled]; exact z99 g2
   case sR =>
    intro s' mv T
    obtain ⟨h', g', d', tk', os'⟩ := s'
    obtain rfl : g' = s.gens := mv.gens
    obtain rfl : d' = s.drawn := mv.drawn
    obtain rfl : os' = s.os := mv.os
    show wpAny _ _ _ _ _ _
    refine wpAny_pure ?_
    show wpAny _ _ (ret Value.none) _ _ _
    refine wpAny_pure ⟨rfl, h', tk', rfl, T, mv.toks, fun b o e => ?_⟩
    have bl := Heap.lt_size e
    refine mv.heap b o ?_ (Heap.get?_push_of_some _ (Heap.get?_push_of_some _ e))
    rw [Heap.size_push]; intro m
    rcases List.mem_cons.mp m with e | m
    ·exact Nat.ne_of_lt bl e
    ·exact Nat.ne_of_lt (Nat.lt_succ_of_lt bl) (List.mem_singleton.mp m)
  ·match r₂, hr₂ with
   | .error e, hr₂ => exact hr₂
   | .ok (.ret r), hr₂ =>
    obtain ⟨rfl, h', tk, rfl, T, lt, old⟩ := hr₂
    repeat (any_goals (first | assumption | wp_step))
    exact h _ _ T lt old
end
inductive EAre {prog : Program} {w : World} {κ : Type} [DecidableEq κ] (knd : KeyKind prog w κ) : List Value → List κ → Prop
 | nil : EAre knd [] []
 | cons {v : Value} {k : κ} {vs : List Value} {ks : List κ} : knd.is k v = true → EAre knd vs ks → EAre knd (v :: vs) (k :: ks)
section
variable {prog : Program} {w : World} {κ : Type} [DecidableEq κ] {knd : KeyKind prog w κ} {A : Around} {E : Value → Shared → Prop} {s : Shared}
theorem EAre.length {vs : List Value} {ks : List κ} (h : EAre knd vs ks) : vs.length = ks.length := by
 induction h with
 | nil => rfl
 | cons _ _ ih => simp [ih]
theorem zao {L : List (Int × Value)} {D : List κ} (he : ElemsOf knd L) (nd : D.Nodup)
  (hm : ∀ k, decide (k ∈ D) = true ↔ ∃ e ∈ L, knd.is k e.2 = true) (hn : L.length = D.length) :
  ∃ ks, EAre knd (L.map (·.2)) ks ∧ ks.Perm D := by
 have ex : ∀ L : List (Int × Value), ElemsOf knd L → ∃ ks, EAre knd (L.map (·.2)) ks ∧ ∀ k e, e ∈ L → knd.is k e.2 = true → k ∈ ks := by
  intro L
  induction L with
  | nil => exact fun _ => ⟨[], .nil, fun _ _ z => nomatch z⟩
  | cons e L ih =>
   intro he
   obtain ⟨ks, h1, h2⟩ := ih he.tail
   obtain ⟨k, hk, _⟩ := he.head.1
   refine ⟨k :: ks, .cons hk h1, fun k' e' m z => ?_⟩
   rcases List.mem_cons.mp m with rfl | m
   ·rw [knd.inj _ k' k z hk]; exact .head _
   ·exact .tail _ (h2 k' e' m z)
 obtain ⟨ks, h1, h2⟩ := ex L he
 refine ⟨ks, h1, z4u D ks nd (fun k hk => ?_) ?_⟩
 ·obtain ⟨e, m, z⟩ := (hm k).mp (decide_eq_true hk)
  exact h2 k e m z
 ·have := h1.length
  rw [List.length_map] at this
  omega
theorem z44 {a : Addr} {o : Obj} {es : Array (Int × Value)} {ep : Nat} {t : SetTable} {slot i : Nat} {Q : Option (Value × Nat) → Shared → Prop}
  (hw : w.params.followText "set-order" = false) (ho : s.heap.get? a = some o) (hd : o.data = .set es ep t) (hf : t.fits es.size = true)
  (hn : t.plain = true ∨ es.size ≤ 1) (hl : t.led = true)
  (h : Q (match es[SetTable.below t.place slot]?, t.place[SetTable.below t.place slot]? with
   | some (_, x), some j => some (x, j + 1)
   | _, _ => none) s) : wpAny (model prog w) A (setNext a slot i ep) Q E s := by
 unfold setNext
 refine wpAny_bind (wpAny_setState_of ho hd hf ?_)
 dsimp only
 refine wpAny_bind (z1p ?_)
 rw [hw]
 simp only [Bool.false_eq_true, ↓reduceIte]
 refine (?_ : wpAny _ _ (if (!t.plain && decide (es.size > 1)) = true then _ else _) _ _ _)
 rw [if_neg (by rcases hn with hn | hn <;> simp [hn])]
 refine wpAny_bind (m := if (!t.led && !es.isEmpty) = true then unsupported "set:maker-not-led" else pure ()) ?_
 rw [if_neg (by simp [hl])]
 exact wpAny_pure (wpAny_pure h)
theorem z7y {t : SetTable} (hr : Rise t) {es : Array (Int × Value)} (hf : t.fits es.size = true) {i : Nat} (lt : i < es.size) :
  (match es[SetTable.below t.place (z19 t i)]?, t.place[SetTable.below t.place (z19 t i)]? with
   | some (_, x), some j => some (x, j + 1)
   | _, _ => none) = some (es[i].2, z19 t (i + 1)) := by
 have sz := z5g hf
 rw [z42 hr (by omega), Array.getElem?_eq_getElem lt, Array.getElem?_eq_getElem (by omega : i < t.place.size)]
 have : z19 t (i + 1) = t.place[i]'(by omega) + 1 := by
  unfold z19
  rw [if_neg (by omega)]
  simp [Array.getD, (by omega : i < t.place.size)]
 rw [this]
theorem z9a {t : SetTable} (hr : Rise t) {es : Array (Int × Value)} (hf : t.fits es.size = true) :
  (match es[SetTable.below t.place (z19 t es.size)]?, t.place[SetTable.below t.place (z19 t es.size)]? with
   | some (_, x), some j => some (x, j + 1)
   | _, _ => none) = (none : Option (Value × Nat)) := by
 have sz := z5g hf
 rw [z42 hr (by omega), Array.getElem?_eq_none (Nat.le_refl _)]
theorem z9b (hh : A.handled = none) (hw : w.params.followText "set-order" = false) {I a : Addr} {o : Obj} {es : Array (Int × Value)} {ep : Nat} {t : SetTable}
  (hd : o.data = .set es ep t) (hf : t.fits es.size = true) (hr : Rise t) (hn : t.plain = true ∨ es.size ≤ 1) (hl : t.led = true) (hI : a ≠ I) :
  WalksS prog w A I [I, a] [I] (fun x y => x = y) es.size (fun i v => ∃ e, es[i]? = some e ∧ v = e.2)
   (fun i s => SetIterAt s.heap I (.int (z19 t i) 0) i a es.size ep ∧ s.heap.get? a = some o) where
 sub := fun b hb => by simp at hb; simp [hb]
 grefl := fun _ => rfl
 gtrans := fun _ _ _ p q => p.trans q
 frame := fun i s h' tk st _ k => ⟨st.1.keep (k I (by simp)), k a (by simp) _ st.2⟩
 item := fun i s Q E lt st hQ => by
  refine z41 (next := z19 t (i + 1)) (x := es[i].2) st.2 hd hf st.1
   (fun A' E' Q' q => z44 hw st.2 hd hf hn hl ((congrArg (fun z => Q' z s) (z7y hr hf lt)).mpr q)) fun h' si sb => ?_
  refine hQ _ _ ⟨_, Array.getElem?_eq_getElem lt, rfl⟩ ⟨si, (sb.2 a hI).trans st.2⟩ ⟨fun b o' hb e => ?_, rfl, rfl, rfl, Nat.le_refl _⟩
  exact (sb.2 b (by simpa using hb)).trans e
 done := fun s Q E st hQ => by
  refine z31 hh st.2 hd hf st.1
   (fun A' E' Q' q => z44 hw st.2 hd hf hn hl ((congrArg (fun z => Q' z s) (z9a hr hf)).mpr q)) fun h' xb => ?_
  exact hQ _ ⟨fun b o' hb e => xb b o' (by simpa using hb) e, rfl, rfl, rfl, Nat.le_refl _⟩
 self := fun i s Q E st h => z32 st.1 h
theorem z6m {a : Addr} {D : List κ} {Q : List Value → Shared → Prop} (hh : A.handled = none) (nd : D.Nodup)
  (T : ESet knd s.heap a D (z1t w))
  (h : ∀ s' vs ks, EAre knd vs ks → ks.Perm D → (∀ b o, s.heap.get? b = some o → s'.heap.get? b = some o) → s'.gens = s.gens → s'.os = s.os →
   s.toks ≤ s'.toks → Q vs s') : wpAny (model prog w) A (collect (.ref a)) Q E s := by
 obtain ⟨o, es, ep, t, ho, hx, hd, he, hm, hb, hf, hn, hl, hp⟩ := T
 have la := Heap.lt_size ho
 unfold collect
 refine wpAny_bind (wpAny_runValue (codeAny_builtin F.entry_proto_collect ?_))
 rw [Around.under_plainId F.plain_proto_collect _]
 refine wpAny_bind (m := newList []) (wpAny_newObj_type ?_)
 refine wpAny_pure ⟨plainId_quiet F.plain_list_iadd _, codeAny_builtin F.entry_list_iadd ?_⟩
 rw [Around.under_plainId F.plain_list_iadd _]
 show wpAny _ A.in1 (Builtin.List.listExtendWith (.ref s.heap.objs.size) (.ref a) (.ref s.heap.objs.size)) _ _ _
 unfold Builtin.List.listExtendWith
 generalize hH : s.heap.push { cls := .type "list", data := .seq ([] : List Value).toArray } = H
 have ho1 : H.get? a = some o := by rw [← hH]; exact Heap.get?_push_of_some _ ho
 have gS : H.get? s.heap.objs.size = some { cls := .type "list", data := .seq #[] } := by rw [← hH]; exact Heap.get?_push_size _ rfl
 have zH : H.objs.size = s.heap.objs.size + 1 := by rw [← hH, Heap.size_push]
 have ty : Shared.TypeIs { s with heap := H } (.ref a) "set" := ⟨o, ho1, hx.1⟩
 refine wpAny_bind (wpAny_typeOf ty ?_)
 have h1 : Builtin.List.listSameRef (.ref s.heap.objs.size) (.ref a) = false := by
  simp only [Builtin.List.listSameRef, beq_eq_false_iff_ne]; exact Nat.ne_of_gt la
 have h2 : (Value.type "set" == Value.type "list") = false := by decide
 have h3 : (Value.type "set" == Value.type "tuple") = false := by decide
 simp only [h1, h2, h3, Bool.or_false, Bool.false_eq_true, if_false]
 have hz := fits_of_scanBound hb
 have fin : ∀ (s1 s' : Shared) (I : Addr) (P : Nat → Value → Prop) (L : List (Int × Value)) (acc : Array Value) (c : Nat),
   (∀ b o, H.get? b = some o → s1.heap.get? b = some o) → s1.gens = s.gens → s1.os = s.os → s1.toks = s.toks → s.heap.objs.size < I →
   L.Perm es.toList → (∀ i v, P i v → ∃ e, L[i]? = some e ∧ v = e.2) →
   Moved (s.heap.objs.size :: [I]) (fun x y => x = y) s1 s' → ItemsOf P acc es.size → Q acc.toList s' := by
  intro s1 s' I P L acc c k0 k1 k2 k3 k4 pr hP mv ii
  have len : L.length = es.size := by rw [pr.length_eq, Array.length_toList]
  rw [← len] at ii
  rw [za2 ii hP]
  have hm2 : ∀ k, decide (k ∈ D) = true ↔ ∃ e ∈ L, knd.is k e.2 = true := fun k =>
   (hm k).trans ⟨fun ⟨e, q, z⟩ => ⟨e, pr.mem_iff.mpr q, z⟩, fun ⟨e, q, z⟩ => ⟨e, pr.mem_iff.mp q, z⟩⟩
  obtain ⟨ks, t1, t2⟩ := zao (he.perm pr) nd hm2 (len.trans hn)
  refine h s' _ ks t1 t2 (fun b o' e => ?_) (mv.gens.symm.trans k1) (mv.os.trans k2) (k3 ▸ mv.toks)
  have lb := Heap.lt_size e
  refine mv.heap b o' (fun m => ?_) (k0 b o' (by rw [← hH]; exact Heap.get?_push_of_some _ e))
  rcases List.mem_cons.mp m with q | m
  ·exact Nat.ne_of_lt lb q
  ·exact Nat.ne_of_lt (Nat.lt_trans lb k4) (List.mem_singleton.mp m)
 have h4 : A.in1.handled = none := by simp [hh]
 let K : Value → Shared → Prop := fun v s' => wpAny (model prog w) A (match v with
  | .ref a => do
   match (← load a).data with
   | .seq xs _ => pure xs.toList
   | _ => unsupported "internal:collect"
  | _ => unsupported "internal:collect") Q E s'
 have aS : s.heap.objs.size ≠ a := Nat.ne_of_gt la
 have laH : a < H.objs.size := Heap.lt_size ho1
 refine wpAny_bind (z97 ho1 hx hd hf hb ?_ ?_)
 ·intro w1 w2 w3 ps d pr
  have len : ps.length = es.size := by simpa using pr.length_eq
  have gT : ((H.push { cls := .type "tuple", data := .seq (ps.map fun (i : Nat) => rawInt i).toArray }).push (z17 (.ref H.objs.size) 0 a es.size ep)).get? H.objs.size
    = some { cls := .type "tuple", data := .seq (ps.map fun (i : Nat) => rawInt i).toArray } := Heap.get?_push_of_some _ (Heap.get?_push_size _ rfl)
  have gI : ((H.push { cls := .type "tuple", data := .seq (ps.map fun (i : Nat) => rawInt i).toArray }).push (z17 (.ref H.objs.size) 0 a es.size ep)).get? (H.objs.size + 1)
    = some (z17 (.ref H.objs.size) 0 a es.size ep) := by
   have z2 : (H.push { cls := .type "tuple", data := .seq (ps.map fun (i : Nat) => rawInt i).toArray }).objs.size = H.objs.size + 1 := Heap.size_push ..
   rw [← z2]
   exact Heap.get?_push_size _ rfl
  have two : ∀ b o', H.get? b = some o' → ((H.push { cls := .type "tuple", data := .seq (ps.map fun (i : Nat) => rawInt i).toArray }).push (z17 (.ref H.objs.size) 0 a es.size ep)).get? b = some o' :=
   fun b o' e => Heap.get?_push_of_some _ (Heap.get?_push_of_some _ e)
  have W := z7v (prog := prog) (w := w) (A := A.in1) h4 (I := H.objs.size + 1) (T := H.objs.size) (a := a) (o := o) (ps := ps) (nT := 0)
   (oT := { cls := .type "tuple", data := .seq (ps.map fun (i : Nat) => rawInt i).toArray }) hd hf rfl
   (Nat.ne_of_lt (Nat.lt_succ_of_lt laH)) (Nat.ne_of_lt (Nat.lt_succ_self _)) pr
  have out : s.heap.objs.size ∉ [H.objs.size + 1, a, H.objs.size] := by
   rw [zH]; intro m
   rcases List.mem_cons.mp m with q | m
   ·exact Nat.ne_of_lt (Nat.lt_succ_of_lt (Nat.lt_succ_self _)) q
   ·rcases List.mem_cons.mp m with q | m
    ·exact aS q
    ·exact Nat.ne_of_lt (Nat.lt_succ_self _) (List.mem_singleton.mp m)
  refine z29 (a := a) (R := wants K E) (b := _) W hz out ?_ (c := 0) ?_ ?_ ?_
  ·exact ⟨⟨_, gI, rfl, rfl⟩, two _ _ ho1, gT⟩
  ·exact two _ _ gS
  ·exact ⟨o, two _ _ ho1, hx.1⟩
  intro s' acc c' mv g ii
  show wpAny _ _ (load _ >>= _) _ _ _
  refine wpAny_bind (wpAny_load g (wpAny_pure ?_))
  refine fin { s with heap := (H.push { cls := .type "tuple", data := .seq (ps.map fun (i : Nat) => rawInt i).toArray }).push (z17 (.ref H.objs.size) 0 a es.size ep), drawn := d } s' (H.objs.size + 1) _ (ps.map fun p => es.getD p default) acc c' two rfl rfl rfl (by rw [zH]; exact Nat.lt_succ_of_lt (Nat.lt_succ_self _)) ?_ ?_ mv ii
  ·refine (pr.map _).trans ?_
   have : (List.range es.size).map (fun p => es.getD p default) = es.toList := by
    apply List.ext_getElem?
    intro i
    by_cases lt : i < es.size
    ·simp [lt]
    ·simp [lt]
   rw [this]
  ·rintro i v ⟨p, e, hp', he', rfl⟩
   refine ⟨e, ?_, rfl⟩
   rw [List.getElem?_map, hp']
   obtain ⟨lt, q⟩ := Array.getElem?_eq_some_iff.mp he'
   simp [lt, q]
 ·intro w1
  have gI : (H.push (z17 (.int 0 0) 0 a es.size ep)).get? H.objs.size = some (z17 (.int 0 0) 0 a es.size ep) := Heap.get?_push_size _ rfl
  have one : ∀ b o', H.get? b = some o' → (H.push (z17 (.int 0 0) 0 a es.size ep)).get? b = some o' := fun b o' e => Heap.get?_push_of_some _ e
  have out : s.heap.objs.size ∉ [H.objs.size, a] := by
   rw [zH]; intro m
   rcases List.mem_cons.mp m with q | m
   ·exact Nat.ne_of_lt (Nat.lt_succ_self _) q
   ·exact aS (List.mem_singleton.mp m)
  have lI : s.heap.objs.size < H.objs.size := by rw [zH]; exact Nat.lt_succ_self _
  cases hw : w.params.followText "set-order" with
  | true =>
   have W := z98 (prog := prog) (A := A.in1) h4 hw (I := H.objs.size) (a := a) (o := o) hd hf (Nat.ne_of_lt laH)
   refine z29 (a := a) (R := wants K E) (b := _) W hz out ?_ (c := 0) ?_ ?_ ?_
   ·exact ⟨⟨_, gI, rfl, rfl⟩, one _ _ ho1⟩
   ·exact one _ _ gS
   ·exact ⟨o, one _ _ ho1, hx.1⟩
   intro s' acc c' mv g ii
   show wpAny _ _ (load _ >>= _) _ _ _
   refine wpAny_bind (wpAny_load g (wpAny_pure ?_))
   refine fin { s with heap := H.push (z17 (.int 0 0) 0 a es.size ep) } s' H.objs.size _ (pickOrder (w.params.setOrder a ep) es).toList acc c' one rfl rfl rfl lI (z2d _ _) ?_ mv ii
   rintro i v ⟨e, q, rfl⟩
   exact ⟨e, by rw [Array.getElem?_toList]; exact q, rfl⟩
  | false =>
   have small : t.plain = true ∨ es.size ≤ 1 := by
    rcases w1 with q | q | q
    ·rw [hw] at q; cases q
    ·exact .inl q
    ·exact .inr q
   have W := z9b (prog := prog) (A := A.in1) h4 hw (I := H.objs.size) (a := a) (o := o) hd hf hp small (hl.trans (by simp [z1t, hw])) (Nat.ne_of_lt laH)
   refine z29 (a := a) (R := wants K E) (b := _) W hz out ?_ (c := 0) ?_ ?_ ?_
   ·exact ⟨⟨_, gI, rfl, rfl⟩, one _ _ ho1⟩
   ·exact one _ _ gS
   ·exact ⟨o, one _ _ ho1, hx.1⟩
   intro s' acc c' mv g ii
   show wpAny _ _ (load _ >>= _) _ _ _
   refine wpAny_bind (wpAny_load g (wpAny_pure ?_))
   refine fin { s with heap := H.push (z17 (.int 0 0) 0 a es.size ep) } s' H.objs.size _ es.toList acc c' one rfl rfl rfl lI (.refl _) ?_ mv ii
   rintro i v ⟨e, q, rfl⟩
   exact ⟨e, by rw [Array.getElem?_toList]; exact q, rfl⟩
end
end PySem
end
section
namespace PySem
open PyProof.Rows
section
variable {prog : Program} {w : World} {κ : Type} [DecidableEq κ] {knd : KeyKind prog w κ}
structure Sorts (knd : KeyKind prog w κ) (rel : List Value → List κ → Prop) (so : List κ → Prop) (lim : Nat) : Prop where
 to : ∀ {vs ks}, EAre knd vs ks → rel vs ks
 ln : ∀ {vs ks}, rel vs ks → vs.length = ks.length
 st : ∀ {A : Around} {E : Value → Shared → Prop} {s : Shared} {l : Addr} {vs : List Value} {ks : List κ} {n : Nat} {P : Fin → Shared → Prop}, s.heap.get? l = some (seqObj "list" vs.toArray n) → rel vs ks → ks.Nodup → vs.length < lim →
  (∀ (out : Array Value) (ks' : List κ), rel out.toList ks' → ks'.Perm ks → so ks' → P (.done (.ret .none)) { s with heap := sortedHeap s.heap l vs out }) → wpAny (model prog w) A (Builtin.«list.sort» ⟨[.ref l], []⟩) P E s
theorem z7z {A : Around} {E : Value → Shared → Prop} {s : Shared} {rel : List Value → List κ → Prop} {so : List κ → Prop} {lim : Nat} (S : Sorts knd rel so lim) (hlim : lim ≤ 1000) {a : Addr} {D : List κ} {Q : Value → Shared → Prop} (hh : A.handled = none) (nd : D.Nodup) (h64 : D.length < lim)
  (T : ESet knd s.heap a D (z1t w))
  (h : ∀ s' l vs ks e, rel vs ks → ks.Perm D → so ks → (∀ b o, s.heap.get? b = some o → s'.heap.get? b = some o ∧ b ≠ l) →
   s'.heap.get? l = some (seqObj "list" vs.toArray e) → s'.gens = s.gens → s'.os = s.os → Q (.ref l) s') :
  wpAny (model prog w) A (call (.builtin "sorted") [.ref a]) Q E s := by
 refine Calls.call_function_entry kind_sorted plain_sorted entry_sorted (args_sorted1 _) ?_
 unfold Builtin.«sorted»
 refine wpAny_bind (m := checkCount "sorted" 1 1 _) (wpAny_pure ?_)
 refine wpAny_bind (z6m (by simpa using hh) nd T fun s1 vs ks t0 t2 k0 k1 k2 k3 => ?_)
 have t1 := S.to t0
 have v64 : vs.length < lim := by rw [S.ln t1, t2.length_eq]; exact h64
 have fit : vs.length ≤ sizeLine := Nat.le_trans (Nat.le_trans (Nat.le_of_lt v64) hlim) (by decide)
 refine wpAny_bind (wpAny_newList ?_ fit)
 have hS := Heap.get?_push_size (h := s1.heap) (o := seqObj "list" vs.toArray 0) rfl
 refine wpAny_bind (wpAny_holding (wpAny_call_entry slot_list_sort ⟨_, hS, rfl⟩ entry_list_sort
  (S.st hS t1 (t2.nodup_iff.mpr nd) v64 fun out ks' u1 u2 u3 => ⟨_, rfl, ?_⟩) (args_list_sort _)))
 refine wpAny_pure ⟨_, rfl, ?_⟩
 obtain ⟨e, ge⟩ := sortedHeap_at (out := out) hS
 refine h _ s1.heap.objs.size out.toList ks' e u1 (u2.trans t2) u3 (fun b o q => ?_) ge k1 k2
 have lb := Heap.lt_size (k0 b o q)
 refine ⟨?_, Nat.ne_of_lt lb⟩
 refine (sortedHeap_old (Nat.ne_of_lt lb) ?_).trans (Heap.get?_push_of_some _ (k0 b o q))
 rw [Heap.size_push]; exact Nat.lt_succ_of_lt lb
theorem z6f (prog : Program) (w : World) : Sorts (intKind prog w) IntsAre (·.Pairwise (· ≤ ·)) 64 where
 to := fun h => by
  induction h with
  | nil => exact .nil
  | cons h _ ih =>
   obtain ⟨t, rfl⟩ := Value.isInt_shape h
   exact .cons _ t ih
 ln := fun h => h.length
 st := fun hS t _ v64 h => list_sort_tree hS t v64 h
end
end PySem
namespace L2
open PySem PySem.Spec PyProof.Rows
def eso {P : Program} {w : World} {κ : Type} [DecidableEq κ] (knd : KeyKind P w κ) (a : Addr) (D : List κ) : HO := .ext fun h => ESet knd h a D (z1t w)
section
variable {X : Cx} {κ : Type} [DecidableEq κ] {knd : KeyKind X.prog X.w κ}
theorem za4 (knd : KeyKind X.prog X.w κ) (f : κ → V) (hf : ∀ k u, RelV (f k) u → knd.is k u = true ∧ u.scannable = true) (hc : X.calm = true) : CallR X (.type "set") (fun xs H Q => ∃ p ss, xs = [.ref p] ∧ SqL X.K H p ((ss : List κ).map f) ∧ ss.length + 1 < scanBound ∧ ∀ d, H d = none → Q (.ref d) (upd H d (eso knd d (gAll ss)))) := by
 intro pins s σ H xs us Q I r h
 obtain ⟨p, ss, rfl, hp, hb, q⟩ := h
 obtain ⟨u, rfl, ru⟩ := z4b r
 cases ru
 obtain ⟨its, r1, pl, hz⟩ := I.list hp
 have hl := r1.length
 rw [List.length_map] at hl
 refine z5u (knd := knd) (ss := ss) (I.ok.hd hc) pl.isList (by simpa using hl.symm) (fun i v hi hv => ?_) hb fun h' tk T ht hk => ?_
 ·have g1 : (ss.map f)[i]? = some (f ss[i]) := by rw [List.getElem?_map, List.getElem?_eq_getElem hi]; rfl
  obtain ⟨w', q1, t⟩ := r1.get g1
  have : its[i]? = some v := by simpa using hv
  rw [this] at q1
  cases q1
  exact hf _ _ t
 ·have ok : ∀ H', ObjOk X.prog X.w H' h' s.heap.objs.size (eso knd s.heap.objs.size (gAll ss)) := fun _ => ⟨T, (by obtain ⟨o, es, ep, t, ho, _⟩ := T; exact ⟨o, ho⟩), fun h1 h2 t k => ESet.keep t k⟩
  exact ⟨.ref _, _, I.laid (t' := tk) hk (Nat.le_refl _) (ok _), rfl, q _ I.fresh⟩
theorem z7d {rel : List Value → List κ → Prop} {so : List κ → Prop} {lim : Nat} (S : Sorts knd rel so lim) (hlim : lim ≤ 1000) (f : κ → V) (hf : ∀ vs ks, rel vs ks → Vals (ks.map f) vs) (hc : X.calm = true) : CallR X (.builtin "sorted") (fun xs H Q => ∃ a D, xs = [.ref a] ∧ H a = some (eso knd a D) ∧ D.Nodup ∧ D.length < lim ∧ ∀ l ks, H l = none → ks.Perm D → so ks → Q (.ref l) (upd H l (.lst ((ks : List κ).map f)))) := by
 intro pins s σ H xs us Q I r h
 obtain ⟨a, D, rfl, ha, nd, h64, q⟩ := h
 obtain ⟨u, rfl, ru⟩ := z4b r
 cases ru
 obtain ⟨T, -, -⟩ := (show ObjOk X.prog X.w H s.heap a (eso knd a D) from I.hok a _ ha)
 refine z7z S hlim (I.ok.hd hc) nd h64 T fun s' l vs ks e t1 t2 t3 hk hl hg ho => ?_
 have hz : (ks.map f).length ≤ sizeLine := by
  rw [List.length_map, t2.length_eq]; exact Nat.le_trans (Nat.le_trans (Nat.le_of_lt h64) hlim) (by decide)
 have k : ∀ b u, s.heap.get? b = some u → s'.heap.get? b = some u := fun b u e => (hk b u e).1
 have hHl : H l = none := by
  cases z : H l with
  | none => rfl
  | some o =>
   obtain ⟨u, hu⟩ := z7w (I.hok l o z)
   exact absurd rfl (hk l u hu).2
 have un : Un (frs X.stack) [] H (upd H l (.lst (ks.map f))) s.heap s'.heap := by
  refine ⟨fun b u z _ _ _ => k b u z, fun b u z _ _ _ => ⟨u.slots, k b u z⟩, fun b u z n _ => ?_, fun b u z _ => ⟨u, k b u z⟩, fun b ys z => ?_, fun b u ys z => ?_, fun b ps z => ⟨#[], ?_⟩⟩
  ·rw [zc (hk b u z).2]; exact n
  ·rw [zc (zf z hHl)]; exact z
  ·rw [zc (zf z hHl)]; exact z
  ·rw [zc (zf z hHl), z]; simp
 have hok : HOk X.prog X.w (upd H l (.lst (ks.map f))) s'.heap := fun b u e' => by
  by_cases hb : b = l
  ·subst hb; rw [za] at e'; cases e'
   exact ⟨hz, vs, e, hf _ _ t1, hl⟩
  ·rw [zc hb] at e'
   exact (I.hok b u e').stay (fun c v _ q => k c v q) (fun c q => by rw [zc (zf q hHl)]; exact q) fun c xs q => by rw [zc (zf q hHl)]; exact q
 exact ⟨.ref l, _, I.call' ho un hok (by rw [hg]; exact I.bare) (fun b z => absurd z (by simp)), rfl, q l ks hHl t2 t3⟩
abbrev z9c (hc : X.calm = true) := za4 (intKind X.prog X.w) V.int (fun k u ⟨t, e⟩ => e ▸ ⟨intKind_is _ _ k t, rfl⟩) hc
end
end L2
end
section
namespace PyProof.Rows
open PySem
def cdK (rk : Keyed → Nat) (p : Keyed) : Int := numOf p.1 * 1000 + (rk p : Int)
def cdA (rk : Keyed → Nat) (xs : Array Keyed) (i : Nat) : Int := match xs[i]? with
 | some p => cdK rk p
 | none => 0
def rkA (rk : Keyed → Nat) (xs : Array Keyed) (i : Nat) : Nat := match xs[i]? with
 | some p => rk p
 | none => 0
theorem zk {rk : Keyed → Nat} {xs : Array Keyed} {i : Nat} (h : i < xs.size) : cdA rk xs i = cdK rk xs[i] := by unfold cdA; rw [getElem?_pos xs i h]
theorem z2a {rk : Keyed → Nat} {xs : Array Keyed} {i : Nat} (h : i < xs.size) : rkA rk xs i = rk xs[i] := by unfold rkA; rw [getElem?_pos xs i h]
theorem z2p {rk : Keyed → Nat} {xs ys : Array Keyed} {i j : Nat} (h : xs[i]? = ys[j]?) : cdA rk xs i = cdA rk ys j := by unfold cdA; rw [h]
theorem z7e {rk : Keyed → Nat} {xs ys : Array Keyed} {i j : Nat} (h : xs[i]? = ys[j]?) : rkA rk xs i = rkA rk ys j := by unfold rkA; rw [h]
def OkK (rk : Keyed → Nat) (p : Keyed) : Prop := (∃ n t, p.1 = .int n t) ∧ rk p < 1000
theorem z3s {rk : Keyed → Nat} {p q : Keyed} (hp : OkK rk p) (hr : rk q < rk p) : numOf p.1 < numOf q.1 ↔ cdK rk p < cdK rk q := by
 have := hp.2
 unfold cdK
 omega
section
variable {prog : Program} {w : World} {A : Around} {E : Value → Shared → Prop} {s : Shared} {rk : Keyed → Nat}
theorem zx {st : SortSt} {xs : Array Keyed} {i : Nat} {Q : Keyed → SortSt → Prop} (h : i < xs.size) (q : Q xs[i] st) : wpS (model prog w) A E s (elem' xs i) Q st := by
 rw [elem'_eq, getElem?_pos xs i h]
 exact wpS_pure q
theorem z4e {st : SortSt} {p q : Keyed} {Q : Option Bool → SortSt → Prop} (hk : kindOf st = oneType') (hp : ∃ n t, p.1 = .int n t) (hq : ∃ n t, q.1 = .int n t) (h : Q (some (decide (numOf p.1 < numOf q.1))) st) : wpS (model prog w) A E s (lt' p q) Q st := by
 obtain ⟨a, t, ep⟩ := hp
 obtain ⟨b, u, eq⟩ := hq
 rw [ep, eq] at h
 rw [lt'_eq]
 refine wpS_bind (wpS_get ?_)
 rw [hk, keyLt'_oneType, ep, eq]
 refine wpS_bind (wpS_lift (wpAny_attempt (oneLt_int ⟨rfl, ?_⟩)))
 exact wpS_pure h
def z24 (left : Bool) (key : Keyed) (arr : Array Keyed) (base i : Nat) : StateT SortSt Sem (Option Bool) := do
 let x ← elem' arr (base + i)
 if left then lt' x key else return (← lt' key x).map (!·)
def z1i : Bool → Keyed → Array Keyed → Nat → Nat → Nat → StateT SortSt Sem (Option Nat) := sortPriv% PySem.Builtin.gallop
theorem z9d (lf : Bool) (ky : Keyed) (ar : Array Keyed) (ba n hi0 : Nat) : z1i lf ky ar ba n hi0 = (do
 let mut la := 0
 let mut of := 1
 let mut lo := 0
 let mut hi := 0
 let some rt ← z24 lf ky ar ba hi0 | return none
 if rt then
  let mx := n - hi0
  for _ in [0:n] do
   if of ≥ mx then break
   let some mo ← z24 lf ky ar ba (hi0 + of) | return none
   if !mo then break
   la := of
   of := 2 * of + 1
  lo := hi0 + la + 1
  hi := hi0 + min of mx
 else
  let mx := hi0 + 1
  for _ in [0:n] do
   if of ≥ mx then break
   let some fo ← z24 lf ky ar ba (hi0 - of) | return none
   if fo then break
   la := of
   of := 2 * of + 1
  lo := hi0 + 1 - min of mx
  hi := hi0 - la
 for _ in [0:n] do
  if lo ≥ hi then break
  let m := lo + (hi - lo) / 2
  let some mo ← z24 lf ky ar ba m | return none
  if mo then lo := m + 1 else hi := m
 return some hi) := rfl
def binS (lf : Bool) (ky : Keyed) (ar : Array Keyed) (ba n lo hi : Nat) : StateT SortSt Sem (Option Nat) := do
 let mut lo := lo
 let mut hi := hi
 for _ in [0:n] do
  if lo ≥ hi then break
  let m := lo + (hi - lo) / 2
  let some mo ← z24 lf ky ar ba m | return none
  if mo then lo := m + 1 else hi := m
 return some hi
theorem z7f {st : SortSt} {lf : Bool} {ky : Keyed} {ar : Array Keyed} {ba n lo hi : Nat} {Q : Option Nat → SortSt → Prop} (B : Nat → Bool) (hB : ∀ i, i < n → ∀ Q : Option Bool → SortSt → Prop, Q (some (B i)) st → wpS (model prog w) A E s (z24 lf ky ar ba i) Q st)
  (mono : ∀ i j, i ≤ j → B j = true → B i = true) (h1 : lo ≤ hi) (h2 : hi ≤ n) (h3 : ∀ i, i < lo → B i = true) (h4 : ∀ i, hi ≤ i → i < n → B i = false) (h : ∀ k, k ≤ n → (∀ i, i < k → B i = true) → (∀ i, k ≤ i → i < n → B i = false) → Q (some k) st) : wpS (model prog w) A E s (binS lf ky ar ba n lo hi) Q st := by
 unfold binS
 refine wpS_bind (wpS_mono (wpS_forRange (I := fun x c st' => st' = st ∧ ∃ l r, c = (none, l, r) ∧ l ≤ r ∧ r ≤ n ∧ r - l ≤ n - x ∧ (∀ i, i < l → B i = true) ∧ ∀ i, r ≤ i → i < n → B i = false)
  (Q := fun c st' => st' = st ∧ ∃ l, c = (none, l, l) ∧ l ≤ n ∧ (∀ i, i < l → B i = true) ∧ ∀ i, l ≤ i → i < n → B i = false) ?_ ?_ ⟨rfl, lo, hi, rfl, h1, h2, by omega, h3, h4⟩) ?_)
 ·rintro x c st' - hx ⟨rfl, l, r, rfl, a1, a2, a3, a4, a5⟩
  dsimp only
  by_cases hge : l ≥ r
  ·rw [if_pos hge]
   obtain rfl : l = r := by omega
   exact wpS_pure ⟨rfl, l, rfl, a2, a4, a5⟩
  ·rw [if_neg hge]
   refine wpS_bind (hB _ (by omega) _ ?_)
   cases e : B (l + (r - l) / 2) with
   | true =>
    dsimp only
    rw [if_pos rfl]
    exact wpS_pure ⟨rfl, _, _, rfl, by omega, by omega, by omega, fun i hi => mono i _ (by omega) e, a5⟩
   | false =>
    dsimp only
    rw [if_neg Bool.false_ne_true]
    refine wpS_pure ⟨rfl, _, _, rfl, by omega, by omega, by omega, a4, fun i hi hn => ?_⟩
    cases ei : B i with
    | false => rfl
    | true => rw [mono _ i hi ei] at e; cases e
 ·rintro c st' ⟨rfl, l, r, rfl, a1, a2, a3, a4, a5⟩
  obtain rfl : l = r := by omega
  exact ⟨rfl, l, rfl, a2, a4, a5⟩
 ·rintro c st' ⟨rfl, l, rfl, a2, a4, a5⟩
  exact wpS_pure (h l a2 a4 a5)
theorem z80 {st : SortSt} {lf : Bool} {ky : Keyed} {ar : Array Keyed} {ba n hi0 : Nat} {Q : Option Nat → SortSt → Prop} (B : Nat → Bool) (hB : ∀ i, i < n → ∀ Q : Option Bool → SortSt → Prop, Q (some (B i)) st → wpS (model prog w) A E s (z24 lf ky ar ba i) Q st)
  (mono : ∀ i j, i ≤ j → B j = true → B i = true) (h0 : hi0 < n) (h : ∀ k, k ≤ n → (∀ i, i < k → B i = true) → (∀ i, k ≤ i → i < n → B i = false) → Q (some k) st) : wpS (model prog w) A E s (z1i lf ky ar ba n hi0) Q st := by
 have down : ∀ i j, i ≤ j → B i = false → B j = false := fun i j hij e => by
  cases ej : B j with
  | false => rfl
  | true => rw [mono i j hij ej] at e; cases e
 rw [z9d]
 refine wpS_bind (hB _ h0 _ ?_)
 dsimp only
 cases e0 : B hi0 with
 | true =>
  rw [if_pos rfl]
  refine wpS_bind (wpS_mono (wpS_forRange (I := fun x c st' => st' = st ∧ ∃ l o, c = (none, l, o) ∧ hi0 + l < n ∧ l < o ∧ x < o ∧ B (hi0 + l) = true)
   (Q := fun c st' => st' = st ∧ ∃ l o, c = (none, l, o) ∧ hi0 + l < n ∧ l < o ∧ B (hi0 + l) = true ∧ (n - hi0 ≤ o ∨ B (hi0 + o) = false)) ?_ ?_ ⟨rfl, 0, 1, rfl, h0, by omega, by omega, e0⟩) ?_)
  ·rintro x c st' - hx ⟨rfl, l, o, rfl, a1, a2, a3, a4⟩
   dsimp only
   by_cases hge : o ≥ n - hi0
   ·rw [if_pos hge]
    exact wpS_pure ⟨rfl, l, o, rfl, a1, a2, a4, .inl hge⟩
   ·rw [if_neg hge]
    refine wpS_bind (hB _ (by omega) _ ?_)
    cases e : B (hi0 + o) with
    | false =>
     dsimp only
     rw [if_pos (by rfl)]
     exact wpS_pure ⟨rfl, l, o, rfl, a1, a2, a4, .inr e⟩
    | true =>
     dsimp only
     rw [if_neg (by decide)]
     exact wpS_pure ⟨rfl, _, _, rfl, by omega, by omega, by omega, e⟩
  ·rintro c st' ⟨rfl, l, o, rfl, a1, a2, a3, a4⟩
   exact ⟨rfl, l, o, rfl, a1, a2, a4, .inl (by omega)⟩
  ·rintro c st' ⟨rfl, l, o, rfl, a1, a2, a4, a5⟩
   dsimp only
   refine z7f B hB mono (lo := hi0 + l + 1) (hi := hi0 + min o (n - hi0)) (by omega) (by omega) (fun i hi => mono i _ (by omega) a4) (fun i hi hn => ?_) h
   rcases a5 with a5 | a5
   ·omega
   ·exact down (hi0 + o) i (by omega) a5
 | false =>
  rw [if_neg Bool.false_ne_true]
  refine wpS_bind (wpS_mono (wpS_forRange (I := fun x c st' => st' = st ∧ ∃ l o, c = (none, l, o) ∧ l ≤ hi0 ∧ l < o ∧ x < o ∧ B (hi0 - l) = false)
   (Q := fun c st' => st' = st ∧ ∃ l o, c = (none, l, o) ∧ l ≤ hi0 ∧ l < o ∧ B (hi0 - l) = false ∧ (hi0 + 1 ≤ o ∨ (o ≤ hi0 ∧ B (hi0 - o) = true))) ?_ ?_ ⟨rfl, 0, 1, rfl, by omega, by omega, by omega, e0⟩) ?_)
  ·rintro x c st' - hx ⟨rfl, l, o, rfl, a1, a2, a3, a4⟩
   dsimp only
   by_cases hge : o ≥ hi0 + 1
   ·rw [if_pos hge]
    exact wpS_pure ⟨rfl, l, o, rfl, a1, a2, a4, .inl hge⟩
   ·rw [if_neg hge]
    refine wpS_bind (hB _ (by omega) _ ?_)
    cases e : B (hi0 - o) with
    | true =>
     dsimp only
     rw [if_pos rfl]
     exact wpS_pure ⟨rfl, l, o, rfl, a1, a2, a4, .inr ⟨by omega, e⟩⟩
    | false =>
     dsimp only
     rw [if_neg Bool.false_ne_true]
     exact wpS_pure ⟨rfl, _, _, rfl, by omega, by omega, by omega, e⟩
  ·rintro c st' ⟨rfl, l, o, rfl, a1, a2, a3, a4⟩
   exact ⟨rfl, l, o, rfl, a1, a2, a4, .inl (by omega)⟩
  ·rintro c st' ⟨rfl, l, o, rfl, a1, a2, a4, a5⟩
   dsimp only
   refine z7f B hB mono (lo := hi0 + 1 - min o (hi0 + 1)) (hi := hi0 - l) (by omega) (by omega) (fun i hi => ?_) (fun i hi hn => down _ i hi a4) h
   rcases a5 with a5 | ⟨a5, a6⟩
   ·omega
   ·exact mono i (hi0 - o) (by omega) a6
theorem z2e {st : SortSt} {lf : Bool} {ky : Keyed} {ar : Array Keyed} {ba n hi0 : Nat} {Q : Option Nat → SortSt → Prop} (hk : kindOf st = oneType') (hn : ba + n ≤ ar.size) (okk : OkK rk ky) (oka : ∀ i (h : i < ar.size), ba ≤ i → i < ba + n → OkK rk ar[i])
  (hr : ∀ i (h : i < ar.size), ba ≤ i → i < ba + n → if lf = true then rk ky < rk ar[i] else rk ar[i] < rk ky) (up : ∀ i j, i < j → j < n → cdA rk ar (ba + i) < cdA rk ar (ba + j)) (h0 : hi0 < n)
  (h : ∀ k, k ≤ n → (∀ i, i < k → cdA rk ar (ba + i) < cdK rk ky) → (∀ i, k ≤ i → i < n → cdK rk ky < cdA rk ar (ba + i)) → Q (some k) st) : wpS (model prog w) A E s (z1i lf ky ar ba n hi0) Q st := by
 have ne : ∀ i, i < n → cdA rk ar (ba + i) ≠ cdK rk ky := fun i hi e => by
  have hs : ba + i < ar.size := by omega
  rw [zk hs] at e
  have h1 := hr (ba + i) hs (by omega) (by omega)
  have h2 := (oka (ba + i) hs (by omega) (by omega)).2
  have h3 := okk.2
  unfold cdK at e
  cases lf <;> simp at h1 <;> omega
 refine z80 (fun i => decide (i < n) && decide (cdA rk ar (ba + i) < cdK rk ky)) (fun i hi Q2 q => ?_) (fun i j hij e => ?_) h0 fun k hkn h1 h2 => h k hkn (fun i hi => ?_) fun i hki hi => ?_
 ·have hs : ba + i < ar.size := by omega
  have okx := oka (ba + i) hs (by omega) (by omega)
  have h1 := hr (ba + i) hs (by omega) (by omega)
  have en := ne i hi
  rw [zk hs] at en q
  rw [decide_eq_true hi, Bool.true_and] at q
  unfold z24
  refine wpS_bind (zx hs ?_)
  cases lf with
  | true =>
   rw [if_pos rfl] at h1 ⊢
   refine z4e hk okx.1 okk.1 ?_
   rw [decide_eq_decide.mpr (z3s okx h1)]
   exact q
  | false =>
   rw [if_neg Bool.false_ne_true] at h1 ⊢
   refine wpS_bind (z4e hk okk.1 okx.1 (wpS_pure ?_))
   rw [decide_eq_decide.mpr (z3s okk h1)]
   have e2 : (!decide (cdK rk ky < cdK rk ar[ba + i])) = decide (cdK rk ar[ba + i] < cdK rk ky) := by
    rw [Bool.eq_iff_iff]
    simp only [Bool.not_eq_true', decide_eq_false_iff_not, decide_eq_true_eq]
    omega
   show Q2 (some (!decide (cdK rk ky < cdK rk ar[ba + i]))) st
   rw [e2]
   exact q
 ·rw [Bool.and_eq_true, decide_eq_true_eq, decide_eq_true_eq] at e ⊢
  rcases Nat.lt_or_ge i j with z | z
  ·have := up i j z e.1
   omega
  ·obtain rfl : i = j := by omega
   exact e
 ·have := h1 i hi
  rw [Bool.and_eq_true, decide_eq_true_eq, decide_eq_true_eq] at this
  exact this.2
 ·have := h2 i hki hi
  rw [decide_eq_true hi, Bool.true_and, decide_eq_false_iff_not] at this
  have := ne i hi
  omega
end
end PyProof.Rows
end
section
namespace PyProof.Rows
open PySem
abbrev galS (st : SortSt) (g : Nat) : SortSt := SortSt.mk' (kindOf st) (arrOf st) (pendingOf st) g (failedOf st)
def z1q : Nat → StateT SortSt Sem Unit := sortPriv% PySem.Builtin.setMinGallop
theorem z20 (g : Nat) : z1q g = modify fun s => galS s g := rfl
def z51 : Array Keyed → Array Keyed → StateT SortSt Sem (Array Keyed) := sortPriv% PySem.Builtin.mergeLo
abbrev MgS := Option (Array Keyed) × Array Keyed × Nat × Nat × Nat × Nat × Nat
def mlC (a b out : Array Keyed) (ia ib mg ac bc : Nat) : StateT SortSt Sem (ForInStep MgS) := do
 let v ← elem' a ia
 if (ia + 1 + 1 == a.size) = true then pure (.done (some (out.push v ++ b.extract ib ++ a.extract (ia + 1)), out.push v, ia + 1, ib, mg, ac, bc))
 else if (decide (ac < 7) && decide (bc < 7)) = true then pure (.done (none, out.push v, ia + 1, ib, mg, ac, bc))
 else pure (.yield (none, out.push v, ia + 1, ib, mg, ac, bc))
def mlB (a b out : Array Keyed) (ia ib mg ac bc : Nat) : StateT SortSt Sem (ForInStep MgS) := do
 let v ← elem' b ib
 if (ib + 1 == b.size) = true then pure (.done (some (out.push v ++ a.extract ia ++ b.extract (ib + 1)), out.push v, ia, ib + 1, mg, ac, bc))
 else do
  let u ← elem' a ia
  let some k ← z1i true u b (ib + 1) (b.size - (ib + 1)) 0 | pure (.done (some (out.push v ++ a.extract ia ++ b.extract (ib + 1)), out.push v, ia, ib + 1, mg, ac, bc))
  if k > 0 then
    if (ib + 1 + k == b.size) = true then pure (.done (some (out.push v ++ b.extract (ib + 1) (ib + 1 + k) ++ a.extract ia ++ b.extract (ib + 1 + k)), out.push v ++ b.extract (ib + 1) (ib + 1 + k), ia, ib + 1 + k, mg, ac, k))
    else mlC a b (out.push v ++ b.extract (ib + 1) (ib + 1 + k)) ia (ib + 1 + k) mg ac k
  else mlC a b (out.push v) ia (ib + 1) mg ac k
def mlA (a b out : Array Keyed) (ia ib mg ac bc : Nat) : StateT SortSt Sem (ForInStep MgS) := do
 z1q mg
 let v ← elem' b ib
 let some k ← z1i false v a ia (a.size - ia) 0 | pure (.done (some (out ++ a.extract ia ++ b.extract ib), out, ia, ib, mg, ac, bc))
 if k > 0 then
   if (ia + k + 1 == a.size) = true then pure (.done (some (out ++ a.extract ia (ia + k) ++ b.extract ib ++ a.extract (ia + k)), out ++ a.extract ia (ia + k), ia + k, ib, mg, k, bc))
   else if (ia + k == a.size) = true then pure (.done (some (out ++ a.extract ia (ia + k) ++ a.extract (ia + k) ++ b.extract ib), out ++ a.extract ia (ia + k), ia + k, ib, mg, k, bc))
   else mlB a b (out ++ a.extract ia (ia + k)) (ia + k) ib mg k bc
 else mlB a b out ia ib mg k bc
abbrev MoS := Option (Array Keyed) × Array Keyed × Nat × Nat × Nat × Nat
def z9e (a b : Array Keyed) (mg : Nat) (c : MoS) : StateT SortSt Sem (ForInStep MoS) := do
 let v ← elem' b c.2.2.2.1
 let u ← elem' a c.2.2.1
 let some w ← lt' v u | pure (.done (some (c.2.1 ++ a.extract c.2.2.1 ++ b.extract c.2.2.2.1), c.2.1, c.2.2.1, c.2.2.2.1, c.2.2.2.2.1, c.2.2.2.2.2))
 if w = true then do
   let v ← elem' b c.2.2.2.1
   if (c.2.2.2.1 + 1 == b.size) = true then pure (.done (some (c.2.1.push v ++ a.extract c.2.2.1 ++ b.extract (c.2.2.2.1 + 1)), c.2.1.push v, c.2.2.1, c.2.2.2.1 + 1, 0, c.2.2.2.2.2 + 1))
   else if c.2.2.2.2.2 + 1 ≥ mg then pure (.done (none, c.2.1.push v, c.2.2.1, c.2.2.2.1 + 1, 0, c.2.2.2.2.2 + 1))
   else pure (.yield (none, c.2.1.push v, c.2.2.1, c.2.2.2.1 + 1, 0, c.2.2.2.2.2 + 1))
 else do
   let u ← elem' a c.2.2.1
   if (c.2.2.1 + 1 + 1 == a.size) = true then pure (.done (some (c.2.1.push u ++ b.extract c.2.2.2.1 ++ a.extract (c.2.2.1 + 1)), c.2.1.push u, c.2.2.1 + 1, c.2.2.2.1, c.2.2.2.2.1 + 1, 0))
   else if c.2.2.2.2.1 + 1 ≥ mg then pure (.done (none, c.2.1.push u, c.2.2.1 + 1, c.2.2.2.1, c.2.2.2.2.1 + 1, 0))
   else pure (.yield (none, c.2.1.push u, c.2.2.1 + 1, c.2.2.2.1, c.2.2.2.2.1 + 1, 0))
theorem z81 (a b : Array Keyed) : z51 a b = (do
 rule "list.sort.merge-lo"
 let tot := a.size + b.size
 let fin (out : Array Keyed) (ia ib : Nat) := out ++ a.extract ia a.size ++ b.extract ib b.size
 let lst (out : Array Keyed) (ia ib : Nat) := out ++ b.extract ib b.size ++ a.extract ia a.size
 let mut out : Array Keyed := #[← elem' b 0]
 let mut ia := 0
 let mut ib := 1
 if ib == b.size then return fin out ia ib
 if ia + 1 == a.size then return lst out ia ib
 let mut mg := gallopOf (← get)
 for _ in [0:tot] do
  let mut ac := 0
  let mut bc := 0
  for _ in [0:tot] do
   let some bw ← lt' (← elem' b ib) (← elem' a ia) | return fin out ia ib
   if bw then
    out := out.push (← elem' b ib); ib := ib + 1; bc := bc + 1; ac := 0
    if ib == b.size then return fin out ia ib
    if bc ≥ mg then break
   else
    out := out.push (← elem' a ia); ia := ia + 1; ac := ac + 1; bc := 0
    if ia + 1 == a.size then return lst out ia ib
    if ac ≥ mg then break
  rule "list.sort.gallop"
  mg := mg + 1
  for _ in [0:tot] do
   if mg > 1 then mg := mg - 1
   z1q mg
   let some k ← z1i false (← elem' b ib) a ia (a.size - ia) 0 | return fin out ia ib
   ac := k
   if k > 0 then
    out := out ++ a.extract ia (ia + k); ia := ia + k
    if ia + 1 == a.size then return lst out ia ib
    if ia == a.size then return fin out ia ib
   out := out.push (← elem' b ib); ib := ib + 1
   if ib == b.size then return fin out ia ib
   let some k ← z1i true (← elem' a ia) b ib (b.size - ib) 0 | return fin out ia ib
   bc := k
   if k > 0 then
    out := out ++ b.extract ib (ib + k); ib := ib + k
    if ib == b.size then return fin out ia ib
   out := out.push (← elem' a ia); ia := ia + 1
   if ia + 1 == a.size then return lst out ia ib
   if ac < 7 && bc < 7 then break
  mg := mg + 1
  z1q mg
 unsupported "internal:list.sort.merge-bound") := rfl
structure Two (rk : Keyed → Nat) (A B : List Keyed) : Prop where
 upA : A.Pairwise fun p q => cdK rk p < cdK rk q
 upB : B.Pairwise fun p q => cdK rk p < cdK rk q
 okA : ∀ p ∈ A, OkK rk p
 okB : ∀ p ∈ B, OkK rk p
 rks : ∀ p ∈ A, ∀ q ∈ B, rk p < rk q
structure Mg (rk : Keyed → Nat) (A B L : List Keyed) (ia ib : Nat) : Prop where
 pm : (L ++ A.drop ia ++ B.drop ib).Perm (A ++ B)
 up : L.Pairwise fun p q => cdK rk p < cdK rk q
 la : ∀ p ∈ L, ∀ q ∈ A.drop ia, cdK rk p < cdK rk q
 lb : ∀ p ∈ L, ∀ q ∈ B.drop ib, cdK rk p < cdK rk q
theorem z2f {rk : Keyed → Nat} {A : List Keyed} (h : A.Pairwise fun p q => cdK rk p < cdK rk q) (i : Nat) : (A.drop i).Pairwise fun p q => cdK rk p < cdK rk q := h.sublist (List.drop_sublist i A)
theorem za5 {rk : Keyed → Nat} {A : List Keyed} (h : A.Pairwise fun p q => cdK rk p < cdK rk q) (k : Nat) : ∀ p ∈ A.take k, ∀ q ∈ A.drop k, cdK rk p < cdK rk q := by
 have := h
 rw [← List.take_append_drop k A, List.pairwise_append] at this
 exact this.2.2
theorem Mg.goA {rk : Keyed → Nat} {A B L : List Keyed} {ia ib : Nat} (T : Two rk A B) (h : Mg rk A B L ia ib) (k : Nat) (hk : ∀ p ∈ (A.drop ia).take k, ∀ q ∈ B.drop ib, cdK rk p < cdK rk q) : Mg rk A B (L ++ (A.drop ia).take k) (ia + k) ib := by
 have e : (A.drop ia).take k ++ A.drop (ia + k) = A.drop ia := by rw [← List.drop_drop]; exact List.take_append_drop k _
 have mt : ∀ p ∈ (A.drop ia).take k, p ∈ A.drop ia := fun p hp => List.mem_of_mem_take hp
 have md : ∀ p ∈ A.drop (ia + k), p ∈ A.drop ia := fun p hp => by rw [← List.drop_drop] at hp; exact List.mem_of_mem_drop hp
 refine ⟨?_, ?_, fun p hp q hq => ?_, fun p hp q hq => ?_⟩
 ·rw [List.append_assoc L, e]
  exact h.pm
 ·rw [List.pairwise_append]
  exact ⟨h.up, (z2f T.upA ia).sublist (List.take_sublist k _), fun p hp q hq => h.la p hp q (mt q hq)⟩
 ·rcases List.mem_append.mp hp with hp | hp
  ·exact h.la p hp q (md q hq)
  ·rw [← List.drop_drop] at hq
   exact za5 (z2f T.upA ia) k p hp q hq
 ·rcases List.mem_append.mp hp with hp | hp
  ·exact h.lb p hp q hq
  ·exact hk p hp q hq
theorem Mg.goB {rk : Keyed → Nat} {A B L : List Keyed} {ia ib : Nat} (T : Two rk A B) (h : Mg rk A B L ia ib) (k : Nat) (hk : ∀ p ∈ (B.drop ib).take k, ∀ q ∈ A.drop ia, cdK rk p < cdK rk q) : Mg rk A B (L ++ (B.drop ib).take k) ia (ib + k) := by
 have e : (B.drop ib).take k ++ B.drop (ib + k) = B.drop ib := by rw [← List.drop_drop]; exact List.take_append_drop k _
 have mt : ∀ p ∈ (B.drop ib).take k, p ∈ B.drop ib := fun p hp => List.mem_of_mem_take hp
 have md : ∀ p ∈ B.drop (ib + k), p ∈ B.drop ib := fun p hp => by rw [← List.drop_drop] at hp; exact List.mem_of_mem_drop hp
 refine ⟨?_, ?_, fun p hp q hq => ?_, fun p hp q hq => ?_⟩
 ·refine List.Perm.trans ?_ h.pm
  rw [List.append_assoc, List.append_assoc, List.append_assoc]
  refine List.Perm.append_left L ?_
  rw [← List.append_assoc, ← e]
  refine (List.perm_append_comm.append_right _).trans ?_
  rw [List.append_assoc, e]
  rw [e]
 ·rw [List.pairwise_append]
  exact ⟨h.up, (z2f T.upB ib).sublist (List.take_sublist k _), fun p hp q hq => h.lb p hp q (mt q hq)⟩
 ·rcases List.mem_append.mp hp with hp | hp
  ·exact h.la p hp q hq
  ·exact hk p hp q hq
 ·rcases List.mem_append.mp hp with hp | hp
  ·exact h.lb p hp q (md q hq)
  ·rw [← List.drop_drop] at hq
   exact za5 (z2f T.upB ib) k p hp q hq
def ResM (rk : Keyed → Nat) (A B L : List Keyed) : Prop := L.Perm (A ++ B) ∧ L.Pairwise fun p q => cdK rk p < cdK rk q
theorem Mg.endB {rk : Keyed → Nat} {A B L : List Keyed} {ia ib : Nat} (T : Two rk A B) (h : Mg rk A B L ia ib) (hb : B.length ≤ ib) : ResM rk A B (L ++ A.drop ia ++ B.drop ib) := by
 have p := h.pm
 rw [List.drop_eq_nil_of_le hb, List.append_nil] at p ⊢
 refine ⟨p, ?_⟩
 rw [List.pairwise_append]
 exact ⟨h.up, z2f T.upA ia, h.la⟩
theorem Mg.endA {rk : Keyed → Nat} {A B L : List Keyed} {ia ib : Nat} (T : Two rk A B) (h : Mg rk A B L ia ib) (hl : ∀ p ∈ B, ∀ q ∈ A.drop ia, cdK rk p < cdK rk q) : ResM rk A B (L ++ B.drop ib ++ A.drop ia) := by
 refine ⟨?_, ?_⟩
 ·refine List.Perm.trans ?_ h.pm
  rw [List.append_assoc, List.append_assoc]
  exact List.Perm.append_left L List.perm_append_comm
 ·rw [List.pairwise_append, List.pairwise_append]
  refine ⟨⟨h.up, z2f T.upB ib, h.lb⟩, z2f T.upA ia, fun p hp q hq => ?_⟩
  rcases List.mem_append.mp hp with hp | hp
  ·exact h.la p hp q hq
  ·exact hl p (List.mem_of_mem_drop hp) q hq
theorem z1a {α : Type} (b : Array α) (i : Nat) : (b.extract i).toList = b.toList.drop i := by
 rw [Array.toList_extract, List.extract_eq_drop_take]
 exact List.take_of_length_le (by rw [List.length_drop]; simp)
theorem z8g {α : Type} (a : Array α) (i k : Nat) : (a.extract i (i + k)).toList = (a.toList.drop i).take k := by
 rw [Array.toList_extract, List.extract_eq_drop_take]
 congr 1
 omega
theorem z2g {α : Type} {a : Array α} {i : Nat} (h : i < a.size) : (a.toList.drop i).take 1 = [a[i]] := by
 rw [List.drop_eq_getElem_cons (by simpa using h)]
 simp
theorem z2m {α : Type} {a : Array α} {i : Nat} {p : α} (h : p ∈ a.toList.drop i) : ∃ j, i ≤ j ∧ ∃ hj : j < a.size, p = a[j] := by
 obtain ⟨k, hk, e⟩ := List.getElem_of_mem h
 rw [List.getElem_drop] at e
 rw [List.length_drop] at hk
 have : a.toList.length = a.size := by simp
 exact ⟨i + k, by omega, by omega, by rw [← e]; simp⟩
theorem z2n {α : Type} {a : Array α} {i k : Nat} {p : α} (h : p ∈ (a.toList.drop i).take k) : ∃ j, i ≤ j ∧ j < i + k ∧ ∃ hj : j < a.size, p = a[j] := by
 obtain ⟨n, hn, e⟩ := List.getElem_of_mem h
 rw [List.getElem_take, List.getElem_drop] at e
 rw [List.length_take, List.length_drop] at hn
 have : a.toList.length = a.size := by simp
 exact ⟨i + n, by omega, by omega, by omega, by rw [← e]; simp⟩
theorem z5j {rk : Keyed → Nat} {a : Array Keyed} (h : a.toList.Pairwise fun p q => cdK rk p < cdK rk q) {i j : Nat} (hij : i < j) (hj : j < a.size) : cdA rk a i < cdA rk a j := by
 rw [zk (by omega), zk hj]
 have := List.pairwise_iff_getElem.mp h i j (by simp; omega) (by simpa using hj) hij
 simpa using this
theorem z4f {rk : Keyed → Nat} {a : Array Keyed} (h : a.toList.Pairwise fun p q => cdK rk p < cdK rk q) {i j : Nat} (hij : i ≤ j) (hj : j < a.size) : cdA rk a i ≤ cdA rk a j := by
 rcases Nat.lt_or_eq_of_le hij with z | z
 ·exact Int.le_of_lt (z5j h z hj)
 ·rw [z]; exact Int.le_refl _
def OkC (rk : Keyed → Nat) (a b : Array Keyed) (n : Nat) (r : Option (Array Keyed)) (out : Array Keyed) (ia ib : Nat) : Prop :=
 (∃ z, r = some z ∧ ResM rk a.toList b.toList z.toList) ∨ (r = none ∧ Mg rk a.toList b.toList out.toList ia ib ∧ ia + 1 < a.size ∧ ib < b.size ∧ n ≤ ia + ib)
theorem OkC.mono {rk : Keyed → Nat} {a b : Array Keyed} {n m : Nat} (hnm : n ≤ m) {r : Option (Array Keyed)} {out : Array Keyed} {i j : Nat} (o : OkC rk a b m r out i j) : OkC rk a b n r out i j := o.imp id fun ⟨e, o1, o2, o3, o4⟩ => ⟨e, o1, o2, o3, Nat.le_trans hnm o4⟩
section
variable {prog : Program} {w : World} {A : Around} {E : Value → Shared → Prop} {s : Shared} {rk : Keyed → Nat} {a b : Array Keyed}
def Last (rk : Keyed → Nat) (a b : Array Keyed) : Prop := ∀ j, j < b.size → cdA rk b j < cdA rk a (a.size - 1)
theorem Last.end (h : Last rk a b) {ia : Nat} (e : ia + 1 = a.size) : ∀ p ∈ b.toList, ∀ q ∈ a.toList.drop ia, cdK rk p < cdK rk q := fun p hp q hq => by
 obtain ⟨j, hj, rfl⟩ := List.getElem_of_mem hp
 obtain ⟨i, h1, h2, rfl⟩ := z2m hq
 have := h j (by simpa using hj)
 obtain rfl : i = a.size - 1 := by omega
 rw [zk (by simpa using hj), zk h2] at this
 simpa using this
theorem z5v (T : Two rk a.toList b.toList) {ia ib k : Nat} (hb : ib < b.size) (lt : ∀ i, ia ≤ i → i < ia + k → i < a.size → cdA rk a i < cdA rk b ib) : ∀ p ∈ (a.toList.drop ia).take k, ∀ q ∈ b.toList.drop ib, cdK rk p < cdK rk q := fun p hp q hq => by
 obtain ⟨i, h1, h2, h3, rfl⟩ := z2n hp
 obtain ⟨j, g1, g2, rfl⟩ := z2m hq
 have := lt i h1 h2 h3
 have := z4f T.upB g1 g2
 rw [← zk h3, ← zk g2]
 omega
theorem z4g (T : Two rk a.toList b.toList) {ia ib k : Nat} (ha : ia < a.size) (lt : ∀ i, ib ≤ i → i < ib + k → i < b.size → cdA rk b i < cdA rk a ia) : ∀ p ∈ (b.toList.drop ib).take k, ∀ q ∈ a.toList.drop ia, cdK rk p < cdK rk q := fun p hp q hq => by
 obtain ⟨i, h1, h2, h3, rfl⟩ := z2n hp
 obtain ⟨j, g1, g2, rfl⟩ := z2m hq
 have := lt i h1 h2 h3
 have := z4f T.upA g1 g2
 rw [← zk h3, ← zk g2]
 omega
theorem z8h {st : SortSt} {out : Array Keyed} {ia ib mg ac bc : Nat} (T : Two rk a.toList b.toList) (hl : Last rk a b) (h : Mg rk a.toList b.toList out.toList ia ib) (ha : ia + 1 < a.size) (hb : ib < b.size) (lt : cdA rk a ia < cdA rk b ib) :
  wpS (model prog w) A E s (mlC a b out ia ib mg ac bc) (fun r st' => st' = st ∧ match r with | .done c => OkC rk a b (ia + ib + 1) c.1 c.2.1 c.2.2.1 c.2.2.2.1 | .yield c => c.1 = none ∧ OkC rk a b (ia + ib + 1) c.1 c.2.1 c.2.2.1 c.2.2.2.1) st := by
 unfold mlC
 have ha0 : ia < a.size := by omega
 refine wpS_bind (zx ha0 ?_)
 have h' := h.goA T 1 (z5v (ia := ia) (k := 1) T hb fun i h1 h2 h3 => (show i = ia by omega).symm ▸ lt)
 rw [z2g ha0] at h'
 have e1 : (out.push a[ia]).toList = out.toList ++ [a[ia]] := by simp
 by_cases c : ia + 1 + 1 = a.size
 ·rw [if_pos (by simpa using c)]
  refine wpS_pure ⟨rfl, .inl ⟨_, rfl, ?_⟩⟩
  rw [Array.toList_append, Array.toList_append, z1a, z1a, e1]
  exact h'.endA T (hl.end c)
 ·rw [if_neg (by simpa using c)]
  rw [← e1] at h'
  split
  ·exact wpS_pure ⟨rfl, .inr ⟨rfl, h', by show ia + 1 + 1 < _; omega, hb, by show _ ≤ ia + 1 + ib; omega⟩⟩
  ·exact wpS_pure ⟨rfl, rfl, .inr ⟨rfl, h', by show ia + 1 + 1 < _; omega, hb, by show _ ≤ ia + 1 + ib; omega⟩⟩
theorem z8i {st : SortSt} {out : Array Keyed} {ia ib mg ac bc : Nat} (T : Two rk a.toList b.toList) (hl : Last rk a b) (hk : kindOf st = oneType') (h : Mg rk a.toList b.toList out.toList ia ib) (ha : ia + 1 < a.size) (hb : ib < b.size) (lt : cdA rk b ib < cdA rk a ia) :
  wpS (model prog w) A E s (mlB a b out ia ib mg ac bc) (fun r st' => st' = st ∧ match r with | .done c => OkC rk a b (ia + ib + 1) c.1 c.2.1 c.2.2.1 c.2.2.2.1 | .yield c => c.1 = none ∧ OkC rk a b (ia + ib + 1) c.1 c.2.1 c.2.2.1 c.2.2.2.1) st := by
 unfold mlB
 have ha0 : ia < a.size := by omega
 refine wpS_bind (zx hb ?_)
 have h' := h.goB T 1 (z4g (ib := ib) (k := 1) T ha0 fun i h1 h2 h3 => (show i = ib by omega).symm ▸ lt)
 rw [z2g hb] at h'
 have e1 : (out.push b[ib]).toList = out.toList ++ [b[ib]] := by simp
 by_cases c : ib + 1 = b.size
 ·rw [if_pos (by simpa using c)]
  refine wpS_pure ⟨rfl, .inl ⟨_, rfl, ?_⟩⟩
  rw [Array.toList_append, Array.toList_append, z1a, z1a, e1]
  exact h'.endB T (by simp; omega)
 ·rw [if_neg (by simpa using c)]
  rw [← e1] at h'
  have hb1 : ib + 1 < b.size := by omega
  refine wpS_bind (zx ha0 ?_)
  refine wpS_bind (z2e (rk := rk) hk (by omega) (T.okA _ (by simp)) (fun i hi _ _ => T.okB _ (by simp)) (fun i hi _ _ => by rw [if_pos rfl]; exact T.rks _ (by simp) _ (by simp)) (fun i j hij hj => z5j T.upB (by omega) (by omega)) (by omega) fun k hkn g1 g2 => ?_)
  dsimp only
  have gA : ∀ i, ib + 1 ≤ i → i < ib + 1 + k → i < b.size → cdA rk b i < cdA rk a ia := fun i h1 h2 h3 => by
   have := g1 (i - (ib + 1)) (by omega)
   rw [show ib + 1 + (i - (ib + 1)) = i by omega] at this
   rw [zk ha0]
   exact this
  have gB : ib + 1 + k < b.size → cdA rk a ia < cdA rk b (ib + 1 + k) := fun z => by
   have := g2 k (Nat.le_refl _) (by omega)
   rw [zk ha0]
   exact this
  by_cases hk0 : k > 0
  ·rw [if_pos hk0]
   have h2 := h'.goB T k (z4g (ib := ib + 1) T ha0 gA)
   have e2 : (out.push b[ib] ++ b.extract (ib + 1) (ib + 1 + k)).toList = (out.push b[ib]).toList ++ (b.toList.drop (ib + 1)).take k := by rw [Array.toList_append, z8g]
   by_cases c2 : ib + 1 + k = b.size
   ·rw [if_pos (by simpa using c2)]
    refine wpS_pure ⟨rfl, .inl ⟨_, rfl, ?_⟩⟩
    rw [Array.toList_append, Array.toList_append, z1a, z1a, e2]
    exact h2.endB T (by simp; omega)
   ·rw [if_neg (by simpa using c2)]
    rw [← e2] at h2
    refine wpS_mono (z8h T hl h2 ha (by omega) (gB (by omega))) fun r st' ⟨e, q⟩ => ⟨e, ?_⟩
    cases r with
    | done c => exact OkC.mono (by omega) q
    | yield c => exact ⟨q.1, OkC.mono (by omega) q.2⟩
  ·rw [if_neg hk0]
   obtain rfl : k = 0 := by omega
   refine wpS_mono (z8h T hl h' ha (by omega) (gB (by omega))) fun r st' ⟨e, q⟩ => ⟨e, ?_⟩
   cases r with
   | done c => exact OkC.mono (by omega) q
   | yield c => exact ⟨q.1, OkC.mono (by omega) q.2⟩
theorem zbm {st : SortSt} {out : Array Keyed} {ia ib mg ac bc : Nat} (T : Two rk a.toList b.toList) (hl : Last rk a b) (hk : kindOf st = oneType') (h : Mg rk a.toList b.toList out.toList ia ib) (ha : ia + 1 < a.size) (hb : ib < b.size) :
  wpS (model prog w) A E s (mlA a b out ia ib mg ac bc) (fun r st' => st' = galS st mg ∧ match r with | .done c => OkC rk a b (ia + ib + 1) c.1 c.2.1 c.2.2.1 c.2.2.2.1 | .yield c => c.1 = none ∧ OkC rk a b (ia + ib + 1) c.1 c.2.1 c.2.2.1 c.2.2.2.1) st := by
 unfold mlA
 rw [z20]
 refine wpS_bind (wpS_modify (wpS_bind (zx hb ?_)))
 have kk : kindOf (galS st mg) = oneType' := hk
 refine wpS_bind (z2e (rk := rk) kk (by omega) (T.okB _ (by simp)) (fun i hi _ _ => T.okA _ (by simp)) (fun i hi _ _ => by rw [if_neg Bool.false_ne_true]; exact T.rks _ (by simp) _ (by simp)) (fun i j hij hj => z5j T.upA (by omega) (by omega)) (by omega) fun k hkn g1 g2 => ?_)
 dsimp only
 have gA : ∀ i, ia ≤ i → i < ia + k → i < a.size → cdA rk a i < cdA rk b ib := fun i h1 h2 h3 => by
  have := g1 (i - ia) (by omega)
  rw [show ia + (i - ia) = i by omega] at this
  rw [zk hb]
  exact this
 have kle : ia + k < a.size := by
  rcases Nat.lt_or_ge (ia + k) a.size with z | z
  ·exact z
  ·have h1 := gA (a.size - 1) (by omega) (by omega) (by omega)
   have h2 := hl ib hb
   omega
 have gB : cdA rk b ib < cdA rk a (ia + k) := by
  have := g2 k (Nat.le_refl _) (by omega)
  rw [zk hb]
  exact this
 by_cases hk0 : k > 0
 ·rw [if_pos hk0]
  have h2 := h.goA T k (z5v T hb gA)
  have e2 : (out ++ a.extract ia (ia + k)).toList = out.toList ++ (a.toList.drop ia).take k := by rw [Array.toList_append, z8g]
  by_cases c2 : ia + k + 1 = a.size
  ·rw [if_pos (by simpa using c2)]
   refine wpS_pure ⟨rfl, .inl ⟨_, rfl, ?_⟩⟩
   rw [Array.toList_append, Array.toList_append, z1a, z1a, e2]
   exact h2.endA T (hl.end c2)
  ·rw [if_neg (by simpa using c2), if_neg (by simp; omega)]
   rw [← e2] at h2
   refine wpS_mono (z8i T hl kk h2 (by omega) hb gB) fun r st' ⟨e, q⟩ => ⟨e, ?_⟩
   cases r with
   | done c => exact OkC.mono (by omega) q
   | yield c => exact ⟨q.1, OkC.mono (by omega) q.2⟩
 ·rw [if_neg hk0]
  obtain rfl : k = 0 := by omega
  exact z8i T hl kk h ha hb gB
theorem za6 {st : SortSt} {mg ia ib ac bc : Nat} {out : Array Keyed} (T : Two rk a.toList b.toList) (hl : Last rk a b) (hk : kindOf st = oneType') (h : Mg rk a.toList b.toList out.toList ia ib) (ha : ia + 1 < a.size) (hb : ib < b.size) :
  wpS (model prog w) A E s (z9e a b mg (none, out, ia, ib, ac, bc)) (fun r st' => st' = st ∧ match r with | .done c => OkC rk a b (ia + ib + 1) c.1 c.2.1 c.2.2.1 c.2.2.2.1 | .yield c => c.1 = none ∧ OkC rk a b (ia + ib + 1) c.1 c.2.1 c.2.2.1 c.2.2.2.1) st := by
 have ha0 : ia < a.size := by omega
 unfold z9e
 dsimp only
 refine wpS_bind (zx hb (wpS_bind (zx ha0 ?_)))
 refine wpS_bind (z4e hk (T.okB _ (by simp)).1 (T.okA _ (by simp)).1 ?_)
 have e0 := z3s (rk := rk) (p := b[ib]) (q := a[ia]) (T.okB _ (by simp)) (T.rks _ (by simp) _ (by simp))
 rw [decide_eq_decide.mpr e0]
 dsimp only
 have ne : cdK rk b[ib] ≠ cdK rk a[ia] := fun e => by
  have h1 := T.rks a[ia] (by simp) b[ib] (by simp)
  have h2 := (T.okA a[ia] (by simp)).2
  have h3 := (T.okB b[ib] (by simp)).2
  unfold cdK at e
  omega
 by_cases c : cdK rk b[ib] < cdK rk a[ia]
 ·rw [if_pos (decide_eq_true c)]
  refine wpS_bind (zx hb ?_)
  have h' := h.goB T 1 (z4g (ib := ib) (k := 1) T ha0 fun i h1 h2 h3 => by
   obtain rfl : i = ib := by omega
   rw [zk hb, zk ha0]
   exact c)
  rw [z2g hb] at h'
  have e1 : (out.push b[ib]).toList = out.toList ++ [b[ib]] := by simp
  by_cases c1 : ib + 1 = b.size
  ·rw [if_pos (by simpa using c1)]
   refine wpS_pure ⟨rfl, .inl ⟨_, rfl, ?_⟩⟩
   rw [Array.toList_append, Array.toList_append, z1a, z1a, e1]
   exact h'.endB T (by simp; omega)
  ·rw [if_neg (by simpa using c1)]
   rw [← e1] at h'
   split
   ·exact wpS_pure ⟨rfl, .inr ⟨rfl, h', ha, by show ib + 1 < _; omega, by show _ ≤ ia + (ib + 1); omega⟩⟩
   ·exact wpS_pure ⟨rfl, rfl, .inr ⟨rfl, h', ha, by show ib + 1 < _; omega, by show _ ≤ ia + (ib + 1); omega⟩⟩
 ·rw [if_neg (by simpa using c)]
  refine wpS_bind (zx ha0 ?_)
  have h' := h.goA T 1 (z5v (ia := ia) (k := 1) T hb fun i h1 h2 h3 => by
   obtain rfl : i = ia := by omega
   rw [zk hb, zk ha0]
   omega)
  rw [z2g ha0] at h'
  have e1 : (out.push a[ia]).toList = out.toList ++ [a[ia]] := by simp
  by_cases c1 : ia + 1 + 1 = a.size
  ·rw [if_pos (by simpa using c1)]
   refine wpS_pure ⟨rfl, .inl ⟨_, rfl, ?_⟩⟩
   rw [Array.toList_append, Array.toList_append, z1a, z1a, e1]
   exact h'.endA T (hl.end c1)
  ·rw [if_neg (by simpa using c1)]
   rw [← e1] at h'
   split
   ·exact wpS_pure ⟨rfl, .inr ⟨rfl, h', by show ia + 1 + 1 < _; omega, hb, by show _ ≤ ia + 1 + ib; omega⟩⟩
   ·exact wpS_pure ⟨rfl, rfl, .inr ⟨rfl, h', by show ia + 1 + 1 < _; omega, hb, by show _ ≤ ia + 1 + ib; omega⟩⟩
theorem z7g {st : SortSt} {Q : Array Keyed → SortSt → Prop} (T : Two rk a.toList b.toList) (hl : Last rk a b) (hk : kindOf st = oneType') (ha : 0 < a.size) (hb : 0 < b.size) (h0 : cdA rk b 0 < cdA rk a 0)
  (h : ∀ r g, ResM rk a.toList b.toList r.toList → Q r (galS st g)) : wpS (model prog w) A E s (z51 a b) Q st := by
 rw [z81]
 refine wpS_bind (wpS_lift (wpAny_rule ⟨rfl, ?_⟩))
 dsimp only
 refine wpS_bind (zx hb ?_)
 have hM : Mg rk a.toList b.toList [b[0]] 0 1 := by
  have h0 : Mg rk a.toList b.toList [] 0 0 := ⟨List.Perm.refl _, List.Pairwise.nil, fun p hp => (by cases hp), fun p hp => (by cases hp)⟩
  have := h0.goB T 1 (z4g (ib := 0) (k := 1) T ha fun i h1 h2 h3 => by
   obtain rfl : i = 0 := by omega
   assumption)
  rw [z2g hb] at this
  exact this
 have eG : galS st (gallopOf st) = st := rfl
 by_cases c1 : 1 = b.size
 ·rw [if_pos (by simpa using c1), ← eG]
  refine wpS_pure (h _ _ ?_)
  have := hM.endB T (by simp; omega)
  rw [Array.toList_append, Array.toList_append, z1a, z1a]
  exact this
 rw [if_neg (by simpa using c1)]
 by_cases c2 : 0 + 1 = a.size
 ·rw [if_pos (by simpa using c2), ← eG]
  refine wpS_pure (h _ _ ?_)
  have := hM.endA T (hl.end c2)
  rw [Array.toList_append, Array.toList_append, z1a, z1a]
  exact this
 rw [if_neg (by simpa using c2)]
 refine wpS_bind (wpS_get ?_)
 refine wpS_bind (wpS_mono (wpS_forRange (I := fun x c st' => c.1 = none ∧ OkC rk a b (x + 1) c.1 c.2.1 c.2.2.1 c.2.2.2.1 ∧ ∃ g, st' = galS st g)
  (Q := fun c st' => (∃ z, c.1 = some z ∧ ResM rk a.toList b.toList z.toList) ∧ ∃ g, st' = galS st g) ?_ ?_ ⟨rfl, .inr ⟨rfl, hM, by show 0 + 1 < _; omega, by show 1 < _; omega, Nat.le_refl _⟩, _, rfl⟩) ?_)
 ·rintro x ⟨r, out, ia, ib, mg⟩ st' - hx ⟨e, o, g, rfl⟩
  obtain rfl : r = none := e
  obtain ⟨z, ez, -⟩ | ⟨-, hM, ha1, hb1, hn⟩ := o
  ·cases ez
  dsimp only at hM ha1 hb1 hn ⊢
  have kg : ∀ g, kindOf (galS st g) = oneType' := fun _ => hk
  refine wpS_bind (wpS_mono (wpS_forRange (I := fun y c st' => c.1 = none ∧ OkC rk a b (ia + ib + y) c.1 c.2.1 c.2.2.1 c.2.2.2.1 ∧ st' = galS st g)
   (Q := fun c st' => OkC rk a b (ia + ib) c.1 c.2.1 c.2.2.1 c.2.2.2.1 ∧ st' = galS st g) ?_ ?_ ⟨rfl, .inr ⟨rfl, hM, ha1, hb1, Nat.le_refl _⟩, rfl⟩) ?_)
  ·rintro y ⟨r, out2, ia2, ib2, ac, bc⟩ st' - hy ⟨e, o, rfl⟩
   obtain rfl : r = none := e
   obtain ⟨z, ez, -⟩ | ⟨-, hM2, ha2, hb2, hn2⟩ := o
   ·cases ez
   dsimp only at hM2 ha2 hb2 hn2
   show wpS _ _ _ _ (z9e a b mg (none, out2, ia2, ib2, ac, bc)) _ _
   refine wpS_mono (za6 T hl (kg g) hM2 ha2 hb2) fun r st' ⟨e, q⟩ => ?_
   cases r with
   | done c => exact ⟨OkC.mono (by omega) q, e⟩
   | yield c => exact ⟨q.1, OkC.mono (by omega) q.2, e⟩
  ·rintro ⟨r, out2, ia2, ib2, ac, bc⟩ st' ⟨e, o, rfl⟩
   exact ⟨OkC.mono (by omega) o, rfl⟩
  ·rintro ⟨r, out2, ia2, ib2, ac, bc⟩ st' ⟨o, rfl⟩
   obtain ⟨z, ez, hz⟩ | ⟨e, hM2, ha2, hb2, hn2⟩ := o
   ·obtain rfl : r = some z := ez
    exact wpS_pure ⟨⟨_, rfl, hz⟩, _, rfl⟩
   obtain rfl : r = none := e
   dsimp only at hM2 ha2 hb2 hn2 ⊢
   refine wpS_bind (wpS_lift (wpAny_rule ⟨rfl, ?_⟩))
   refine wpS_bind (wpS_mono (wpS_forRange (I := fun y c st' => c.1 = none ∧ OkC rk a b (ia + ib + y) c.1 c.2.1 c.2.2.1 c.2.2.2.1 ∧ ∃ g, st' = galS st g)
    (Q := fun c st' => OkC rk a b (ia + ib + 1) c.1 c.2.1 c.2.2.1 c.2.2.2.1 ∧ ∃ g, st' = galS st g) ?_ ?_ ⟨rfl, .inr ⟨rfl, hM2, ha2, hb2, hn2⟩, g, rfl⟩) ?_)
   ·rintro y ⟨r, out3, ia3, ib3, mg3, ac3, bc3⟩ st' - hy ⟨e, o, g3, rfl⟩
    obtain rfl : r = none := e
    obtain ⟨z, ez, -⟩ | ⟨-, hM3, ha3, hb3, hn3⟩ := o
    ·cases ez
    dsimp only at hM3 ha3 hb3 hn3
    have go : ∀ mg', wpS (model prog w) A E s (mlA a b out3 ia3 ib3 mg' ac3 bc3) (fun r st' => match r with | .done c => OkC rk a b (ia + ib + 1) c.1 c.2.1 c.2.2.1 c.2.2.2.1 ∧ ∃ g, st' = galS st g | .yield c => c.1 = none ∧ OkC rk a b (ia + ib + (y + 1)) c.1 c.2.1 c.2.2.1 c.2.2.2.1 ∧ ∃ g, st' = galS st g) (galS st g3) := fun mg' =>
     wpS_mono (zbm T hl (kg g3) hM3 ha3 hb3) fun r st' ⟨e, q⟩ => by
      cases r with
      | done c => exact ⟨OkC.mono (by omega) q, mg', e⟩
      | yield c => exact ⟨q.1, OkC.mono (by omega) q.2, mg', e⟩
    dsimp only
    by_cases cm : mg3 > 1
    ·rw [if_pos cm]
     refine wpS_mono (go (mg3 - 1)) fun r st' q => ?_
     cases r with
     | done c => exact q
     | yield c => exact q
    ·rw [if_neg cm]
     refine wpS_mono (go mg3) fun r st' q => ?_
     cases r with
     | done c => exact q
     | yield c => exact q
   ·rintro ⟨r, out3, ia3, ib3, mg3, ac3, bc3⟩ st' ⟨e, o, g3, rfl⟩
    refine ⟨OkC.mono ?_ o, g3, rfl⟩
    omega
   ·rintro ⟨r, out3, ia3, ib3, mg3, ac3, bc3⟩ st' ⟨o, g3, rfl⟩
    obtain ⟨z, ez, hz⟩ | ⟨e, hM3, ha3, hb3, hn3⟩ := o
    ·obtain rfl : r = some z := ez
     exact wpS_pure ⟨⟨_, rfl, hz⟩, _, rfl⟩
    obtain rfl : r = none := e
    dsimp only at hM3 ha3 hb3 hn3 ⊢
    rw [z20]
    refine wpS_bind (wpS_modify (wpS_pure ⟨rfl, .inr ⟨rfl, hM3, ha3, hb3, ?_⟩, _, rfl⟩))
    show _ ≤ ia3 + ib3
    omega
 ·rintro ⟨r, out, ia, ib, mg⟩ st' ⟨e, o, g, rfl⟩
  obtain rfl : r = none := e
  obtain ⟨z, ez, -⟩ | ⟨-, hM, ha1, hb1, hn⟩ := o
  ·cases ez
  dsimp only at ha1 hb1 hn
  omega
 ·rintro ⟨r, out, ia, ib, mg⟩ st' ⟨⟨z, ez, hz⟩, g, rfl⟩
  obtain rfl : r = some z := ez
  exact wpS_pure (h _ _ hz)
end
end PyProof.Rows
end
section
namespace PyProof.Rows
open PySem
def z52 : Array Keyed → Array Keyed → StateT SortSt Sem (Array Keyed) := sortPriv% PySem.Builtin.mergeHi
theorem z82 (a b : Array Keyed) : z52 a b = (do
 rule "list.sort.merge-hi"
 let tot := a.size + b.size
 let fin (out : Array Keyed) (ia ib : Nat) := a.extract 0 ia ++ b.extract 0 ib ++ out.reverse
 let fst (out : Array Keyed) (ia ib : Nat) := b.extract 0 ib ++ a.extract 0 ia ++ out.reverse
 let mut ia := a.size - 1
 let mut ib := b.size
 let mut out : Array Keyed := #[← elem' a ia]
 if ia == 0 then return fin out ia ib
 if ib == 1 then return fst out ia ib
 let mut mg := gallopOf (← get)
 for _ in [0:tot] do
  let mut ac := 0
  let mut bc := 0
  for _ in [0:tot] do
   let some aw ← lt' (← elem' b (ib - 1)) (← elem' a (ia - 1)) | return fin out ia ib
   if aw then
    ia := ia - 1; out := out.push (← elem' a ia); ac := ac + 1; bc := 0
    if ia == 0 then return fin out ia ib
    if ac ≥ mg then break
   else
    ib := ib - 1; out := out.push (← elem' b ib); bc := bc + 1; ac := 0
    if ib == 1 then return fst out ia ib
    if bc ≥ mg then break
  rule "list.sort.gallop"
  mg := mg + 1
  for _ in [0:tot] do
   if mg > 1 then mg := mg - 1
   z1q mg
   let some at_ ← z1i false (← elem' b (ib - 1)) a 0 ia (ia - 1) | return fin out ia ib
   let k := ia - at_
   ac := k
   if k > 0 then
    out := out ++ (a.extract at_ ia).reverse; ia := at_
    if ia == 0 then return fin out ia ib
   ib := ib - 1; out := out.push (← elem' b ib)
   if ib == 1 then return fst out ia ib
   let some at_ ← z1i true (← elem' a (ia - 1)) b 0 ib (ib - 1) | return fin out ia ib
   let k := ib - at_
   bc := k
   if k > 0 then
    out := out ++ (b.extract at_ ib).reverse; ib := at_
    if ib == 1 then return fst out ia ib
    if ib == 0 then return fin out ia ib
   ia := ia - 1; out := out.push (← elem' a ia)
   if ia == 0 then return fin out ia ib
   if ac < 7 && bc < 7 then break
  mg := mg + 1
  z1q mg
 unsupported "internal:list.sort.merge-bound") := rfl
abbrev HgS := Option (Array Keyed) × Nat × Nat × Array Keyed × Nat × Nat × Nat
abbrev HoS := Option (Array Keyed) × Nat × Nat × Array Keyed × Nat × Nat
def mhC (a b out : Array Keyed) (ia ib mg ac bc : Nat) : StateT SortSt Sem (ForInStep HgS) := do
 let v ← elem' a (ia - 1)
 if (ia - 1 == 0) = true then pure (.done (some (a.extract 0 (ia - 1) ++ b.extract 0 ib ++ (out.push v).reverse), ia - 1, ib, out.push v, mg, ac, bc))
 else if (decide (ac < 7) && decide (bc < 7)) = true then pure (.done (none, ia - 1, ib, out.push v, mg, ac, bc))
 else pure (.yield (none, ia - 1, ib, out.push v, mg, ac, bc))
def mhB (a b out : Array Keyed) (ia ib mg ac bc : Nat) : StateT SortSt Sem (ForInStep HgS) := do
 let v ← elem' b (ib - 1)
 if (ib - 1 == 1) = true then pure (.done (some (b.extract 0 (ib - 1) ++ a.extract 0 ia ++ (out.push v).reverse), ia, ib - 1, out.push v, mg, ac, bc))
 else do
  let u ← elem' a (ia - 1)
  let some at2 ← z1i true u b 0 (ib - 1) (ib - 1 - 1) | pure (.done (some (a.extract 0 ia ++ b.extract 0 (ib - 1) ++ (out.push v).reverse), ia, ib - 1, out.push v, mg, ac, bc))
  if ib - 1 - at2 > 0 then
    if (at2 == 1) = true then pure (.done (some (b.extract 0 at2 ++ a.extract 0 ia ++ (out.push v ++ (b.extract at2 (ib - 1)).reverse).reverse), ia, at2, out.push v ++ (b.extract at2 (ib - 1)).reverse, mg, ac, ib - 1 - at2))
    else if (at2 == 0) = true then pure (.done (some (a.extract 0 ia ++ b.extract 0 at2 ++ (out.push v ++ (b.extract at2 (ib - 1)).reverse).reverse), ia, at2, out.push v ++ (b.extract at2 (ib - 1)).reverse, mg, ac, ib - 1 - at2))
    else mhC a b (out.push v ++ (b.extract at2 (ib - 1)).reverse) ia at2 mg ac (ib - 1 - at2)
  else mhC a b (out.push v) ia (ib - 1) mg ac (ib - 1 - at2)
def mhA (a b out : Array Keyed) (ia ib mg ac bc : Nat) : StateT SortSt Sem (ForInStep HgS) := do
 z1q mg
 let v ← elem' b (ib - 1)
 let some at1 ← z1i false v a 0 ia (ia - 1) | pure (.done (some (a.extract 0 ia ++ b.extract 0 ib ++ out.reverse), ia, ib, out, mg, ac, bc))
 if ia - at1 > 0 then
   if (at1 == 0) = true then pure (.done (some (a.extract 0 at1 ++ b.extract 0 ib ++ (out ++ (a.extract at1 ia).reverse).reverse), at1, ib, out ++ (a.extract at1 ia).reverse, mg, ia - at1, bc))
   else mhB a b (out ++ (a.extract at1 ia).reverse) at1 ib mg (ia - at1) bc
 else mhB a b out ia ib mg (ia - at1) bc
def z9f (a b : Array Keyed) (mg : Nat) (c : HoS) : StateT SortSt Sem (ForInStep HoS) := do
 let v ← elem' b (c.2.2.1 - 1)
 let u ← elem' a (c.2.1 - 1)
 let some w ← lt' v u | pure (.done (some (a.extract 0 c.2.1 ++ b.extract 0 c.2.2.1 ++ c.2.2.2.1.reverse), c.2.1, c.2.2.1, c.2.2.2.1, c.2.2.2.2.1, c.2.2.2.2.2))
 if w = true then do
   let u ← elem' a (c.2.1 - 1)
   if (c.2.1 - 1 == 0) = true then pure (.done (some (a.extract 0 (c.2.1 - 1) ++ b.extract 0 c.2.2.1 ++ (c.2.2.2.1.push u).reverse), c.2.1 - 1, c.2.2.1, c.2.2.2.1.push u, c.2.2.2.2.1 + 1, 0))
   else if c.2.2.2.2.1 + 1 ≥ mg then pure (.done (none, c.2.1 - 1, c.2.2.1, c.2.2.2.1.push u, c.2.2.2.2.1 + 1, 0))
   else pure (.yield (none, c.2.1 - 1, c.2.2.1, c.2.2.2.1.push u, c.2.2.2.2.1 + 1, 0))
 else do
   let v ← elem' b (c.2.2.1 - 1)
   if (c.2.2.1 - 1 == 1) = true then pure (.done (some (b.extract 0 (c.2.2.1 - 1) ++ a.extract 0 c.2.1 ++ (c.2.2.2.1.push v).reverse), c.2.1, c.2.2.1 - 1, c.2.2.2.1.push v, 0, c.2.2.2.2.2 + 1))
   else if c.2.2.2.2.2 + 1 ≥ mg then pure (.done (none, c.2.1, c.2.2.1 - 1, c.2.2.2.1.push v, 0, c.2.2.2.2.2 + 1))
   else pure (.yield (none, c.2.1, c.2.2.1 - 1, c.2.2.2.1.push v, 0, c.2.2.2.2.2 + 1))
structure Mh (rk : Keyed → Nat) (A B U : List Keyed) (ia ib : Nat) : Prop where
 pm : (A.take ia ++ B.take ib ++ U).Perm (A ++ B)
 up : U.Pairwise fun p q => cdK rk p < cdK rk q
 la : ∀ p ∈ A.take ia, ∀ q ∈ U, cdK rk p < cdK rk q
 lb : ∀ p ∈ B.take ib, ∀ q ∈ U, cdK rk p < cdK rk q
theorem z2h {rk : Keyed → Nat} {A : List Keyed} (h : A.Pairwise fun p q => cdK rk p < cdK rk q) (i : Nat) : (A.take i).Pairwise fun p q => cdK rk p < cdK rk q := h.sublist (List.take_sublist i A)
theorem z3t {A : List Keyed} {i j : Nat} (h : j ≤ i) : A.take j ++ (A.take i).drop j = A.take i := by
 have := List.take_append_drop j (A.take i)
 rwa [List.take_take, Nat.min_eq_left h] at this
theorem Mh.goA {rk : Keyed → Nat} {A B U : List Keyed} {ia ib : Nat} (T : Two rk A B) (h : Mh rk A B U ia ib) {j : Nat} (hj : j ≤ ia) (hk : ∀ p ∈ B.take ib, ∀ q ∈ (A.take ia).drop j, cdK rk p < cdK rk q) : Mh rk A B ((A.take ia).drop j ++ U) j ib := by
 have e := z3t (A := A) hj
 have md : ∀ p ∈ (A.take ia).drop j, p ∈ A.take ia := fun p hp => List.mem_of_mem_drop hp
 have mt : ∀ p ∈ A.take j, p ∈ A.take ia := fun p hp => by rw [← e]; exact List.mem_append_left _ hp
 have cut : ∀ p ∈ A.take j, ∀ q ∈ (A.take ia).drop j, cdK rk p < cdK rk q := by
  have := z2h T.upA ia
  rw [← e, List.pairwise_append] at this
  exact this.2.2
 refine ⟨?_, ?_, fun p hp q hq => ?_, fun p hp q hq => ?_⟩
 ·refine List.Perm.trans ?_ h.pm
  rw [List.append_assoc, List.append_assoc, ← e, List.append_assoc]
  refine List.Perm.append_left _ ?_
  rw [e, ← List.append_assoc, ← List.append_assoc]
  exact List.perm_append_comm.append_right U
 ·rw [List.pairwise_append]
  exact ⟨(z2h T.upA ia).sublist (List.drop_sublist j _), h.up, fun p hp q hq => h.la p (md p hp) q hq⟩
 ·rcases List.mem_append.mp hq with hq | hq
  ·exact cut p hp q hq
  ·exact h.la p (mt p hp) q hq
 ·rcases List.mem_append.mp hq with hq | hq
  ·exact hk p hp q hq
  ·exact h.lb p hp q hq
theorem Mh.goB {rk : Keyed → Nat} {A B U : List Keyed} {ia ib : Nat} (T : Two rk A B) (h : Mh rk A B U ia ib) {j : Nat} (hj : j ≤ ib) (hk : ∀ p ∈ A.take ia, ∀ q ∈ (B.take ib).drop j, cdK rk p < cdK rk q) : Mh rk A B ((B.take ib).drop j ++ U) ia j := by
 have e := z3t (A := B) hj
 have md : ∀ p ∈ (B.take ib).drop j, p ∈ B.take ib := fun p hp => List.mem_of_mem_drop hp
 have mt : ∀ p ∈ B.take j, p ∈ B.take ib := fun p hp => by rw [← e]; exact List.mem_append_left _ hp
 have cut : ∀ p ∈ B.take j, ∀ q ∈ (B.take ib).drop j, cdK rk p < cdK rk q := by
  have := z2h T.upB ib
  rw [← e, List.pairwise_append] at this
  exact this.2.2
 refine ⟨?_, ?_, fun p hp q hq => ?_, fun p hp q hq => ?_⟩
 ·have := h.pm
  rw [← e] at this
  simpa [List.append_assoc] using this
 ·rw [List.pairwise_append]
  exact ⟨(z2h T.upB ib).sublist (List.drop_sublist j _), h.up, fun p hp q hq => h.lb p (md p hp) q hq⟩
 ·rcases List.mem_append.mp hq with hq | hq
  ·exact hk p hp q hq
  ·exact h.la p hp q hq
 ·rcases List.mem_append.mp hq with hq | hq
  ·exact cut p hp q hq
  ·exact h.lb p (mt p hp) q hq
theorem Mh.endA {rk : Keyed → Nat} {A B U : List Keyed} {ia ib : Nat} (T : Two rk A B) (h : Mh rk A B U ia ib) (e : ia = 0) : ResM rk A B (A.take ia ++ B.take ib ++ U) := by
 subst e
 refine ⟨h.pm, ?_⟩
 rw [List.take_zero, List.nil_append, List.pairwise_append]
 exact ⟨z2h T.upB ib, h.up, h.lb⟩
theorem Mh.endB {rk : Keyed → Nat} {A B U : List Keyed} {ia ib : Nat} (T : Two rk A B) (h : Mh rk A B U ia ib) (hl : ∀ p ∈ B.take ib, ∀ q ∈ A, cdK rk p < cdK rk q) : ResM rk A B (B.take ib ++ A.take ia ++ U) := by
 refine ⟨(List.perm_append_comm.append_right U).trans h.pm, ?_⟩
 rw [List.pairwise_append, List.pairwise_append]
 refine ⟨⟨z2h T.upB ib, z2h T.upA ia, fun p hp q hq => hl p hp q (List.mem_of_mem_take hq)⟩, h.up, fun p hp q hq => ?_⟩
 rcases List.mem_append.mp hp with hp | hp
 ·exact h.lb p hp q hq
 ·exact h.la p hp q hq
theorem z1b {α : Type} (b : Array α) (k : Nat) : (b.extract 0 k).toList = b.toList.take k := by
 rw [Array.toList_extract, List.extract_eq_drop_take]
 simp
theorem z4h {α : Type} (a : Array α) (i j : Nat) : (a.extract i j).toList = (a.toList.take j).drop i := by
 rw [Array.toList_extract, List.extract_eq_drop_take, List.drop_take]
theorem z2q {α : Type} {a : Array α} {i : Nat} (h0 : 0 < i) (h : i ≤ a.size) : (a.toList.take i).drop (i - 1) = [a[i - 1]] := by
 rw [List.drop_take, show i - (i - 1) = 1 by omega]
 exact z2g (by omega)
theorem z3l {α : Type} {a : Array α} {i : Nat} {p : α} (h : p ∈ a.toList.take i) : ∃ j, j < i ∧ ∃ hj : j < a.size, p = a[j] := by
 have := z2n (a := a) (i := 0) (k := i) (p := p) (by simpa using h)
 obtain ⟨j, -, h2, h3, e⟩ := this
 exact ⟨j, by omega, h3, e⟩
theorem z25 {α : Type} {a : Array α} {i j : Nat} {p : α} (h : p ∈ (a.toList.take i).drop j) : ∃ k, j ≤ k ∧ k < i ∧ ∃ hk : k < a.size, p = a[k] := by
 rw [List.drop_take] at h
 obtain ⟨k, h1, h2, h3, e⟩ := z2n h
 exact ⟨k, h1, by omega, h3, e⟩
def OkH (rk : Keyed → Nat) (a b : Array Keyed) (n : Nat) (r : Option (Array Keyed)) (out : Array Keyed) (ia ib : Nat) : Prop :=
 (∃ z, r = some z ∧ ResM rk a.toList b.toList z.toList) ∨ (r = none ∧ Mh rk a.toList b.toList out.toList.reverse ia ib ∧ 0 < ia ∧ ia ≤ a.size ∧ 1 < ib ∧ ib ≤ b.size ∧ ia + ib + n ≤ a.size + b.size)
theorem OkH.mono {rk : Keyed → Nat} {a b : Array Keyed} {n m : Nat} (hnm : n ≤ m) {r : Option (Array Keyed)} {out : Array Keyed} {i j : Nat} (o : OkH rk a b m r out i j) : OkH rk a b n r out i j := o.imp id fun ⟨e, o1, o2, o3, o4, o5, o6⟩ => ⟨e, o1, o2, o3, o4, o5, by omega⟩
section
variable {prog : Program} {w : World} {A : Around} {E : Value → Shared → Prop} {s : Shared} {rk : Keyed → Nat} {a b : Array Keyed}
theorem z37 (T : Two rk a.toList b.toList) (h0 : cdA rk b 0 < cdA rk a 0) : ∀ p ∈ b.toList.take 1, ∀ q ∈ a.toList, cdK rk p < cdK rk q := fun p hp q hq => by
 obtain ⟨j, hj, hj2, rfl⟩ := z3l hp
 obtain ⟨i, hi, rfl⟩ := List.getElem_of_mem hq
 have hi2 : i < a.size := by simpa using hi
 obtain rfl : j = 0 := by omega
 have := z4f T.upA (Nat.zero_le i) hi2
 rw [zk hj2] at h0
 rw [zk hi2] at this
 have e : a.toList[i] = a[i] := by simp
 rw [e]
 omega
theorem z4i (T : Two rk a.toList b.toList) {ia ib j : Nat} (hb : 0 < ib) (hb2 : ib ≤ b.size) (lt : ∀ i, j ≤ i → i < ia → i < a.size → cdA rk b (ib - 1) < cdA rk a i) : ∀ p ∈ b.toList.take ib, ∀ q ∈ (a.toList.take ia).drop j, cdK rk p < cdK rk q := fun p hp q hq => by
 obtain ⟨i, h1, h2, rfl⟩ := z3l hp
 obtain ⟨k, g1, g2, g3, rfl⟩ := z25 hq
 have := lt k g1 g2 g3
 have := z4f T.upB (show i ≤ ib - 1 by omega) (by omega)
 rw [← zk h2, ← zk g3]
 omega
theorem z5w (T : Two rk a.toList b.toList) {ia ib j : Nat} (ha : 0 < ia) (ha2 : ia ≤ a.size) (lt : ∀ i, j ≤ i → i < ib → i < b.size → cdA rk a (ia - 1) < cdA rk b i) : ∀ p ∈ a.toList.take ia, ∀ q ∈ (b.toList.take ib).drop j, cdK rk p < cdK rk q := fun p hp q hq => by
 obtain ⟨i, h1, h2, rfl⟩ := z3l hp
 obtain ⟨k, g1, g2, g3, rfl⟩ := z25 hq
 have := lt k g1 g2 g3
 have := z4f T.upA (show i ≤ ia - 1 by omega) (by omega)
 rw [← zk h2, ← zk g3]
 omega
theorem z8j {st : SortSt} {out : Array Keyed} {ia ib mg ac bc n : Nat} (T : Two rk a.toList b.toList) (h : Mh rk a.toList b.toList out.toList.reverse ia ib) (ha : 0 < ia) (ha2 : ia ≤ a.size) (hb : 1 < ib) (hb2 : ib ≤ b.size) (hn : ia + ib + n ≤ a.size + b.size) (lt : cdA rk b (ib - 1) < cdA rk a (ia - 1)) :
  wpS (model prog w) A E s (mhC a b out ia ib mg ac bc) (fun r st' => st' = st ∧ match r with | .done c => OkH rk a b (n + 1) c.1 c.2.2.2.1 c.2.1 c.2.2.1 | .yield c => c.1 = none ∧ OkH rk a b (n + 1) c.1 c.2.2.2.1 c.2.1 c.2.2.1) st := by
 unfold mhC
 refine wpS_bind (zx (by omega) ?_)
 have h' := h.goA T (j := ia - 1) (by omega) (z4i T (by omega) hb2 fun i h1 h2 h3 => (show i = ia - 1 by omega).symm ▸ lt)
 rw [z2q ha ha2] at h'
 have e1 : (out.push a[ia - 1]).toList.reverse = [a[ia - 1]] ++ out.toList.reverse := by simp
 by_cases c : ia - 1 = 0
 ·rw [if_pos (by simpa using c)]
  refine wpS_pure ⟨rfl, .inl ⟨_, rfl, ?_⟩⟩
  rw [Array.toList_append, Array.toList_append, z1b, z1b, Array.toList_reverse, e1]
  exact h'.endA T c
 ·rw [if_neg (by simpa using c)]
  rw [← e1] at h'
  split
  ·exact wpS_pure ⟨rfl, .inr ⟨rfl, h', by show 0 < ia - 1; omega, by show ia - 1 ≤ _; omega, hb, hb2, by show ia - 1 + ib + (n + 1) ≤ _; omega⟩⟩
  ·exact wpS_pure ⟨rfl, rfl, .inr ⟨rfl, h', by show 0 < ia - 1; omega, by show ia - 1 ≤ _; omega, hb, hb2, by show ia - 1 + ib + (n + 1) ≤ _; omega⟩⟩
theorem z8k {st : SortSt} {out : Array Keyed} {ia ib mg ac bc n : Nat} (T : Two rk a.toList b.toList) (h0 : cdA rk b 0 < cdA rk a 0) (hk : kindOf st = oneType') (h : Mh rk a.toList b.toList out.toList.reverse ia ib) (ha : 0 < ia) (ha2 : ia ≤ a.size) (hb : 1 < ib) (hb2 : ib ≤ b.size) (hn : ia + ib + n ≤ a.size + b.size) (lt : cdA rk a (ia - 1) < cdA rk b (ib - 1)) :
  wpS (model prog w) A E s (mhB a b out ia ib mg ac bc) (fun r st' => st' = st ∧ match r with | .done c => OkH rk a b (n + 1) c.1 c.2.2.2.1 c.2.1 c.2.2.1 | .yield c => c.1 = none ∧ OkH rk a b (n + 1) c.1 c.2.2.2.1 c.2.1 c.2.2.1) st := by
 unfold mhB
 refine wpS_bind (zx (by omega) ?_)
 have h' := h.goB T (j := ib - 1) (by omega) (z5w T ha ha2 fun i h1 h2 h3 => (show i = ib - 1 by omega).symm ▸ lt)
 rw [z2q (by omega) hb2] at h'
 have e1 : (out.push b[ib - 1]).toList.reverse = [b[ib - 1]] ++ out.toList.reverse := by simp
 by_cases c : ib - 1 = 1
 ·rw [if_pos (by simpa using c)]
  refine wpS_pure ⟨rfl, .inl ⟨_, rfl, ?_⟩⟩
  rw [Array.toList_append, Array.toList_append, z1b, z1b, Array.toList_reverse, e1]
  refine h'.endB T ?_
  rw [c]
  exact z37 T h0
 ·rw [if_neg (by simpa using c)]
  rw [← e1] at h'
  have ia1 : ia - 1 < a.size := by omega
  refine wpS_bind (zx ia1 ?_)
  refine wpS_bind (z2e (rk := rk) hk (by omega) (T.okA _ (by simp)) (fun i hi _ _ => T.okB _ (by simp)) (fun i hi _ _ => by rw [if_pos rfl]; exact T.rks _ (by simp) _ (by simp)) (fun i j hij hj => z5j T.upB (by omega) (by omega)) (by omega) fun k hkn g1 g2 => ?_)
  dsimp only
  have gB : ∀ i, k ≤ i → i < ib - 1 → cdA rk a (ia - 1) < cdA rk b i := fun i h1 h2 => by
   have := g2 i h1 h2
   rw [Nat.zero_add] at this
   rw [zk ia1]
   exact this
  have gA : 0 < k → cdA rk b (k - 1) < cdA rk a (ia - 1) := fun z => by
   have := g1 (k - 1) (by omega)
   rw [Nat.zero_add] at this
   rw [zk ia1]
   exact this
  have kpos : 0 < k := by
   rcases Nat.eq_zero_or_pos k with z | z
   ·have h1 := gB 0 (by omega) (by omega)
    have h2 := z4f T.upA (Nat.zero_le (ia - 1)) ia1
    omega
   ·exact z
  by_cases hk0 : ib - 1 - k > 0
  ·rw [if_pos hk0]
   have h2 := h'.goB T (j := k) (by omega) (z5w T ha ha2 fun i h1 h2 h3 => gB i h1 h2)
   have e2 : (out.push b[ib - 1] ++ (b.extract k (ib - 1)).reverse).toList.reverse = (b.toList.take (ib - 1)).drop k ++ (out.push b[ib - 1]).toList.reverse := by
    rw [Array.toList_append, List.reverse_append, Array.toList_reverse, List.reverse_reverse, z4h]
   by_cases c2 : k = 1
   ·rw [if_pos (by simpa using c2)]
    refine wpS_pure ⟨rfl, .inl ⟨_, rfl, ?_⟩⟩
    rw [Array.toList_append, Array.toList_append, z1b, z1b, Array.toList_reverse, e2]
    refine h2.endB T ?_
    rw [c2]
    exact z37 T h0
   ·rw [if_neg (by simpa using c2), if_neg (by simp; omega)]
    rw [← e2] at h2
    exact z8j T h2 ha ha2 (by omega) (by omega) (by omega) (gA kpos)
  ·rw [if_neg hk0]
   obtain rfl : k = ib - 1 := by omega
   exact z8j T h' ha ha2 (by omega) (by omega) (by omega) (gA kpos)
theorem zbn {st : SortSt} {out : Array Keyed} {ia ib mg ac bc n : Nat} (T : Two rk a.toList b.toList) (h0 : cdA rk b 0 < cdA rk a 0) (hk : kindOf st = oneType') (h : Mh rk a.toList b.toList out.toList.reverse ia ib) (ha : 0 < ia) (ha2 : ia ≤ a.size) (hb : 1 < ib) (hb2 : ib ≤ b.size) (hn : ia + ib + n ≤ a.size + b.size) :
  wpS (model prog w) A E s (mhA a b out ia ib mg ac bc) (fun r st' => st' = galS st mg ∧ match r with | .done c => OkH rk a b (n + 1) c.1 c.2.2.2.1 c.2.1 c.2.2.1 | .yield c => c.1 = none ∧ OkH rk a b (n + 1) c.1 c.2.2.2.1 c.2.1 c.2.2.1) st := by
 unfold mhA
 rw [z20]
 have ib1 : ib - 1 < b.size := by omega
 refine wpS_bind (wpS_modify (wpS_bind (zx ib1 ?_)))
 have kk : kindOf (galS st mg) = oneType' := hk
 refine wpS_bind (z2e (rk := rk) kk (by omega) (T.okB _ (by simp)) (fun i hi _ _ => T.okA _ (by simp)) (fun i hi _ _ => by rw [if_neg Bool.false_ne_true]; exact T.rks _ (by simp) _ (by simp)) (fun i j hij hj => z5j T.upA (by omega) (by omega)) (by omega) fun k hkn g1 g2 => ?_)
 dsimp only
 have gA : ∀ i, k ≤ i → i < ia → cdA rk b (ib - 1) < cdA rk a i := fun i h1 h2 => by
  have := g2 i h1 h2
  rw [Nat.zero_add] at this
  rw [zk ib1]
  exact this
 have gB : 0 < k → cdA rk a (k - 1) < cdA rk b (ib - 1) := fun z => by
  have := g1 (k - 1) (by omega)
  rw [Nat.zero_add] at this
  rw [zk ib1]
  exact this
 by_cases hk0 : ia - k > 0
 ·rw [if_pos hk0]
  have h2 := h.goA T (j := k) hkn (z4i T (by omega) hb2 fun i h1 h2 h3 => gA i h1 h2)
  have e2 : (out ++ (a.extract k ia).reverse).toList.reverse = (a.toList.take ia).drop k ++ out.toList.reverse := by
   rw [Array.toList_append, List.reverse_append, Array.toList_reverse, List.reverse_reverse, z4h]
  by_cases c2 : k = 0
  ·rw [if_pos (by simpa using c2)]
   refine wpS_pure ⟨rfl, .inl ⟨_, rfl, ?_⟩⟩
   rw [Array.toList_append, Array.toList_append, z1b, z1b, Array.toList_reverse, e2]
   exact h2.endA T c2
  ·rw [if_neg (by simpa using c2)]
   rw [← e2] at h2
   exact z8k T h0 kk h2 (by omega) (by omega) hb hb2 (by omega) (gB (by omega))
 ·rw [if_neg hk0]
  obtain rfl : k = ia := by omega
  exact z8k T h0 kk h ha ha2 hb hb2 hn (gB ha)
theorem za7 {st : SortSt} {mg ia ib ac bc n : Nat} {out : Array Keyed} (T : Two rk a.toList b.toList) (h0 : cdA rk b 0 < cdA rk a 0) (hk : kindOf st = oneType') (h : Mh rk a.toList b.toList out.toList.reverse ia ib) (ha : 0 < ia) (ha2 : ia ≤ a.size) (hb : 1 < ib) (hb2 : ib ≤ b.size) (hn : ia + ib + n ≤ a.size + b.size) :
  wpS (model prog w) A E s (z9f a b mg (none, ia, ib, out, ac, bc)) (fun r st' => st' = st ∧ match r with | .done c => OkH rk a b (n + 1) c.1 c.2.2.2.1 c.2.1 c.2.2.1 | .yield c => c.1 = none ∧ OkH rk a b (n + 1) c.1 c.2.2.2.1 c.2.1 c.2.2.1) st := by
 have ia1 : ia - 1 < a.size := by omega
 have ib1 : ib - 1 < b.size := by omega
 unfold z9f
 dsimp only
 refine wpS_bind (zx ib1 (wpS_bind (zx ia1 ?_)))
 refine wpS_bind (z4e hk (T.okB _ (by simp)).1 (T.okA _ (by simp)).1 ?_)
 have e0 := z3s (rk := rk) (p := b[ib - 1]) (q := a[ia - 1]) (T.okB _ (by simp)) (T.rks _ (by simp) _ (by simp))
 rw [decide_eq_decide.mpr e0]
 dsimp only
 have ne : cdK rk b[ib - 1] ≠ cdK rk a[ia - 1] := fun e => by
  have h1 := T.rks a[ia - 1] (by simp) b[ib - 1] (by simp)
  have h2 := (T.okA a[ia - 1] (by simp)).2
  have h3 := (T.okB b[ib - 1] (by simp)).2
  unfold cdK at e
  omega
 by_cases c : cdK rk b[ib - 1] < cdK rk a[ia - 1]
 ·rw [if_pos (decide_eq_true c)]
  refine wpS_bind (zx ia1 ?_)
  have h' := h.goA T (j := ia - 1) (by omega) (z4i T (by omega) hb2 fun i h1 h2 h3 => by
   obtain rfl : i = ia - 1 := by omega
   rw [zk ia1, zk ib1]
   exact c)
  rw [z2q ha ha2] at h'
  have e1 : (out.push a[ia - 1]).toList.reverse = [a[ia - 1]] ++ out.toList.reverse := by simp
  by_cases c1 : ia - 1 = 0
  ·rw [if_pos (by simpa using c1)]
   refine wpS_pure ⟨rfl, .inl ⟨_, rfl, ?_⟩⟩
   rw [Array.toList_append, Array.toList_append, z1b, z1b, Array.toList_reverse, e1]
   exact h'.endA T c1
  ·rw [if_neg (by simpa using c1)]
   rw [← e1] at h'
   split
   ·exact wpS_pure ⟨rfl, .inr ⟨rfl, h', by show 0 < ia - 1; omega, by show ia - 1 ≤ _; omega, hb, hb2, by show ia - 1 + ib + (n + 1) ≤ _; omega⟩⟩
   ·exact wpS_pure ⟨rfl, rfl, .inr ⟨rfl, h', by show 0 < ia - 1; omega, by show ia - 1 ≤ _; omega, hb, hb2, by show ia - 1 + ib + (n + 1) ≤ _; omega⟩⟩
 ·rw [if_neg (by simpa using c)]
  refine wpS_bind (zx ib1 ?_)
  have h' := h.goB T (j := ib - 1) (by omega) (z5w T ha ha2 fun i h1 h2 h3 => by
   obtain rfl : i = ib - 1 := by omega
   rw [zk ia1, zk ib1]
   omega)
  rw [z2q (by omega) hb2] at h'
  have e1 : (out.push b[ib - 1]).toList.reverse = [b[ib - 1]] ++ out.toList.reverse := by simp
  by_cases c1 : ib - 1 = 1
  ·rw [if_pos (by simpa using c1)]
   refine wpS_pure ⟨rfl, .inl ⟨_, rfl, ?_⟩⟩
   rw [Array.toList_append, Array.toList_append, z1b, z1b, Array.toList_reverse, e1]
   refine h'.endB T ?_
   rw [c1]
   exact z37 T h0
  ·rw [if_neg (by simpa using c1)]
   rw [← e1] at h'
   split
   ·exact wpS_pure ⟨rfl, .inr ⟨rfl, h', ha, ha2, by show 1 < ib - 1; omega, by show ib - 1 ≤ _; omega, by show ia + (ib - 1) + (n + 1) ≤ _; omega⟩⟩
   ·exact wpS_pure ⟨rfl, rfl, .inr ⟨rfl, h', ha, ha2, by show 1 < ib - 1; omega, by show ib - 1 ≤ _; omega, by show ia + (ib - 1) + (n + 1) ≤ _; omega⟩⟩
theorem z7h {st : SortSt} {Q : Array Keyed → SortSt → Prop} (T : Two rk a.toList b.toList) (hl : Last rk a b) (hk : kindOf st = oneType') (ha : 0 < a.size) (hb : 0 < b.size) (h0 : cdA rk b 0 < cdA rk a 0)
  (h : ∀ r g, ResM rk a.toList b.toList r.toList → Q r (galS st g)) : wpS (model prog w) A E s (z52 a b) Q st := by
 rw [z82]
 refine wpS_bind (wpS_lift (wpAny_rule ⟨rfl, ?_⟩))
 dsimp only
 have ia1 : a.size - 1 < a.size := by omega
 refine wpS_bind (zx ia1 ?_)
 have hM : Mh rk a.toList b.toList (#[a[a.size - 1]] : Array Keyed).toList.reverse (a.size - 1) b.size := by
  have hz : Mh rk a.toList b.toList [] a.size b.size := ⟨by rw [List.take_of_length_le (by simp), List.take_of_length_le (by simp), List.append_nil], List.Pairwise.nil, fun p hp q hq => (by cases hq), fun p hp q hq => (by cases hq)⟩
  have := hz.goA T (j := a.size - 1) (by omega) (z4i T hb (Nat.le_refl _) fun i h1 h2 h3 => by
   obtain rfl : i = a.size - 1 := by omega
   exact hl _ (by omega))
  rw [z2q ha (Nat.le_refl _)] at this
  exact this
 have eG : galS st (gallopOf st) = st := rfl
 by_cases c1 : a.size - 1 = 0
 ·rw [if_pos (by simpa using c1), ← eG]
  refine wpS_pure (h _ _ ?_)
  have := hM.endA T c1
  rw [Array.toList_append, Array.toList_append, z1b, z1b, Array.toList_reverse]
  exact this
 rw [if_neg (by simpa using c1)]
 by_cases c2 : b.size = 1
 ·rw [if_pos (by simpa using c2), ← eG]
  refine wpS_pure (h _ _ ?_)
  have := hM.endB T (by rw [c2]; exact z37 T h0)
  rw [Array.toList_append, Array.toList_append, z1b, z1b, Array.toList_reverse]
  exact this
 rw [if_neg (by simpa using c2)]
 refine wpS_bind (wpS_get ?_)
 refine wpS_bind (wpS_mono (wpS_forRange (I := fun x c st' => c.1 = none ∧ OkH rk a b (x + 1) c.1 c.2.2.2.1 c.2.1 c.2.2.1 ∧ ∃ g, st' = galS st g)
  (Q := fun c st' => (∃ z, c.1 = some z ∧ ResM rk a.toList b.toList z.toList) ∧ ∃ g, st' = galS st g) ?_ ?_ ⟨rfl, .inr ⟨rfl, hM, by show 0 < a.size - 1; omega, by show a.size - 1 ≤ _; omega, by show 1 < b.size; omega, Nat.le_refl _, by show a.size - 1 + b.size + (0 + 1) ≤ _; omega⟩, _, rfl⟩) ?_)
 ·rintro x ⟨r, ia, ib, out, mg⟩ st' - hx ⟨e, o, g, rfl⟩
  obtain rfl : r = none := e
  obtain ⟨z, ez, -⟩ | ⟨-, hM, ha1, ha2, hb1, hb2, hn⟩ := o
  ·cases ez
  dsimp only at hM ha1 ha2 hb1 hb2 hn ⊢
  have kg : ∀ g, kindOf (galS st g) = oneType' := fun _ => hk
  refine wpS_bind (wpS_mono (wpS_forRange (I := fun y c st' => c.1 = none ∧ OkH rk a b (x + 1 + y) c.1 c.2.2.2.1 c.2.1 c.2.2.1 ∧ st' = galS st g)
   (Q := fun c st' => OkH rk a b (x + 1) c.1 c.2.2.2.1 c.2.1 c.2.2.1 ∧ st' = galS st g) ?_ ?_ ⟨rfl, .inr ⟨rfl, hM, ha1, ha2, hb1, hb2, hn⟩, rfl⟩) ?_)
  ·rintro y ⟨r, ia2, ib2, out2, ac, bc⟩ st' - hy ⟨e, o, rfl⟩
   obtain rfl : r = none := e
   obtain ⟨z, ez, -⟩ | ⟨-, hM2, p1, p2, p3, p4, hn2⟩ := o
   ·cases ez
   dsimp only at hM2 p1 p2 p3 p4 hn2
   show wpS _ _ _ _ (z9f a b mg (none, ia2, ib2, out2, ac, bc)) _ _
   refine wpS_mono (za7 T h0 (kg g) hM2 p1 p2 p3 p4 hn2) fun r st' ⟨e, q⟩ => ?_
   cases r with
   | done c => exact ⟨OkH.mono (by omega) q, e⟩
   | yield c => exact ⟨q.1, OkH.mono (by omega) q.2, e⟩
  ·rintro ⟨r, ia2, ib2, out2, ac, bc⟩ st' ⟨e, o, rfl⟩
   exact ⟨OkH.mono (by omega) o, rfl⟩
  ·rintro ⟨r, ia2, ib2, out2, ac, bc⟩ st' ⟨o, rfl⟩
   obtain ⟨z, ez, hz⟩ | ⟨e, hM2, p1, p2, p3, p4, hn2⟩ := o
   ·obtain rfl : r = some z := ez
    exact wpS_pure ⟨⟨_, rfl, hz⟩, _, rfl⟩
   obtain rfl : r = none := e
   dsimp only at hM2 p1 p2 p3 p4 hn2 ⊢
   refine wpS_bind (wpS_lift (wpAny_rule ⟨rfl, ?_⟩))
   refine wpS_bind (wpS_mono (wpS_forRange (I := fun y c st' => c.1 = none ∧ OkH rk a b (x + 1 + y) c.1 c.2.2.2.1 c.2.1 c.2.2.1 ∧ ∃ g, st' = galS st g)
    (Q := fun c st' => OkH rk a b (x + 1 + 1) c.1 c.2.2.2.1 c.2.1 c.2.2.1 ∧ ∃ g, st' = galS st g) ?_ ?_ ⟨rfl, .inr ⟨rfl, hM2, p1, p2, p3, p4, hn2⟩, g, rfl⟩) ?_)
   ·rintro y ⟨r, ia3, ib3, out3, mg3, ac3, bc3⟩ st' - hy ⟨e, o, g3, rfl⟩
    obtain rfl : r = none := e
    obtain ⟨z, ez, -⟩ | ⟨-, hM3, q1, q2, q3, q4, hn3⟩ := o
    ·cases ez
    dsimp only at hM3 q1 q2 q3 q4 hn3
    have go : ∀ mg', wpS (model prog w) A E s (mhA a b out3 ia3 ib3 mg' ac3 bc3) (fun r st' => match r with | .done c => OkH rk a b (x + 1 + 1) c.1 c.2.2.2.1 c.2.1 c.2.2.1 ∧ ∃ g, st' = galS st g | .yield c => c.1 = none ∧ OkH rk a b (x + 1 + (y + 1)) c.1 c.2.2.2.1 c.2.1 c.2.2.1 ∧ ∃ g, st' = galS st g) (galS st g3) := fun mg' =>
     wpS_mono (zbn T h0 (kg g3) hM3 q1 q2 q3 q4 hn3) fun r st' ⟨e, q⟩ => by
      cases r with
      | done c => exact ⟨OkH.mono (by omega) q, mg', e⟩
      | yield c => exact ⟨q.1, OkH.mono (by omega) q.2, mg', e⟩
    dsimp only
    by_cases cm : mg3 > 1
    ·rw [if_pos cm]
     refine wpS_mono (go (mg3 - 1)) fun r st' q => ?_
     cases r with
     | done c => exact q
     | yield c => exact q
    ·rw [if_neg cm]
     refine wpS_mono (go mg3) fun r st' q => ?_
     cases r with
     | done c => exact q
     | yield c => exact q
   ·rintro ⟨r, ia3, ib3, out3, mg3, ac3, bc3⟩ st' ⟨e, o, g3, rfl⟩
    refine ⟨OkH.mono ?_ o, g3, rfl⟩
    omega
   ·rintro ⟨r, ia3, ib3, out3, mg3, ac3, bc3⟩ st' ⟨o, g3, rfl⟩
    obtain ⟨z, ez, hz⟩ | ⟨e, hM3, q1, q2, q3, q4, hn3⟩ := o
    ·obtain rfl : r = some z := ez
     exact wpS_pure ⟨⟨_, rfl, hz⟩, _, rfl⟩
    obtain rfl : r = none := e
    dsimp only at hM3 q1 q2 q3 q4 hn3 ⊢
    rw [z20]
    exact wpS_bind (wpS_modify (wpS_pure ⟨rfl, .inr ⟨rfl, hM3, q1, q2, q3, q4, hn3⟩, _, rfl⟩))
 ·rintro ⟨r, ia, ib, out, mg⟩ st' ⟨e, o, g, rfl⟩
  obtain rfl : r = none := e
  obtain ⟨z, ez, -⟩ | ⟨-, hM, p1, p2, p3, p4, hn⟩ := o
  ·cases ez
  dsimp only at p1 p2 p3 p4 hn
  omega
 ·rintro ⟨r, ia, ib, out, mg⟩ st' ⟨⟨z, ez, hz⟩, g, rfl⟩
  obtain rfl : r = some z := ez
  exact wpS_pure (h _ _ hz)
end
end PyProof.Rows
end
section
namespace PyProof.Rows
open PySem
theorem z5k {α : Type} (sa : Nat) : ∀ (r : List α) (n : Nat) (xs : Array α), sa + n + r.length ≤ xs.size →
  ((r.zipIdx n).foldl (fun (a : Array α) (x : α × Nat) => a.setIfInBounds (sa + x.2) x.1) xs).toList = xs.toList.take (sa + n) ++ r ++ xs.toList.drop (sa + n + r.length)
 | [], n, xs, _ => by simp
 | p :: r, n, xs, h => by
  rw [List.length_cons] at h
  rw [List.zipIdx_cons, List.foldl_cons, z5k sa r (n + 1) _ (by rw [Array.size_setIfInBounds]; omega)]
  have hs : xs.toList.length = xs.size := by simp
  have hl : sa + n < xs.toList.length := by omega
  rw [Array.toList_setIfInBounds, List.take_set, List.drop_set_of_lt (by omega)]
  rw [show sa + (n + 1) = sa + n + 1 by omega, List.take_add_one, List.getElem?_eq_getElem hl]
  simp only [Option.toList_some]
  rw [List.set_append_right _ _ (by rw [List.length_take]; omega), List.length_take, Nat.min_eq_left (by omega), Nat.sub_self, List.set_cons_zero]
  rw [show sa + n + 1 + r.length = sa + n + (r.length + 1) by omega]
  simp only [List.append_assoc, List.cons_append, List.nil_append, List.length_cons]
theorem z83 (i : Nat) : mergeAt' i = (do
 let s ← get
 let (some (sa, na, pw), some (sb, nb, _)) := ((pendingOf s)[i]?, (pendingOf s)[i + 1]?) | unsupported "internal:list.sort.pending"
 set (setPending s (((pendingOf s).setIfInBounds i (sa, na + nb, pw)).eraseIdxIfInBounds (i + 1)))
 let some k ← z1i false (← elem' (arrOf s) sb) (arrOf s) sa na 0 | return false
 let (sa, na) := (sa + k, na - k)
 if na == 0 then return true
 let some nb ← z1i true (← elem' (arrOf s) (sa + na - 1)) (arrOf s) sb nb (nb - 1) | return false
 if nb == 0 then return true
 let x := (arrOf s).extract sa sb
 let y := (arrOf s).extract sb (sb + nb)
 let merged ← if na ≤ nb then z51 x y else z52 x y
 modify fun s => setArr s (merged.toList.zipIdx.foldl (fun a (p, j) => a.setIfInBounds (sa + j) p) (arrOf s))
 return (failedOf (← get)).isNone) := rfl
theorem z3m {rk : Keyed → Nat} {xs : Array Keyed} {lo hi : Nat} (hh : hi ≤ xs.size) (u : ∀ i j, lo ≤ i → i < j → j < hi → cdA rk xs i < cdA rk xs j) : ((xs.toList.take hi).drop lo).Pairwise fun p q => cdK rk p < cdK rk q := by
 rw [List.pairwise_iff_getElem]
 intro i j hi' hj hij
 have hs : xs.toList.length = xs.size := by simp
 rw [List.length_drop, List.length_take] at hi' hj
 have := u (lo + i) (lo + j) (by omega) (by omega) (by omega)
 rw [zk (by omega), zk (by omega)] at this
 simpa using this
theorem z4j {rk : Keyed → Nat} {xs : Array Keyed} {lo hi i : Nat} (hh : hi ≤ xs.size) (h : lo + i < hi) : cdA rk (xs.extract lo hi) i = cdA rk xs (lo + i) := by
 refine z2p ?_
 rw [Array.getElem?_extract, if_pos (by omega)]
section
variable {prog : Program} {w : World} {A : Around} {E : Value → Shared → Prop} {s : Shared} {rk : Keyed → Nat}
theorem zbo {σ : Type} {M : Model} {st st1 : σ} {Q : PUnit → σ → Prop} (h : Q ⟨⟩ st1) : wpS M A E s (set st1 : StateT σ Sem PUnit) Q st := by
 unfold wpS; rw [StateT.run_set]; exact wpAny_pure ⟨rfl, h⟩
theorem z7i {st : SortSt} {n1 n2 pw : Nat} {Q : Bool → SortSt → Prop} (hk : kindOf st = oneType') (hf : failedOf st = none) (hp : pendingOf st = #[(0, n1, pw), (n1, n2, 0)]) (h1 : 0 < n1) (h2 : 0 < n2) (hn : n1 + n2 = (arrOf st).size)
  (ok : ∀ p ∈ (arrOf st).toList, OkK rk p) (u1 : ∀ i j, i < j → j < n1 → cdA rk (arrOf st) i < cdA rk (arrOf st) j) (u2 : ∀ i j, n1 ≤ i → i < j → j < n1 + n2 → cdA rk (arrOf st) i < cdA rk (arrOf st) j) (rks : ∀ i j, i < n1 → n1 ≤ j → j < n1 + n2 → rkA rk (arrOf st) i < rkA rk (arrOf st) j)
  (h : ∀ st', (pendingOf st').size = 1 → failedOf st' = none → (arrOf st').Perm (arrOf st) → (arrOf st').toList.Pairwise (fun p q => cdK rk p < cdK rk q) → Q true st') : wpS (model prog w) A E s (mergeAt' 0) Q st := by
 rw [z83]
 refine wpS_bind (wpS_get ?_)
 rw [hp]
 rw [show (#[(0, n1, pw), (n1, n2, 0)] : Array (Nat × Nat × Nat))[0]? = some (0, n1, pw) from rfl, show (#[(0, n1, pw), (n1, n2, 0)] : Array (Nat × Nat × Nat))[0 + 1]? = some (n1, n2, 0) from rfl]
 dsimp only
 refine wpS_bind (zbo ?_)
 generalize hst1 : setPending st _ = st1
 have e1 : arrOf st1 = arrOf st := by rw [← hst1]
 have k1 : kindOf st1 = oneType' := by rw [← hst1]; exact hk
 have f1 : failedOf st1 = none := by rw [← hst1]; exact hf
 have p1 : (pendingOf st1).size = 1 := by rw [← hst1]; show (Array.eraseIdxIfInBounds _ _).size = 1; simp
 clear hst1 hp
 generalize hxs : arrOf st = xs at e1 hn ok u1 u2 rks h ⊢
 have hX : xs.toList.length = xs.size := by simp
 have okA : ∀ i (hi : i < xs.size), OkK rk xs[i] := fun i hi => ok _ (by simp)
 have hn1 : n1 < xs.size := by omega
 refine wpS_bind (zx hn1 ?_)
 refine wpS_bind (z2e (rk := rk) k1 (by omega) (okA _ hn1) (fun i hi _ _ => okA i hi) (fun i hi _ hi2 => by
  rw [if_neg Bool.false_ne_true]
  have := rks i n1 (by omega) (Nat.le_refl _) (by omega)
  rwa [z2a hi, z2a hn1] at this) (fun i j hij hj => by rw [Nat.zero_add, Nat.zero_add]; exact u1 i j hij hj) h1 fun k hkn g1 g2 => ?_)
 have g1 : ∀ i, i < k → cdA rk xs i < cdA rk xs n1 := fun i hi => by
  have := g1 i hi
  rwa [Nat.zero_add, ← zk hn1] at this
 have g2 : ∀ i, k ≤ i → i < n1 → cdA rk xs n1 < cdA rk xs i := fun i h1 h2 => by
  have := g2 i h1 h2
  rwa [Nat.zero_add, ← zk hn1] at this
 have v2 : ∀ j, n1 ≤ j → j < n1 + n2 → cdA rk xs n1 ≤ cdA rk xs j := fun j h1 h2 => by
  rcases Nat.lt_or_eq_of_le h1 with z | z
  ·exact Int.le_of_lt (u2 n1 j (Nat.le_refl _) z h2)
  ·rw [z]; exact Int.le_refl _
 dsimp only
 by_cases ck : n1 - k = 0
 ·rw [if_pos (by simpa using ck)]
  obtain rfl : k = n1 := by omega
  refine wpS_pure (h st1 p1 f1 (by rw [e1]) ?_)
  rw [e1]
  have := z3m (rk := rk) (xs := xs) (lo := 0) (hi := xs.size) (Nat.le_refl _) fun i j _ hij hj => by
   rcases Nat.lt_or_ge j k with z | z
   ·exact u1 i j hij z
   ·rcases Nat.lt_or_ge i k with y | y
    ·have := g1 i y
     have := v2 j z (by omega)
     omega
    ·exact u2 i j y hij (by omega)
  rwa [List.drop_zero, List.take_of_length_le (by omega)] at this
 rw [if_neg (by simpa using ck)]
 rw [show 0 + k + (n1 - k) - 1 = n1 - 1 by omega]
 have hm1 : n1 - 1 < xs.size := by omega
 refine wpS_bind (zx hm1 ?_)
 refine wpS_bind (z2e (rk := rk) k1 (by omega) (okA _ hm1) (fun i hi _ _ => okA i hi) (fun i hi hi1 hi2 => by
  rw [if_pos rfl]
  have := rks (n1 - 1) i (by omega) hi1 hi2
  rwa [z2a hi, z2a hm1] at this) (fun i j hij hj => u2 _ _ (by omega) (by omega) (by omega)) (by omega) fun m hmn t1 t2 => ?_)
 have t1 : ∀ i, i < m → cdA rk xs (n1 + i) < cdA rk xs (n1 - 1) := fun i hi => by
  have := t1 i hi
  rwa [← zk hm1] at this
 have t2 : ∀ i, m ≤ i → i < n2 → cdA rk xs (n1 - 1) < cdA rk xs (n1 + i) := fun i h1 h2 => by
  have := t2 i h1 h2
  rwa [← zk hm1] at this
 have v1 : ∀ i, i < n1 → cdA rk xs i ≤ cdA rk xs (n1 - 1) := fun i hi => by
  rcases Nat.lt_or_eq_of_le (show i ≤ n1 - 1 by omega) with z | z
  ·exact Int.le_of_lt (u1 i (n1 - 1) z (by omega))
  ·rw [z]; exact Int.le_refl _
 have mpos : 0 < m := by
  rcases Nat.eq_zero_or_pos m with z | z
  ·have a1 := t2 0 (by omega) h2
   have a2 := g2 k (Nat.le_refl _) (by omega)
   have a3 := v1 k (by omega)
   rw [Nat.add_zero] at a1
   omega
  ·exact z
 dsimp only
 rw [if_neg (by simp; omega)]
 rw [Nat.zero_add]
 have sx : (xs.extract k n1).size = n1 - k := by rw [Array.size_extract]; omega
 have sy : (xs.extract n1 (n1 + m)).size = m := by rw [Array.size_extract]; omega
 have lx : (xs.extract k n1).toList = (xs.toList.take n1).drop k := z4h ..
 have ly : (xs.extract n1 (n1 + m)).toList = (xs.toList.take (n1 + m)).drop n1 := z4h ..
 have T : Two rk (xs.extract k n1).toList (xs.extract n1 (n1 + m)).toList := by
  rw [lx, ly]
  refine ⟨z3m (by omega) fun i j _ hij hj => u1 i j hij hj, z3m (by omega) fun i j hi hij hj => u2 i j hi hij (by omega), fun p hp => ?_, fun p hp => ?_, fun p hp q hq => ?_⟩
  ·obtain ⟨i, -, -, hi, rfl⟩ := z25 hp
   exact okA i hi
  ·obtain ⟨i, -, -, hi, rfl⟩ := z25 hp
   exact okA i hi
  ·obtain ⟨i, -, h1, hi, rfl⟩ := z25 hp
   obtain ⟨j, h2, h3, hj, rfl⟩ := z25 hq
   have := rks i j h1 h2 (by omega)
   rwa [z2a hi, z2a hj] at this
 have hL : Last rk (xs.extract k n1) (xs.extract n1 (n1 + m)) := fun j hj => by
  rw [sy] at hj
  rw [sx, z4j (by omega) (by omega), z4j (by omega) (by omega), show k + (n1 - k - 1) = n1 - 1 by omega]
  exact t1 j hj
 have h00 : cdA rk (xs.extract n1 (n1 + m)) 0 < cdA rk (xs.extract k n1) 0 := by
  rw [z4j (by omega) (by omega), z4j (by omega) (by omega)]
  exact g2 k (Nat.le_refl _) (by omega)
 have fin : ∀ (r : Array Keyed) (g : Nat), ResM rk (xs.extract k n1).toList (xs.extract n1 (n1 + m)).toList r.toList →
   wpS (model prog w) A E s (do
    modify fun s => setArr s (List.foldl (fun (a : Array Keyed) (x : Keyed × Nat) => a.setIfInBounds (k + x.2) x.1) (arrOf s) r.toList.zipIdx)
    let s ← get
    pure (failedOf s).isNone) Q (galS st1 g) := fun r g ⟨rp, ru⟩ => by
  refine wpS_bind (wpS_modify (wpS_bind (wpS_get (wpS_pure ?_))))
  show Q (failedOf st1).isNone _
  rw [f1]
  have rl : r.toList.length = n1 - k + m := by
   have := rp.length_eq
   rw [List.length_append, Array.length_toList (xs := xs.extract k n1), Array.length_toList (xs := xs.extract n1 (n1 + m)), sx, sy] at this
   exact this
  have wb := z5k k r.toList 0 xs (by rw [rl]; omega)
  rw [Nat.add_zero, rl, show k + (n1 - k + m) = n1 + m by omega] at wb
  have ea : (List.foldl (fun (a : Array Keyed) (x : Keyed × Nat) => a.setIfInBounds (k + x.2) x.1) (arrOf (galS st1 g)) r.toList.zipIdx).toList = xs.toList.take k ++ r.toList ++ xs.toList.drop (n1 + m) := by
   rw [← wb]
   show (List.foldl _ (arrOf st1) _).toList = _
   rw [e1]
  generalize List.foldl (fun (a : Array Keyed) (x : Keyed × Nat) => a.setIfInBounds (k + x.2) x.1) (arrOf (galS st1 g)) r.toList.zipIdx = F at ea ⊢
  rw [lx, ly] at rp
  have c1 : xs.toList.take k ++ (xs.toList.take n1).drop k = xs.toList.take n1 := z3t hkn
  have c2 : xs.toList.take n1 ++ (xs.toList.take (n1 + m)).drop n1 = xs.toList.take (n1 + m) := z3t (by omega)
  have mem : ∀ p ∈ r.toList, ∃ j, k ≤ j ∧ j < n1 + m ∧ ∃ hj : j < xs.size, p = xs[j] := fun p hp => by
   rcases List.mem_append.mp (rp.mem_iff.mp hp) with z | z
   ·obtain ⟨j, a1, a2, a3, rfl⟩ := z25 z
    exact ⟨j, a1, by omega, a3, rfl⟩
   ·obtain ⟨j, a1, a2, a3, rfl⟩ := z25 z
    exact ⟨j, by omega, a2, a3, rfl⟩
  refine h _ p1 f1 ?_ ?_
  ·show F.Perm xs
   rw [Array.perm_iff_toList_perm, ea]
   have : (xs.toList.take k ++ ((xs.toList.take n1).drop k ++ (xs.toList.take (n1 + m)).drop n1) ++ xs.toList.drop (n1 + m)) = xs.toList := by
    rw [← List.append_assoc, c1, c2, List.take_append_drop]
   conv => rhs; rw [← this]
   exact (rp.append_left _).append_right _
  ·show F.toList.Pairwise _
   rw [ea, List.pairwise_append, List.pairwise_append]
   have low : ∀ i, i < k → ∀ j, k ≤ j → j < n1 + n2 → cdA rk xs i < cdA rk xs j := fun i hi j hj hj2 => by
    rcases Nat.lt_or_ge j n1 with z | z
    ·exact u1 i j (by omega) z
    ·have := g1 i hi
     have := v2 j z hj2
     omega
   have s1 := z3m (rk := rk) (xs := xs) (lo := 0) (hi := k) (by omega) fun i j _ hij hj => u1 i j hij (by omega)
   have s3 := z3m (rk := rk) (xs := xs) (lo := n1 + m) (hi := xs.size) (Nat.le_refl _) fun i j hi hij hj => u2 i j (by omega) hij (by omega)
   rw [List.drop_zero] at s1
   rw [List.take_of_length_le (by omega)] at s3
   refine ⟨⟨s1, ru, fun p hp q hq => ?_⟩, s3, fun p hp q hq => ?_⟩
   ·obtain ⟨i, a1, a2, rfl⟩ := z3l hp
    obtain ⟨j, b1, b2, b3, rfl⟩ := mem q hq
    have := low i a1 j b1 (by omega)
    rwa [zk a2, zk b3] at this
   ·obtain ⟨j, b1, b2, rfl⟩ := z2m hq
    rcases List.mem_append.mp hp with z | z
    ·obtain ⟨i, a1, a2, rfl⟩ := z3l z
     have := low i a1 j (by omega) (by omega)
     rwa [zk a2, zk b2] at this
    ·obtain ⟨i, a1, a2, a3, rfl⟩ := mem p z
     rw [← zk a3, ← zk b2]
     rcases Nat.lt_or_ge i n1 with y | y
     ·have q1 := v1 i y
      have q2 := t2 (j - n1) (by omega) (by omega)
      rw [show n1 + (j - n1) = j by omega] at q2
      omega
     ·exact u2 i j y (by omega) (by omega)
 have sx0 : 0 < (xs.extract k n1).size := by omega
 have sy0 : 0 < (xs.extract n1 (n1 + m)).size := by omega
 split
 ·exact wpS_bind (z7g T hL k1 sx0 sy0 h00 fin)
 ·exact wpS_bind (z7h T hL k1 sx0 sy0 h00 fin)
end
end PyProof.Rows
end
section
namespace PyProof.Rows
open PySem
structure Own (rk : Keyed → Nat) (a₀ : Array Keyed) (st : SortSt) (lo hi : Nat) : Prop where
 kd : kindOf st = oneType'
 fl : failedOf st = none
 pm : (arrOf st).Perm a₀
 ok : ∀ p ∈ a₀.toList, OkK rk p
 low : ∀ i, lo ≤ i → i < hi → i < a₀.size → lo ≤ rkA rk (arrOf st) i ∧ rkA rk (arrOf st) i < hi
 un : ∀ i, hi ≤ i → i < a₀.size → rkA rk (arrOf st) i = i
def IncA (rk : Keyed → Nat) (xs : Array Keyed) (lo hi : Nat) : Prop := ∀ i j, lo ≤ i → i < j → j < hi → cdA rk xs i < cdA rk xs j
def DecA (rk : Keyed → Nat) (xs : Array Keyed) (lo hi : Nat) : Prop := ∀ i j, lo ≤ i → i < j → j < hi → cdA rk xs j < cdA rk xs i
def SameLow (xs ys : Array Keyed) (lo : Nat) : Prop := ∀ i, i < lo → ys[i]? = xs[i]?
section
variable {prog : Program} {w : World} {A : Around} {E : Value → Shared → Prop} {s : Shared} {rk : Keyed → Nat} {a₀ : Array Keyed}
theorem Own.size {st : SortSt} {lo hi : Nat} (h : Own rk a₀ st lo hi) : (arrOf st).size = a₀.size := h.pm.size_eq
theorem Own.okA {st : SortSt} {lo hi : Nat} (h : Own rk a₀ st lo hi) {i : Nat} (hi' : i < (arrOf st).size) : OkK rk (arrOf st)[i] := h.ok _ ((Array.perm_iff_toList_perm.mp h.pm).mem_iff.mp (by simp))
theorem z2i {st : SortSt} {lo hi i j : Nat} {Q : Option Bool → SortSt → Prop} (h : Own rk a₀ st lo hi) (hi' : i < a₀.size) (hj : j < a₀.size) (q : Q (some (decide (K (arrOf st) i < K (arrOf st) j))) st) : wpS (model prog w) A E s (ltAt' i j) Q st := by
 have hi2 : i < (arrOf st).size := by rw [h.size]; exact hi'
 have hj2 : j < (arrOf st).size := by rw [h.size]; exact hj
 obtain ⟨n, t, e1⟩ := (h.okA hi2).1
 obtain ⟨m, u, e2⟩ := (h.okA hj2).1
 rw [K_eq hi2, K_eq hj2, e1, e2] at q
 refine wpS_ltAt (a := n) (b := m) (t := t) (u := u) (p := (arrOf st)[i].2) (q := (arrOf st)[j].2) h.kd ?_ ?_ q
 ·rw [getElem?_pos _ i hi2, ← e1]
 ·rw [getElem?_pos _ j hj2, ← e2]
theorem cd_K {st : SortSt} {lo hi i : Nat} (h : Own rk a₀ st lo hi) (hi' : i < a₀.size) : cdA rk (arrOf st) i = K (arrOf st) i * 1000 + (rkA rk (arrOf st) i : Int) ∧ rkA rk (arrOf st) i < 1000 := by
 have hi2 : i < (arrOf st).size := by rw [h.size]; exact hi'
 rw [zk hi2, z2a hi2, K_eq hi2]
 exact ⟨rfl, (h.okA hi2).2⟩
theorem Own.move {st : SortSt} {lo hi : Nat} (h : Own rk a₀ st lo hi) {ys : Array Keyed} (hp : ys.Perm (arrOf st)) (φ : Nat → Nat) (hφ : ∀ i, lo ≤ i → i < hi → lo ≤ φ i ∧ φ i < hi) (e1 : ∀ i, lo ≤ i → i < hi → ys[i]? = (arrOf st)[φ i]?) (e2 : ∀ i, hi ≤ i → ys[i]? = (arrOf st)[i]?) (hs : hi ≤ a₀.size) : Own rk a₀ (setArr st ys) lo hi := by
 refine ⟨h.kd, h.fl, hp.trans h.pm, h.ok, fun i h1 h2 h3 => ?_, fun i h1 h2 => ?_⟩
 ·show lo ≤ rkA rk ys i ∧ rkA rk ys i < hi
  rw [z7e (e1 i h1 h2)]
  obtain ⟨a, b⟩ := hφ i h1 h2
  exact h.low _ a b (by omega)
 ·show rkA rk ys i = i
  rw [z7e (e2 i h1)]
  exact h.un i h1 h2
theorem Own.wide {st : SortSt} {lo hi hi2 : Nat} (h : Own rk a₀ st lo hi) (hh : hi ≤ hi2) (hl : lo ≤ hi) : Own rk a₀ st lo hi2 := by
 refine ⟨h.kd, h.fl, h.pm, h.ok, fun i h1 h2 h3 => ?_, fun i h1 h2 => h.un i (by omega) h2⟩
 rcases Nat.lt_or_ge i hi with z | z
 ·have := h.low i h1 z h3
  omega
 ·have := h.un i z h3
  omega
def dscS (b m top : Nat) : StateT SortSt Sem (Option Nat) := do
 rule "list.sort.descending-run"
 let mut m := m + 1
 let mut q := 0
 for _ in [m:top] do
  let some sm ← ltAt' (b + m) (b + m - 1) | return none
  if sm then
   if q > 0 then reverseSlice' (b + m - (q + 1)) (b + m)
   q := 0
  else
   let some lg ← ltAt' (b + m - 1) (b + m) | return none
   if lg then break
   q := q + 1
  m := m + 1
 if q > 0 then reverseSlice' (b + m - (q + 1)) (b + m)
 reverseSlice' b (b + m)
 for _ in [m:top] do
  let some sm ← ltAt' (b + m) (b + m - 1) | return none
  if sm then break
  m := m + 1
 return some m
def ascS (b m top : Nat) : StateT SortSt Sem (Option Nat) := do
 let mut m := m
 for _ in [m:top] do
  let some sm ← ltAt' (b + m) (b + m - 1) | return none
  if sm then break
  m := m + 1
 return some m
theorem z2x {xs : Array Keyed} {i j : Nat} (hj : j ≤ xs.size) (k : Nat) : cdA rk (mirror xs i j ((j - i) / 2)) k = if i ≤ k ∧ k < j then cdA rk xs (i + j - 1 - k) else cdA rk xs k := by
 have e := getElem?_mirror_all (i := i) hj k
 split
 ·rename_i c
  rw [if_pos c] at e
  exact z2p e
 ·rename_i c
  rw [if_neg c] at e
  exact z2p e
theorem Own.rev {st : SortSt} {lo hi i j : Nat} (h : Own rk a₀ st lo hi) (h1 : lo ≤ i) (h3 : j ≤ hi) (hs : hi ≤ a₀.size) : Own rk a₀ (setArr st (mirror (arrOf st) i j ((j - i) / 2))) lo hi := by
 have hz : j ≤ (arrOf st).size := by rw [h.size]; omega
 refine h.move (mirror_perm ..) (fun k => if i ≤ k ∧ k < j then i + j - 1 - k else k) (fun k a b => ?_) (fun k a b => ?_) (fun k a => ?_) hs
 ·split <;> omega
 ·rw [getElem?_mirror_all hz]
  split <;> rfl
 ·rw [getElem?_mirror_all hz, if_neg (by omega)]
theorem z4k {xs : Array Keyed} {b i j : Nat} (hj : j ≤ xs.size) (hb : b ≤ i) : SameLow xs (mirror xs i j ((j - i) / 2)) b := fun k hk => by rw [getElem?_mirror_all hj, if_neg (by omega)]
theorem z38 {st : SortSt} {lo hi i j : Nat} (h : Own rk a₀ st lo hi) (h1 : lo ≤ i) (h2 : i < hi) (h3 : hi ≤ j) (h4 : j < a₀.size) : (K (arrOf st) j < K (arrOf st) i ↔ cdA rk (arrOf st) j < cdA rk (arrOf st) i) ∧ (¬ K (arrOf st) j < K (arrOf st) i → cdA rk (arrOf st) i < cdA rk (arrOf st) j) := by
 have a1 := cd_K h (i := i) (by omega)
 have a2 := cd_K h h4
 have a3 := (h.low i h1 h2 (by omega)).2
 have a4 := h.un j h3 h4
 omega
theorem zba {st : SortSt} {lo hi i j : Nat} (h : Own rk a₀ st lo hi) (h1 : i < a₀.size) (h2 : j < a₀.size) (hc : cdA rk (arrOf st) i < cdA rk (arrOf st) j) : K (arrOf st) i ≤ K (arrOf st) j := by
 have a1 := cd_K h h1
 have a2 := cd_K h h2
 omega
theorem zbb {st : SortSt} {lo hi i j : Nat} (h : Own rk a₀ st lo hi) (h1 : i < a₀.size) (h2 : j < a₀.size) (hc : K (arrOf st) i < K (arrOf st) j) : cdA rk (arrOf st) i < cdA rk (arrOf st) j := by
 have a1 := cd_K h h1
 have a2 := cd_K h h2
 omega
def RunK (rk : Keyed → Nat) (a₀ : Array Keyed) (st st' : SortSt) (b m : Nat) : Prop := Own rk a₀ st' b (b + m) ∧ IncA rk (arrOf st') b (b + m) ∧ SameLow (arrOf st) (arrOf st') b ∧ pendingOf st' = pendingOf st
theorem IncA.snoc {xs : Array Keyed} {b m : Nat} (h : IncA rk xs b (b + m)) (h1 : 1 ≤ m) (hc : cdA rk xs (b + m - 1) < cdA rk xs (b + m)) : IncA rk xs b (b + (m + 1)) := fun i j h2 h3 h4 => by
 rcases Nat.lt_or_ge j (b + m) with z | z
 ·exact h i j h2 h3 z
 ·obtain rfl : j = b + m := by omega
  rcases Nat.lt_or_ge i (b + m - 1) with y | y
  ·have := h i (b + m - 1) h2 y (by omega)
   omega
  ·obtain rfl : i = b + m - 1 := by omega
   exact hc
theorem zap {st : SortSt} {b m top : Nat} {Q : Option Nat → SortSt → Prop} (hO : Own rk a₀ st b (b + m)) (hI : IncA rk (arrOf st) b (b + m)) (h1 : 1 ≤ m) (hm : m ≤ top) (ht : b + top = a₀.size)
  (h : ∀ k, m ≤ k → k ≤ top → Own rk a₀ st b (b + k) → IncA rk (arrOf st) b (b + k) → Q (some k) st) : wpS (model prog w) A E s (ascS b m top) Q st := by
 unfold ascS
 refine wpS_bind (wpS_mono (wpS_forRange (I := fun x c st' => st' = st ∧ c = (none, x) ∧ IncA rk (arrOf st) b (b + x)) (Q := fun c st' => st' = st ∧ ∃ k, c = (none, k) ∧ m ≤ k ∧ k ≤ top ∧ IncA rk (arrOf st) b (b + k)) ?_ ?_ ⟨rfl, rfl, hI⟩) ?_)
 ·rintro x c st' hx1 hx2 ⟨rfl, rfl, hI'⟩
  dsimp only
  have hO' := hO.wide (hi2 := b + x) (by omega) (by omega)
  refine wpS_bind (z2i hO' (by omega) (by omega) ?_)
  have al := z38 hO' (i := b + x - 1) (j := b + x) (by omega) (by omega) (Nat.le_refl _) (by omega)
  by_cases c : K (arrOf st') (b + x) < K (arrOf st') (b + x - 1)
  ·simp only [c, decide_true, if_true]
   exact wpS_pure ⟨rfl, x, rfl, hx1, by omega, hI'⟩
  ·simp only [c, decide_false, Bool.false_eq_true, if_false]
   exact wpS_pure ⟨rfl, rfl, hI'.snoc (by omega) (al.2 c)⟩
 ·rintro c st' ⟨rfl, rfl, hI'⟩
  rw [show max m top = top by omega] at hI' ⊢
  exact ⟨rfl, top, rfl, hm, Nat.le_refl _, hI'⟩
 ·rintro c st' ⟨rfl, k, rfl, a1, a2, hI'⟩
  exact wpS_pure (h k a1 a2 (hO.wide (by omega) (by omega)) hI')
structure Grp (rk : Keyed → Nat) (st : SortSt) (b x q : Nat) : Prop where
 q1 : q + 1 ≤ x
 eq : ∀ i, b + x - (q + 1) ≤ i → i < b + x → K (arrOf st) i = K (arrOf st) (b + x - 1)
 gi : IncA rk (arrOf st) (b + x - (q + 1)) (b + x)
 de : DecA rk (arrOf st) b (b + x - (q + 1))
 ab : ∀ i j, b ≤ i → i < b + x - (q + 1) → b + x - (q + 1) ≤ j → j < b + x → K (arrOf st) j < K (arrOf st) i
theorem Grp.turn {st : SortSt} {b x q : Nat} (g : Grp rk st b x q) (hO : Own rk a₀ st b (b + x)) (hs : b + x ≤ a₀.size) : DecA rk (mirror (arrOf st) (b + x - (q + 1)) (b + x) ((b + x - (b + x - (q + 1))) / 2)) b (b + x) := fun i j h1 h2 h3 => by
 have hz : b + x ≤ (arrOf st).size := by rw [hO.size]; exact hs
 have := g.q1
 rw [z2x hz, z2x hz]
 by_cases cj : b + x - (q + 1) ≤ j
 ·rw [if_pos (by omega)]
  by_cases ci : b + x - (q + 1) ≤ i
  ·rw [if_pos (by omega)]
   exact g.gi _ _ (by omega) (by omega) (by omega)
  ·rw [if_neg (by omega)]
   exact zbb hO (by omega) (by omega) (g.ab i _ h1 (by omega) (by omega) (by omega))
 ·rw [if_neg (by omega), if_neg (by omega)]
  exact g.de i j h1 h2 (by omega)
theorem Grp.one {st : SortSt} {b x : Nat} (g : Grp rk st b x 0) (hO : Own rk a₀ st b (b + x)) (hs : b + x ≤ a₀.size) : DecA rk (arrOf st) b (b + x) := fun i j h1 h2 h3 => by
 rcases Nat.lt_or_ge j (b + x - (0 + 1)) with z | z
 ·exact g.de i j h1 h2 z
 ·exact zbb hO (by omega) (by omega) (g.ab i j h1 (by omega) z h3)
theorem SameLow.trans {xs ys zs : Array Keyed} {b : Nat} (h : SameLow xs ys b) (g : SameLow ys zs b) : SameLow xs zs b := fun i hi => (g i hi).trans (h i hi)
theorem z6g {st0 st : SortSt} {b m top : Nat} {Q : Option Nat → SortSt → Prop} (hO : Own rk a₀ st b (b + m)) (hD : DecA rk (arrOf st) b (b + m)) (hL : SameLow (arrOf st0) (arrOf st) b) (hp : pendingOf st = pendingOf st0) (h1 : 1 ≤ m) (hm : m ≤ top) (ht : b + top = a₀.size)
  (h : ∀ k st', 1 ≤ k → k ≤ top → RunK rk a₀ st0 st' b k → Q (some k) st') : wpS (model prog w) A E s (do reverseSlice' b (b + m); ascS b m top) Q st := by
 have hz : b + m ≤ (arrOf st).size := by rw [hO.size]; omega
 refine wpS_bind (wpS_reverse ?_)
 have hO' := hO.rev (i := b) (j := b + m) (Nat.le_refl _) (Nat.le_refl _) (by omega)
 refine zap hO' (fun i j h2 h3 h4 => ?_) h1 hm ht fun k a1 a2 hk hi => h k _ (by omega) a2 ⟨hk, hi, hL.trans (z4k hz (Nat.le_refl _)), hp⟩
 show cdA rk (mirror (arrOf st) b (b + m) ((b + m - b) / 2)) i < cdA rk (mirror (arrOf st) b (b + m) ((b + m - b) / 2)) j
 rw [z2x hz, z2x hz, if_pos (by omega), if_pos (by omega)]
 exact hD _ _ (by omega) (by omega) (by omega)
theorem z7j {st0 st : SortSt} {b m top : Nat} {Q : Option Nat → SortSt → Prop} (hO : Own rk a₀ st b (b + m)) (hD : DecA rk (arrOf st) b (b + m)) (hL : SameLow (arrOf st0) (arrOf st) b) (hp : pendingOf st = pendingOf st0) (h1 : 1 ≤ m) (hm : m < top) (ht : b + top = a₀.size)
  (hx : ∀ i, b ≤ i → i < b + m → K (arrOf st) (b + m) < K (arrOf st) i) (h : ∀ k st', 1 ≤ k → k ≤ top → RunK rk a₀ st0 st' b k → Q (some k) st') : wpS (model prog w) A E s (dscS b m top) Q st := by
 unfold dscS
 refine wpS_bind (wpS_lift (wpAny_rule ⟨rfl, ?_⟩))
 dsimp only
 refine wpS_bind (wpS_mono (wpS_forRange (I := fun x c st' => ∃ q, c = (none, x, q) ∧ Own rk a₀ st' b (b + x) ∧ Grp rk st' b x q ∧ SameLow (arrOf st0) (arrOf st') b ∧ pendingOf st' = pendingOf st0)
  (Q := fun c st' => ∃ x q, c = (none, x, q) ∧ m + 1 ≤ x ∧ x ≤ top ∧ Own rk a₀ st' b (b + x) ∧ Grp rk st' b x q ∧ SameLow (arrOf st0) (arrOf st') b ∧ pendingOf st' = pendingOf st0) ?_ ?_ ⟨0, rfl, hO.wide (by omega) (by omega), ⟨by omega, fun i a1 a2 => by congr 1; omega, fun i j a1 a2 a3 => by omega, ?_, fun i j a1 a2 a3 a4 => ?_⟩, hL, hp⟩) ?_)
 ·rintro x c st' hx1 hx2 ⟨q, rfl, hO', g, hL', hp'⟩
  dsimp only
  have q1 := g.q1
  have hz : b + x ≤ (arrOf st').size := by rw [hO'.size]; omega
  refine wpS_bind (z2i hO' (by omega) (by omega) ?_)
  by_cases c : K (arrOf st') (b + x) < K (arrOf st') (b + x - 1)
  ·simp only [c, decide_true, if_true]
   have hN : ∀ st2 : SortSt, Own rk a₀ st2 b (b + x) → DecA rk (arrOf st2) b (b + x) → (∀ i, b ≤ i → i < b + x → K (arrOf st2) (b + x) < K (arrOf st2) i) → Grp rk st2 b (x + 1) 0 := fun st2 o d k => ⟨by omega, fun i a1 a2 => by congr 1; omega, fun i j a1 a2 a3 => by omega, fun i j a1 a2 a3 => d i j a1 a2 (by omega), fun i j a1 a2 a3 a4 => by
    obtain rfl : j = b + x := by omega
    exact k i a1 (by omega)⟩
   have hK : ∀ i, b ≤ i → i < b + x → K (arrOf st') (b + x) < K (arrOf st') i := fun i a1 a2 => by
    rcases Nat.lt_or_ge i (b + x - (q + 1)) with z | z
    ·have := g.ab i (b + x - 1) a1 z (by omega) (by omega)
     omega
    ·rw [g.eq i z a2]
     exact c
   by_cases cq : q > 0
   ·rw [if_pos cq]
    refine wpS_bind (wpS_reverse (wpS_pure ⟨0, rfl, ?_, ?_, hL'.trans (z4k hz (by omega)), hp'⟩))
    ·exact (hO'.rev (i := b + x - (q + 1)) (j := b + x) (by omega) (Nat.le_refl _) (by omega)).wide (by omega) (by omega)
    ·refine hN _ (hO'.rev (i := b + x - (q + 1)) (j := b + x) (by omega) (Nat.le_refl _) (by omega)) (g.turn hO' (by omega)) fun i a1 a2 => ?_
     show K (mirror (arrOf st') _ _ _) (b + x) < K (mirror (arrOf st') _ _ _) i
     rw [K_mirror_equal hz fun k c1 c2 => g.eq k c1 c2, K_mirror_equal hz fun k c1 c2 => g.eq k c1 c2]
     exact hK i a1 a2
   ·rw [if_neg cq]
    obtain rfl : q = 0 := by omega
    exact wpS_pure ⟨0, rfl, hO'.wide (by omega) (by omega), hN _ hO' (g.one hO' (by omega)) hK, hL', hp'⟩
  ·simp only [c, decide_false, Bool.false_eq_true, if_false]
   refine wpS_bind (z2i hO' (by omega) (by omega) ?_)
   by_cases c2 : K (arrOf st') (b + x - 1) < K (arrOf st') (b + x)
   ·simp only [c2, decide_true, if_true]
    exact wpS_pure ⟨x, q, rfl, hx1, by omega, hO', g, hL', hp'⟩
   ·simp only [c2, decide_false, Bool.false_eq_true, if_false]
    have ke : K (arrOf st') (b + x) = K (arrOf st') (b + x - 1) := by omega
    refine wpS_pure ⟨q + 1, rfl, hO'.wide (by omega) (by omega), ⟨by omega, fun i a1 a2 => ?_, fun i j a1 a2 a3 => ?_, fun i j a1 a2 a3 => g.de i j a1 a2 (by omega), fun i j a1 a2 a3 a4 => ?_⟩, hL', hp'⟩
    ·rw [show b + (x + 1) - 1 = b + x by omega, ke]
     rcases Nat.lt_or_ge i (b + x) with z | z
     ·exact g.eq i (by omega) z
     ·obtain rfl : i = b + x := by omega
      exact ke
    ·rcases Nat.lt_or_ge j (b + x) with z | z
     ·exact g.gi i j (by omega) a2 z
     ·obtain rfl : j = b + x := by omega
      have al := z38 hO' (i := i) (j := b + x) (by omega) a2 (Nat.le_refl _) (by omega)
      refine al.2 ?_
      rw [g.eq i (by omega) a2]
      exact c
    ·rcases Nat.lt_or_ge j (b + x) with z | z
     ·exact g.ab i j a1 (by omega) (by omega) z
     ·obtain rfl : j = b + x := by omega
      rw [ke]
      exact g.ab i _ a1 (by omega) (by omega) (by omega)
 ·rintro c st' ⟨q, rfl, hO', g, hL', hp'⟩
  rw [show max (m + 1) top = top by omega] at hO' g ⊢
  exact ⟨top, q, rfl, by omega, Nat.le_refl _, hO', g, hL', hp'⟩
 ·exact fun i j a1 a2 a3 => hD i j a1 a2 (by omega)
 ·obtain rfl : j = b + m := by omega
  exact hx i a1 (by omega)
 ·rintro c st' ⟨x, q, rfl, a1, a2, hO', g, hL', hp'⟩
  dsimp only
  have q1 := g.q1
  have hz : b + x ≤ (arrOf st').size := by rw [hO'.size]; omega
  by_cases cq : q > 0
  ·rw [if_pos cq]
   refine wpS_bind (wpS_reverse ?_)
   exact z6g (hO'.rev (i := b + x - (q + 1)) (j := b + x) (by omega) (Nat.le_refl _) (by omega)) (g.turn hO' (by omega)) (hL'.trans (z4k hz (by omega))) hp' (by omega) a2 ht h
  ·rw [if_neg cq]
   obtain rfl : q = 0 := by omega
   exact z6g hO' (g.one hO' (by omega)) hL' hp' (by omega) a2 ht h
theorem z7k {st : SortSt} {b top : Nat} {Q : Option Nat → SortSt → Prop} (hO : Own rk a₀ st b b) (h1 : 1 ≤ top) (ht : b + top = a₀.size) (h : ∀ k st', 1 ≤ k → k ≤ top → RunK rk a₀ st st' b k → Q (some k) st') : wpS (model prog w) A E s (countRun' b top) Q st := by
 rw [countRun'_eq]
 dsimp only
 have hr : SameLow (arrOf st) (arrOf st) b := fun _ _ => rfl
 refine wpS_bind (wpS_mono (wpS_forRange (I := fun x c st' => st' = st ∧ c = (none, x) ∧ IncA rk (arrOf st) b (b + x)) (Q := fun c st' => st' = st ∧ ∃ k, c = (none, k) ∧ 1 ≤ k ∧ k ≤ top ∧ IncA rk (arrOf st) b (b + k) ∧ (k = top ∨ K (arrOf st) (b + k) < K (arrOf st) (b + k - 1))) ?_ ?_ ⟨rfl, rfl, fun i j a1 a2 a3 => by omega⟩) ?_)
 ·rintro x c st' hx1 hx2 ⟨rfl, rfl, hI'⟩
  dsimp only
  have hO' := hO.wide (hi2 := b + x) (by omega) (by omega)
  refine wpS_bind (z2i hO' (by omega) (by omega) ?_)
  have al := z38 hO' (i := b + x - 1) (j := b + x) (by omega) (by omega) (Nat.le_refl _) (by omega)
  by_cases c : K (arrOf st') (b + x) < K (arrOf st') (b + x - 1)
  ·simp only [c, decide_true, if_true]
   exact wpS_pure ⟨rfl, x, rfl, hx1, by omega, hI', .inr c⟩
  ·simp only [c, decide_false, Bool.false_eq_true, if_false]
   exact wpS_pure ⟨rfl, rfl, hI'.snoc (by omega) (al.2 c)⟩
 ·rintro c st' ⟨rfl, rfl, hI'⟩
  rw [show max 1 top = top by omega] at hI' ⊢
  exact ⟨rfl, top, rfl, h1, Nat.le_refl _, hI', .inl rfl⟩
 ·rintro c st' ⟨rfl, k, rfl, a1, a2, hI', hor⟩
  dsimp only
  have hO' := hO.wide (hi2 := b + k) (by omega) (by omega)
  by_cases ck : k = top
  ·rw [if_pos (by simpa using ck)]
   exact wpS_pure (h k st' a1 a2 ⟨hO', hI', hr, rfl⟩)
  ·rw [if_neg (by simpa using ck)]
   have hlt := hor.resolve_left ck
   by_cases c1 : k > 1
   ·rw [if_pos c1]
    refine wpS_bind (z2i hO' (by omega) (by omega) ?_)
    by_cases cr : K (arrOf st') b < K (arrOf st') (b + k - 1)
    ·simp only [cr, decide_true, if_true]
     exact wpS_pure (h k st' a1 a2 ⟨hO', hI', hr, rfl⟩)
    ·simp only [cr, decide_false, Bool.false_eq_true, if_false]
     have hz : b + k ≤ (arrOf st').size := by rw [hO'.size]; omega
     have eqs : ∀ i, b ≤ i → i < b + k → K (arrOf st') i = K (arrOf st') (b + k - 1) := fun i b1 b2 => by
      have k1 : K (arrOf st') b ≤ K (arrOf st') i := by
       rcases Nat.lt_or_eq_of_le b1 with z | z
       ·exact zba hO' (by omega) (by omega) (hI' b i (Nat.le_refl _) z b2)
       ·rw [z]; exact Int.le_refl _
      have k2 : K (arrOf st') i ≤ K (arrOf st') (b + k - 1) := by
       rcases Nat.lt_or_eq_of_le (show i ≤ b + k - 1 by omega) with z | z
       ·exact zba hO' (by omega) (by omega) (hI' i _ b1 z (by omega))
       ·rw [z]; exact Int.le_refl _
      omega
     refine wpS_bind (wpS_reverse ?_)
     refine z7j (st0 := st') (hO'.rev (i := b) (j := b + k) (Nat.le_refl _) (Nat.le_refl _) (by omega)) (fun i j b1 b2 b3 => ?_) (z4k hz (Nat.le_refl _)) rfl a1 (by omega) ht (fun i b1 b2 => ?_) h
     ·show cdA rk (mirror (arrOf st') b (b + k) ((b + k - b) / 2)) j < cdA rk (mirror (arrOf st') b (b + k) ((b + k - b) / 2)) i
      rw [z2x hz, z2x hz, if_pos (by omega), if_pos (by omega)]
      exact hI' _ _ (by omega) (by omega) (by omega)
     ·show K (mirror (arrOf st') b (b + k) ((b + k - b) / 2)) (b + k) < K (mirror (arrOf st') b (b + k) ((b + k - b) / 2)) i
      rw [K_mirror_equal hz eqs, K_mirror_equal hz eqs, eqs i b1 b2]
      exact hlt
   ·rw [if_neg c1]
    obtain rfl : k = 1 := by omega
    refine z7j (st0 := st') hO' (fun i j b1 b2 b3 => by omega) hr rfl a1 (by omega) ht (fun i b1 b2 => ?_) h
    obtain rfl : i = b := by omega
    exact hlt
end
end PyProof.Rows
end
section
namespace PyProof.Rows
open PySem
section
variable {prog : Program} {w : World} {A : Around} {E : Value → Shared → Prop} {s : Shared} {rk : Keyed → Nat} {a₀ : Array Keyed}
theorem z8l {xs : Array Keyed} {src d : Nat} (hs : src < xs.size) (hd : d ≤ src) (k : Nat) : cdA rk (bubble xs src d) k = if k = src - d then cdA rk xs src else if src - d < k ∧ k ≤ src then cdA rk xs (k - 1) else cdA rk xs k := by
 have e := getElem?_bubble hs d hd k
 by_cases h1 : k = src - d
 ·rw [if_pos h1] at e ⊢; exact z2p e
 ·rw [if_neg h1] at e ⊢
  by_cases h2 : src - d < k ∧ k ≤ src
  ·rw [if_pos h2] at e ⊢; exact z2p e
  ·rw [if_neg h2] at e ⊢; exact z2p e
theorem z6h {st0 st : SortSt} {b n m : Nat} {Q : Bool → SortSt → Prop} (hR : RunK rk a₀ st0 st b m) (h1 : 1 ≤ m) (hm : m ≤ n) (ht : b + n ≤ a₀.size) (h : ∀ st', RunK rk a₀ st0 st' b n → Q true st') : wpS (model prog w) A E s (binarySort' b n m) Q st := by
 rw [binarySort'_eq]
 refine wpS_bind (wpS_mono (wpS_forRange (I := fun k c st' => c = (none, ()) ∧ RunK rk a₀ st0 st' b k) (Q := fun c st' => c = (none, ()) ∧ RunK rk a₀ st0 st' b n) ?_ ?_ ⟨rfl, by rw [show max m 1 = m by omega]; exact hR⟩) ?_)
 ·rintro k c st1 hk1 hk2 ⟨rfl, hO, hI, hL, hp⟩
  have hz : b + k < (arrOf st1).size := by rw [hO.size]; omega
  refine wpS_bind (wpS_mono (wpS_forRange (I := fun x c st2 => st2 = st1 ∧ ∃ l r, c = (none, l, r) ∧ l ≤ r ∧ r ≤ k ∧ r - l ≤ k - x ∧ (∀ i, i < l → cdA rk (arrOf st1) (b + i) < cdA rk (arrOf st1) (b + k)) ∧ ∀ i, r ≤ i → i < k → cdA rk (arrOf st1) (b + k) < cdA rk (arrOf st1) (b + i))
   (Q := fun c st2 => st2 = st1 ∧ ∃ l r, c = (none, l, r) ∧ l ≤ k ∧ (∀ i, i < l → cdA rk (arrOf st1) (b + i) < cdA rk (arrOf st1) (b + k)) ∧ ∀ i, l ≤ i → i < k → cdA rk (arrOf st1) (b + k) < cdA rk (arrOf st1) (b + i)) ?_ ?_ ⟨rfl, 0, k, rfl, by omega, by omega, by omega, fun i hi => by omega, fun i a1 a2 => by omega⟩) ?_)
  ·rintro x c st2 - hx ⟨rfl, l, r, rfl, a1, a2, a3, a4, a5⟩
   dsimp only
   by_cases hge : l ≥ r
   ·rw [if_pos hge]
    obtain rfl : l = r := by omega
    exact wpS_pure ⟨rfl, l, l, rfl, a2, a4, a5⟩
   ·rw [if_neg hge]
    refine wpS_bind (z2i hO (by omega) (by omega) ?_)
    have al := z38 hO (i := b + (l + r) / 2) (j := b + k) (by omega) (by omega) (Nat.le_refl _) (by omega)
    have up : ∀ i j, i ≤ j → j < k → cdA rk (arrOf st2) (b + i) ≤ cdA rk (arrOf st2) (b + j) := fun i j z1 z2 => by
     rcases Nat.lt_or_eq_of_le z1 with y | y
     ·exact Int.le_of_lt (hI _ _ (by omega) (by omega) (by omega))
     ·rw [y]; exact Int.le_refl _
    by_cases c : K (arrOf st2) (b + k) < K (arrOf st2) (b + (l + r) / 2)
    ·simp only [c, decide_true, if_true]
     refine wpS_pure ⟨rfl, _, _, rfl, by omega, by omega, by omega, a4, fun i z1 z2 => ?_⟩
     have := al.1.mp c
     have := up _ i z1 z2
     omega
    ·simp only [c, decide_false, Bool.false_eq_true, if_false]
     refine wpS_pure ⟨rfl, _, _, rfl, by omega, by omega, by omega, fun i z1 => ?_, a5⟩
     have := al.2 c
     have := up i ((l + r) / 2) (by omega) (by omega)
     omega
  ·rintro c st2 ⟨rfl, l, r, rfl, a1, a2, a3, a4, a5⟩
   obtain rfl : l = r := by omega
   exact ⟨rfl, l, l, rfl, a2, a4, a5⟩
  ·rintro c st2 ⟨rfl, l, r, rfl, a2, a4, a5⟩
   show wpS _ _ _ _ (do moveDown' (b + k) (b + l); pure (ForInStep.yield (none, ()))) _ _
   rw [moveDown'_eq]
   refine wpS_bind (wpS_modify (wpS_pure ⟨rfl, ?_, ?_, ?_, hp⟩))
   ·refine (hO.wide (hi2 := b + (k + 1)) (by omega) (by omega)).move (bubble_perm ..) (fun i => if i = b + l then b + k else if b + l < i ∧ i ≤ b + k then i - 1 else i) (fun i z1 z2 => ?_) (fun i z1 z2 => ?_) (fun i z1 => ?_) (by omega)
    ·split
     ·omega
     ·split <;> omega
    ·rw [getElem?_bubble hz _ (by omega), show b + k - (b + k - (b + l)) = b + l by omega]
     split
     ·rfl
     ·split <;> rfl
    ·rw [getElem?_bubble hz _ (by omega), if_neg (by omega), if_neg (by omega)]
   ·intro i j z1 z2 z3
    show cdA rk (bubble (arrOf st2) (b + k) (b + k - (b + l))) i < cdA rk (bubble (arrOf st2) (b + k) (b + k - (b + l))) j
    rw [z8l hz (by omega), z8l hz (by omega), show b + k - (b + k - (b + l)) = b + l by omega]
    have low : ∀ i, b ≤ i → i < b + l → cdA rk (arrOf st2) i < cdA rk (arrOf st2) (b + k) := fun i y1 y2 => by
     have := a4 (i - b) (by omega)
     rwa [show b + (i - b) = i by omega] at this
    have hig : ∀ i, b + l ≤ i → i < b + k → cdA rk (arrOf st2) (b + k) < cdA rk (arrOf st2) i := fun i y1 y2 => by
     have := a5 (i - b) (by omega) (by omega)
     rwa [show b + (i - b) = i by omega] at this
    repeat' split
    all_goals first
     | (exfalso; omega)
     | exact low _ (by omega) (by omega)
     | exact hig _ (by omega) (by omega)
     | exact hI _ _ (by omega) (by omega) (by omega)
   ·exact hL.trans fun i hi => by
     show (bubble (arrOf st2) (b + k) (b + k - (b + l)))[i]? = _
     rw [getElem?_bubble hz _ (by omega), if_neg (by omega), if_neg (by omega)]
 ·rintro c st1 ⟨rfl, hR'⟩
  rw [show max (max m 1) n = n by omega] at hR'
  exact ⟨rfl, hR'⟩
 ·rintro c st1 ⟨rfl, hR'⟩
  exact wpS_pure (h st1 hR')
theorem z9g {n : Nat} (h : 2 ≤ n) (h2 : n < 128) : ∃ r, minRun' n n 0 = r ∧ 1 ≤ r ∧ r ≤ n ∧ n ≤ 2 * r := by
 obtain ⟨f, rfl⟩ : ∃ f, n = f + 1 := ⟨n - 1, by omega⟩
 rw [minRun'_succ]
 by_cases c : f + 1 < 64
 ·rw [if_pos c]
  exact ⟨_, rfl, by omega, by omega, by omega⟩
 ·rw [if_neg c]
  obtain ⟨g, rfl⟩ : ∃ g, f = g + 1 := ⟨f - 1, by omega⟩
  rw [minRun'_succ, if_pos (by omega)]
  exact ⟨_, rfl, by omega, by omega, by omega⟩
def OneR (rk : Keyed → Nat) (a₀ : Array Keyed) (st : SortSt) (n : Nat) : Prop := Own rk a₀ st 0 n ∧ IncA rk (arrOf st) 0 n ∧ ∃ pw, pendingOf st = #[(0, n, pw)]
def TwoR (rk : Keyed → Nat) (a₀ : Array Keyed) (st : SortSt) : Prop := ∃ n1 n2 pw, pendingOf st = #[(0, n1, pw), (n1, n2, 0)] ∧ 0 < n1 ∧ 0 < n2 ∧ n1 + n2 = a₀.size ∧ kindOf st = oneType' ∧ failedOf st = none ∧ (arrOf st).Perm a₀ ∧ IncA rk (arrOf st) 0 n1 ∧ IncA rk (arrOf st) n1 (n1 + n2) ∧ ∀ i j, i < n1 → n1 ≤ j → j < n1 + n2 → rkA rk (arrOf st) i < rkA rk (arrOf st) j
theorem z4w {st : SortSt} {Q : Unit → SortSt → Prop} (hO : Own rk a₀ st 0 0) (hp : pendingOf st = #[]) (h2 : 2 ≤ a₀.size) (h128 : a₀.size < 128)
  (h : ∀ st', (arrOf st').Perm a₀ → failedOf st' = none → (arrOf st').toList.Pairwise (fun p q => cdK rk p < cdK rk q) → Q () st') : wpS (model prog w) A E s sortRuns' Q st := by
 rw [sortRuns'_eq]
 refine wpS_bind (wpS_get ?_)
 dsimp only
 obtain ⟨mr, hmr, m1, m2, m3⟩ := z9g h2 h128
 simp only [hO.size, hmr]
 refine wpS_bind (wpS_mono (wpS_forRange (I := fun x c st' => (x = 0 ∧ c = (none, 0) ∧ st' = st) ∨ (x = 1 ∧ ∃ n, c = (none, n) ∧ mr ≤ n ∧ n ≤ a₀.size ∧ OneR rk a₀ st' n) ∨ (2 ≤ x ∧ c = (none, a₀.size) ∧ TwoR rk a₀ st'))
  (Q := fun c st' => c = (none, a₀.size) ∧ (OneR rk a₀ st' a₀.size ∨ TwoR rk a₀ st')) ?_ ?_ (.inl ⟨rfl, rfl, rfl⟩)) ?_)
 ·rintro x c st' - hx (⟨rfl, rfl, rfl⟩ | ⟨rfl, n, rfl, n1, n2, hone⟩ | ⟨hx2, rfl, htwo⟩)
  ·dsimp only
   rw [if_neg (by omega)]
   rw [Nat.sub_zero]
   have put : ∀ (n : Nat) (st1 : SortSt), mr ≤ n → n ≤ a₀.size → RunK rk a₀ st' st1 0 n → OneR rk a₀ (setPending st1 ((pendingOf st1).push (0, n, 0))) n ∧ (pendingOf st1).back? = none := fun n st1 n1 n2 ⟨o, i, _, p⟩ => by
    rw [Nat.zero_add] at o i
    rw [p, hp]
    exact ⟨⟨⟨o.kd, o.fl, o.pm, o.ok, o.low, o.un⟩, i, 0, rfl⟩, rfl⟩
   refine wpS_bind (z7k hO (by omega) (by omega) fun k st1 k1 k2 hR => ?_)
   dsimp only
   by_cases ck : k < mr
   ·rw [if_pos ck]
    refine wpS_bind (wpS_lift (wpAny_rule ⟨rfl, ?_⟩))
    rw [show min a₀.size mr = mr by omega]
    refine wpS_bind (z6h hR k1 (by omega) (by omega) fun st2 hR2 => ?_)
    rw [if_neg (by decide)]
    obtain ⟨q1, q2⟩ := put mr st2 (Nat.le_refl _) m2 hR2
    refine wpS_bind (wpS_get ?_)
    rw [q2]
    exact wpS_bind (wpS_modify (wpS_pure (.inr (.inl ⟨rfl, mr, by rw [Nat.zero_add], Nat.le_refl _, m2, q1⟩))))
   ·rw [if_neg ck]
    obtain ⟨q1, q2⟩ := put k st1 (by omega) k2 hR
    refine wpS_bind (wpS_get ?_)
    rw [q2]
    exact wpS_bind (wpS_modify (wpS_pure (.inr (.inl ⟨rfl, k, by rw [Nat.zero_add], by omega, k2, q1⟩))))
  ·dsimp only
   by_cases hge : n ≥ a₀.size
   ·rw [if_pos hge]
    obtain rfl : n = a₀.size := by omega
    exact wpS_pure ⟨rfl, .inl hone⟩
   rw [if_neg hge]
   obtain ⟨o1, i1, pw, p1⟩ := hone
   have hO2 : Own rk a₀ st' n n := ⟨o1.kd, o1.fl, o1.pm, o1.ok, fun i a b => by omega, o1.un⟩
   have put : ∀ (st1 : SortSt) (w : Nat), RunK rk a₀ st' st1 n (a₀.size - n) → pendingOf st1 = #[(0, n, pw)] ∧ TwoR rk a₀ (setPending (setPending st1 ((pendingOf st1).modify ((pendingOf st1).size - 1) fun x => (x.1, x.2.1, w))) (#[(0, n, w)].push (n, a₀.size - n, 0))) := fun st1 w ⟨o, i, l, p⟩ => by
    rw [show n + (a₀.size - n) = a₀.size by omega] at o i
    refine ⟨p.trans p1, n, a₀.size - n, w, rfl, by omega, by omega, by omega, o.kd, o.fl, o.pm, fun a b h1 h2 h3 => ?_, fun a b h1 h2 h3 => i a b h1 h2 (by omega), fun a b h1 h2 h3 => ?_⟩
    ·show cdA rk (arrOf st1) a < cdA rk (arrOf st1) b
     rw [z2p (l a (by omega)), z2p (l b h3)]
     exact i1 a b h1 h2 h3
    ·show rkA rk (arrOf st1) a < rkA rk (arrOf st1) b
     rw [z7e (l a h1)]
     have := (o1.low a (by omega) h1 (by omega)).2
     have := (o.low b h2 (by omega) (by omega)).1
     omega
   refine wpS_bind (z7k hO2 (by omega) (by omega) fun k st1 k1 k2 hR => ?_)
   dsimp only
   by_cases ck : k < mr
   ·rw [if_pos ck]
    refine wpS_bind (wpS_lift (wpAny_rule ⟨rfl, ?_⟩))
    rw [show min (a₀.size - n) mr = a₀.size - n by omega]
    refine wpS_bind (z6h hR k1 k2 (by omega) fun st2 hR2 => ?_)
    rw [if_neg (by decide)]
    have q1 := (put st2 0 hR2).1
    have q2 := fun w => (put st2 w hR2).2
    refine wpS_bind (wpS_get ?_)
    rw [q1, show (#[(0, n, pw)] : Array (Nat × Nat × Nat)).back? = some (0, n, pw) from rfl]
    dsimp only
    refine wpS_bind (wpS_mono (wpS_forRange (I := fun x c st3 => x = 0 ∧ c = (none, ()) ∧ st3 = st2) (Q := fun c st3 => c = (none, ()) ∧ st3 = st2) ?_ ?_ ⟨rfl, rfl, rfl⟩) ?_)
    ·rintro x c st3 - hx ⟨rfl, rfl, rfl⟩
     refine wpS_bind (wpS_get ?_)
     rw [q1, if_neg (by show ¬ 1 > 1; omega)]
     exact wpS_pure ⟨rfl, rfl⟩
    ·rintro c st3 ⟨hx, -⟩
     omega
    ·rintro c st3 ⟨rfl, rfl⟩
     dsimp only
     refine wpS_bind (wpS_modify (wpS_bind (wpS_modify (wpS_pure (.inr (.inr ⟨by omega, by rw [show n + (a₀.size - n) = a₀.size by omega], ?_⟩))))))
     have q3 := q2 (power' a₀.size (2 * 0 + n) (2 * 0 + n + n + (a₀.size - n)) a₀.size)
     have e3 : (pendingOf st3).modify ((pendingOf st3).size - 1) (fun x => (x.1, x.2.1, power' a₀.size (2 * 0 + n) (2 * 0 + n + n + (a₀.size - n)) a₀.size)) = #[(0, n, power' a₀.size (2 * 0 + n) (2 * 0 + n + n + (a₀.size - n)) a₀.size)] := by
      rw [q1]
      rfl
     rw [e3] at q3
     rw [e3]
     exact q3
   ·rw [if_neg ck]
    obtain rfl : k = a₀.size - n := by omega
    have q1 := (put st1 0 hR).1
    have q2 := fun w => (put st1 w hR).2
    refine wpS_bind (wpS_get ?_)
    rw [q1, show (#[(0, n, pw)] : Array (Nat × Nat × Nat)).back? = some (0, n, pw) from rfl]
    dsimp only
    refine wpS_bind (wpS_mono (wpS_forRange (I := fun x c st3 => x = 0 ∧ c = (none, ()) ∧ st3 = st1) (Q := fun c st3 => c = (none, ()) ∧ st3 = st1) ?_ ?_ ⟨rfl, rfl, rfl⟩) ?_)
    ·rintro x c st3 - hx ⟨rfl, rfl, rfl⟩
     refine wpS_bind (wpS_get ?_)
     rw [q1, if_neg (by show ¬ 1 > 1; omega)]
     exact wpS_pure ⟨rfl, rfl⟩
    ·rintro c st3 ⟨hx, -⟩
     omega
    ·rintro c st3 ⟨rfl, rfl⟩
     dsimp only
     refine wpS_bind (wpS_modify (wpS_bind (wpS_modify (wpS_pure (.inr (.inr ⟨by omega, by rw [show n + (a₀.size - n) = a₀.size by omega], ?_⟩))))))
     have q3 := q2 (power' a₀.size (2 * 0 + n) (2 * 0 + n + n + (a₀.size - n)) a₀.size)
     have e3 : (pendingOf st3).modify ((pendingOf st3).size - 1) (fun x => (x.1, x.2.1, power' a₀.size (2 * 0 + n) (2 * 0 + n + n + (a₀.size - n)) a₀.size)) = #[(0, n, power' a₀.size (2 * 0 + n) (2 * 0 + n + n + (a₀.size - n)) a₀.size)] := by
      rw [q1]
      rfl
     rw [e3] at q3
     rw [e3]
     exact q3
  ·dsimp only
   rw [if_pos (Nat.le_refl _)]
   exact wpS_pure ⟨rfl, .inr htwo⟩
 ·rintro c st' (⟨hx, _⟩ | ⟨hx, _⟩ | ⟨-, hc, htwo⟩)
  ·omega
  ·omega
  ·exact ⟨hc, .inr htwo⟩
 ·rintro c st' ⟨rfl, hor⟩
  dsimp only
  refine wpS_bind (wpS_mono (wpS_forRange (I := fun x c st1 => c = (none, ()) ∧ ((x = 0 ∧ st1 = st') ∨ (1 ≤ x ∧ (pendingOf st1).size ≤ 1 ∧ failedOf st1 = none ∧ (arrOf st1).Perm a₀ ∧ (arrOf st1).toList.Pairwise fun p q => cdK rk p < cdK rk q)))
   (Q := fun c st1 => c = (none, ()) ∧ failedOf st1 = none ∧ (arrOf st1).Perm a₀ ∧ (arrOf st1).toList.Pairwise fun p q => cdK rk p < cdK rk q) ?_ ?_ ⟨rfl, .inl ⟨rfl, rfl⟩⟩) ?_)
  ·rintro x c st1 - hx ⟨rfl, ⟨rfl, rfl⟩ | ⟨hx1, hz, hf, hpm, hpw⟩⟩
   ·refine wpS_bind (wpS_get ?_)
    rcases hor with ⟨o, i, pw, p⟩ | ⟨n1, n2, pw, p, a1, a2, a3, kd, fl, pm, i1, i2, rks⟩
    ·rw [p]
     rw [if_pos (by show 1 ≤ 1; omega)]
     refine wpS_pure ⟨rfl, o.fl, o.pm, ?_⟩
     have := z3m (rk := rk) (xs := arrOf st1) (lo := 0) (hi := a₀.size) (by rw [o.size]; exact Nat.le_refl _) i
     rwa [List.drop_zero, List.take_of_length_le (by rw [Array.length_toList, o.size]; exact Nat.le_refl _)] at this
    ·rw [p]
     rw [if_neg (by show ¬ 2 ≤ 1; omega)]
     have hs : n1 + n2 = (arrOf st1).size := by rw [pm.size_eq]; exact a3
     refine wpS_bind (z7i (rk := rk) (n1 := n1) (n2 := n2) (pw := pw) kd fl p a1 a2 hs (fun q hq => hO.ok q ((Array.perm_iff_toList_perm.mp pm).mem_iff.mp hq)) (fun i j b1 b2 => i1 i j (Nat.zero_le _) b1 b2) i2 rks fun st2 c1 c2 c3 c4 => ?_)
     rw [if_neg (by decide)]
     exact wpS_pure ⟨rfl, .inr ⟨by omega, by omega, c2, c3.trans pm, c4⟩⟩
   ·refine wpS_bind (wpS_get ?_)
    rw [if_pos hz]
    exact wpS_pure ⟨rfl, hf, hpm, hpw⟩
  ·rintro c st1 ⟨rfl, ⟨hx, -⟩ | ⟨-, -, hf, hpm, hpw⟩⟩
   ·omega
   ·exact ⟨rfl, hf, hpm, hpw⟩
  ·rintro c st1 ⟨rfl, hf, hpm, hpw⟩
   exact wpS_pure (h st1 hpm hf hpw)
end
end PyProof.Rows
end
section
namespace PyProof.Rows
open PySem
def StabLe (kf : Nat → Int) (a b : Nat) : Prop := kf a < kf b ∨ (kf a = kf b ∧ a < b)
theorem z5l {ks vs : List Value} {i : Nat} (h1 : i < ks.length) (h2 : i < vs.length) (h : i < (ks.toArray.zip vs.toArray).size) : (ks.toArray.zip vs.toArray)[i] = (ks[i], vs[i]) := by simp
theorem z9h {ks vs : List Value} {kf : Nat → Int} {rk : Keyed → Nat} (hl : ks.length = vs.length) (hk : ∀ i (h : i < ks.length), ∃ t, ks[i] = .int (kf i) t) (hrk : ∀ i (h : i < vs.length) (k : Value), rk (k, vs[i]) = i)
  {ar : Array Keyed} (hp : ar.Perm (ks.toArray.zip vs.toArray)) (hs : ar.toList.Pairwise fun p q => cdK rk p < cdK rk q) (hn : vs.length ≤ 1000) :
  ∃ p : List Nat, p.Perm (List.range vs.length) ∧ p.Pairwise (StabLe kf) ∧ ar.map (·.2) = (p.map fun i => vs.getD i Value.none).toArray := by
 have hl2 := Array.perm_iff_toList_perm.mp hp
 have hz : (ks.toArray.zip vs.toArray).toList.length = vs.length := by simp [hl]
 have at_ : ∀ q ∈ ar.toList, ∃ i, i < vs.length ∧ rk q = i ∧ numOf q.1 = kf i ∧ q.2 = vs.getD i Value.none := fun q hq => by
  obtain ⟨i, hi, e⟩ := List.getElem_of_mem (hl2.mem_iff.mp hq)
  rw [hz] at hi
  rw [Array.getElem_toList, z5l (by omega) hi] at e
  obtain ⟨t, ek⟩ := hk i (by omega)
  refine ⟨i, hi, by rw [← e]; exact hrk i hi _, by rw [← e, ek]; rfl, ?_⟩
  rw [← e, List.getD_eq_getElem?_getD, List.getElem?_eq_getElem hi]
  rfl
 refine ⟨ar.toList.map rk, ?_, ?_, ?_⟩
 ·refine (hl2.map rk).trans (List.Perm.of_eq ?_)
  apply List.ext_getElem
  ·rw [List.length_map, hz, List.length_range]
  ·intro i h1 h2
   rw [List.length_map, hz] at h1
   rw [List.getElem_map, Array.getElem_toList, z5l (by omega) h1, hrk i h1, List.getElem_range]
 ·rw [List.pairwise_map]
  refine hs.imp_of_mem fun {a b} ha hb h => ?_
  obtain ⟨i, i1, i2, i3, -⟩ := at_ a ha
  obtain ⟨j, j1, j2, j3, -⟩ := at_ b hb
  unfold cdK at h
  unfold StabLe
  rw [i2, j2, ← i3, ← j3]
  rw [i2, j2] at h
  omega
 ·have : ar.toList.map (·.2) = (ar.toList.map rk).map fun i => vs.getD i Value.none := by
   rw [List.map_map]
   refine List.map_congr_left fun q hq => ?_
   obtain ⟨i, i1, i2, -, i4⟩ := at_ q hq
   show q.2 = vs.getD (rk q) Value.none
   rw [i2]
   exact i4
  rw [← this, ← Array.toList_map]
section
variable {prog : Program} {w : World} {A : Around} {E : Value → Shared → Prop} {s : Shared}
theorem zaq {a kS : Addr} {st : SortSt} {keys : Array Value} {e e1 : Nat} {P : PySem.Fin → Shared → Prop} (nk : s.heap.get? kS = some (seqObj "list" keys e)) (na : s.heap.get? a = some (seqObj "list" #[] e1)) (ne : kS ≠ a) (z1 : keys.size ≤ sizeLine) (z2 : (arrOf st).size ≤ sizeLine) (hf : failedOf st = none)
  (h : ∀ h' c, (∀ b o, b ≠ kS → b ≠ a → s.heap.get? b = some o → h'.get? b = some o) → h'.get? a = some (seqObj "list" ((arrOf st).map (·.2)) c) → P (.done (.ret .none)) { s with heap := h' }) : wpAny (model prog w) A (ksk_tail a false e1 (.ref kS) st) P E s := by
 have c1 := Heap.SameBut.update s.heap kS (Obj.mapSeq fun _ => (#[] : Array Value))
 have g1 := (c1.2 a ne.symm).trans na
 unfold ksk_tail
 refine wpAny_bind (listUpdate_at nk rfl ?_ z1 (Nat.zero_le _))
 refine wpAny_bind (wpAny_letGo (wpAny_bind (seqEpoch_at g1 rfl ?_)))
 have z3 : ((arrOf st).map (·.2)).size ≤ sizeLine + 1 := by rw [Array.size_map]; exact Nat.le_succ_of_le z2
 refine wpAny_bind (listUpdate_at g1 rfl ?_ (Nat.zero_le _) z3)
 rw [hf]
 simp only [bne_self_eq_false, Bool.false_eq_true, if_false]
 have c2 := Heap.SameBut.update (s.heap.update kS (Obj.mapSeq fun _ => (#[] : Array Value))) a (Obj.mapSeq fun _ => (arrOf st).map (·.2))
 refine wpAny_pure (h _ _ (fun b o n1 n2 q => ?_) (get?_update_seq g1 fun _ => (arrOf st).map (·.2)))
 rw [c2.2 b n2, c1.2 b n1]
 exact q
theorem zbp {a kS : Addr} {ks vs : List Value} {kf : Nat → Int} {rk : Keyed → Nat} {e e1 : Nat} {P : PySem.Fin → Shared → Prop} (hl : ks.length = vs.length) (h2 : 2 ≤ vs.length) (h128 : vs.length < 128) (hk : ∀ i (h : i < ks.length), ∃ t, ks[i] = .int (kf i) t) (hrk : ∀ i (h : i < vs.length) (k : Value), rk (k, vs[i]) = i)
  (nk : s.heap.get? kS = some (seqObj "list" ks.toArray e)) (na : s.heap.get? a = some (seqObj "list" #[] e1)) (ne : kS ≠ a)
  (h : ∀ (h' : Heap) (c : Nat) (p : List Nat), p.Perm (List.range vs.length) → p.Pairwise (StabLe kf) → (∀ b o, b ≠ kS → b ≠ a → s.heap.get? b = some o → h'.get? b = some o) → h'.get? a = some (seqObj "list" (p.map fun i => vs.getD i Value.none).toArray c) → P (.done (.ret .none)) { s with heap := h' }) : wpAny (model prog w) A (ksk_end a false vs.toArray e1 (.ref kS) ks.toArray) P E s := by
 have hz : (ks.toArray.zip vs.toArray).size = vs.length := by simp [hl]
 have hI : IntsAre ks.toArray.toList (ks.map numOf) := by
  rw [List.toList_toArray]
  refine intsAre_map ks fun v hv => ?_
  obtain ⟨i, hi, rfl⟩ := List.getElem_of_mem hv
  obtain ⟨t, e⟩ := hk i hi
  exact ⟨_, t, e⟩
 unfold ksk_end
 simp only [Bool.false_eq_true, if_false]
 rw [if_neg (by simp; omega), if_neg (by simp; omega)]
 rw [ksk_kind hI (by simp; omega)]
 refine wpAny_bind (wpAny_pure ?_)
 have oks : ∀ p ∈ (ks.toArray.zip vs.toArray).toList, OkK rk p := fun p hp => by
  obtain ⟨i, hi, rfl⟩ := List.getElem_of_mem hp
  rw [Array.length_toList, hz] at hi
  rw [Array.getElem_toList, z5l (by omega) hi]
  obtain ⟨t, ek⟩ := hk i (by omega)
  refine ⟨⟨_, t, ek⟩, ?_⟩
  rw [hrk i hi]
  omega
 refine wpAny_bind (wpAny_mono (z4w (rk := rk) (a₀ := ks.toArray.zip vs.toArray) (st := SortSt.mk' oneType' (ks.toArray.zip vs.toArray) #[] 7 none) (Q := fun _ st' => (arrOf st').Perm (ks.toArray.zip vs.toArray) ∧ failedOf st' = none ∧ (arrOf st').toList.Pairwise fun p q => cdK rk p < cdK rk q)
  ⟨rfl, rfl, Array.Perm.refl _, oks, fun i a1 a2 => by omega, fun i _ hi => ?_⟩ rfl (by rw [hz]; exact h2) (by rw [hz]; exact h128) fun st' a1 a2 a3 => ⟨a1, a2, a3⟩) ?_ fun _ _ z => z)
 ·show rkA rk (ks.toArray.zip vs.toArray) i = i
  rw [hz] at hi
  rw [z2a (by rw [hz]; exact hi), z5l (by omega) hi]
  exact hrk i hi _
 rintro ⟨⟨⟩, st'⟩ s' ⟨rfl, hp, hf, hs⟩
 obtain ⟨p, p1, p2, p3⟩ := z9h hl hk hrk hp hs (by omega)
 have sz : (arrOf st').size = vs.length := by rw [hp.size_eq]; exact hz
 have hb : 128 ≤ sizeLine := by decide
 refine zaq nk na ne (by simp; omega) (by show (arrOf st').size ≤ sizeLine; omega) hf fun h' c k g => h h' c p p1 p2 k ?_
 rw [g, p3]
def z5x (prog : Program) (w : World) (A : Around) (s0 : Shared) (f : Value) (vs : List Value) (kf : Nat → Int) : Prop :=
 ∀ (n : Nat) (v : Value), vs[n]? = some v → ∀ (h : Heap) (tk : Nat), (∀ b o, s0.heap.get? b = some o → h.get? b = some o) →
  wpAny (model prog w) A (call f [v]) (fun k s' => ∃ h' tk' t, k = .int (kf n) t ∧ s' = { s0 with heap := h', toks := tk' } ∧ ∀ b o, h.get? b = some o → h'.get? b = some o) (fun _ _ => False) { s0 with heap := h, toks := tk }
theorem zar {s0 : Shared} {a kS : Addr} {f : Value} {vs : List Value} {kf : Nat → Int} {rk : Keyed → Nat} {e1 : Nat} {P : PySem.Fin → Shared → Prop} (h2 : 2 ≤ vs.length) (h128 : vs.length < 128) (hrk : ∀ i (h : i < vs.length) (k : Value), rk (k, vs[i]) = i)
  (tn : z5x prog w A s0 f vs kf) (h0 : Heap) (k0 : ∀ b o, s0.heap.get? b = some o → h0.get? b = some o) (nk : h0.get? kS = some (seqObj "list" #[] 0)) (na : h0.get? a = some (seqObj "list" #[] e1)) (ne : kS ≠ a) (nk0 : s0.heap.get? kS = none) (na0 : s0.heap.get? a = none)
  (h : ∀ (h' : Heap) (tk c : Nat) (p : List Nat), p.Perm (List.range vs.length) → p.Pairwise (StabLe kf) → (∀ b o, s0.heap.get? b = some o → h'.get? b = some o) → h'.get? a = some (seqObj "list" (p.map fun i => vs.getD i Value.none).toArray c) → P (.done (.ret .none)) { s0 with heap := h', toks := tk }) :
  wpAny (model prog w) A (ksk_rest a f false vs.toArray e1 (.ref kS)) P E { s0 with heap := h0 } := by
 have hb : 128 ≤ sizeLine := by decide
 unfold ksk_rest
 refine wpAny_bind (wpAny_rule ?_)
 rw [List.forIn_toArray]
 refine wpAny_bind (ksk_fold (fun i s' => ∃ (h1 : Heap) (tk e : Nat) (ks : List Value), s' = { s0 with heap := h1, toks := tk } ∧ (∀ b o, s0.heap.get? b = some o → h1.get? b = some o) ∧ h1.get? kS = some (seqObj "list" ks.toArray e) ∧ h1.get? a = some (seqObj "list" #[] e1) ∧ ks.length = i ∧ ∀ j (hj : j < ks.length), ∃ t, ks[j] = .int (kf j) t) vs 0 _
  ⟨h0, s0.toks, 0, [], rfl, k0, nk, na, rfl, fun j hj => by cases hj⟩ ?_ ?_)
 ·rintro j x s' hx ⟨h1, tk, e, ks, rfl, k1, gk, ga, hl, hk⟩
  rw [Nat.zero_add] at hl ⊢
  have hj : j < vs.length := (List.getElem?_eq_some_iff.mp hx).1
  refine wpAny_bind (wpAny_attempt (wpAny_mono (tn j x hx h1 tk k1) (fun v s'' hq => ?_) fun _ _ z => z.elim))
  obtain ⟨h3, tk3, t, rfl, rfl, k3⟩ := hq
  have gk3 := k3 _ _ gk
  have c1 := Heap.SameBut.update h3 kS (Obj.mapSeq (·.push (.int (kf j) t)))
  obtain ⟨e5, g5⟩ : ∃ e5, (h3.update kS (Obj.mapSeq (·.push (.int (kf j) t)))).get? kS = some (seqObj "list" (ks.toArray.push (Value.int (kf j) t)) e5) := ⟨_, get?_update_seq gk3 (·.push (.int (kf j) t))⟩
  rw [List.push_toArray] at g5
  have z1 : ks.toArray.size ≤ sizeLine := by simp; omega
  refine wpAny_bind (listUpdate_at gk3 rfl ?_ z1 (by rw [Array.size_push]; exact Nat.succ_le_succ z1))
  refine wpAny_pure ⟨rfl, _, _, e5, ks ++ [.int (kf j) t], rfl, fun b o q => ?_, g5, ?_, by rw [List.length_append, hl]; rfl, fun i hi => ?_⟩
  ·rw [c1.2 b (fun z => by rw [z, nk0] at q; cases q)]
   exact k3 _ _ (k1 _ _ q)
  ·rw [c1.2 a ne.symm]
   exact k3 _ _ ga
  ·rw [List.length_append] at hi
   rcases Nat.lt_or_ge i ks.length with z | z
   ·rw [List.getElem_append_left z]
    exact hk i z
   ·obtain rfl : i = ks.length := by have : i < ks.length + 1 := hi; omega
    rw [List.getElem_append_right (Nat.le_refl _)]
    exact ⟨t, by simp [hl]⟩
 ·rintro s' ⟨h1, tk, e, ks, rfl, k1, gk, ga, hl, hk⟩
  rw [Nat.zero_add] at hl
  refine wpAny_bind (listItems_at gk rfl ?_)
  refine zbp (s := { s0 with heap := h1, toks := tk }) hl h2 h128 hk hrk gk ga ne fun h' c p p1 p2 k g => h h' tk c p p1 p2 (fun b o q => ?_) g
  exact k b o (fun z => by rw [z, nk0] at q; cases q) (fun z => by rw [z, na0] at q; cases q) (k1 _ _ q)
theorem zas {s0 : Shared} {a : Addr} {f : Value} {vs : List Value} {kf : Nat → Int} {rk : Keyed → Nat} {n : Nat} {P : PySem.Fin → Shared → Prop} (h2 : 2 ≤ vs.length) (h128 : vs.length < 128) (hrk : ∀ i (h : i < vs.length) (k : Value), rk (k, vs[i]) = i)
  (tn : z5x prog w A s0 f vs kf) (h0 : Heap) (k0 : ∀ b o, s0.heap.get? b = some o → h0.get? b = some o) (ho : h0.get? a = some (seqObj "list" vs.toArray n)) (na0 : s0.heap.get? a = none)
  (h : ∀ (h' : Heap) (tk c : Nat) (p : List Nat), p.Perm (List.range vs.length) → p.Pairwise (StabLe kf) → (∀ b o, s0.heap.get? b = some o → h'.get? b = some o) → h'.get? a = some (seqObj "list" (p.map fun i => vs.getD i Value.none).toArray c) → P (.done (.ret .none)) { s0 with heap := h', toks := tk }) :
  wpAny (model prog w) A (ksk_tree a f false) P E { s0 with heap := h0 } := by
 have hb : 128 ≤ sizeLine := by decide
 have c1 := Heap.SameBut.update h0 a (Obj.mapSeq fun _ => (#[] : Array Value))
 obtain ⟨e1, g1⟩ : ∃ e1, (h0.update a (Obj.mapSeq fun _ => (#[] : Array Value))).get? a = some (seqObj "list" #[] e1) := ⟨_, get?_update_seq ho fun _ => #[]⟩
 have z1 : vs.toArray.size ≤ sizeLine := by simp; omega
 have z2 : vs.length ≤ sizeLine := by omega
 unfold ksk_tree
 refine wpAny_bind (listItems_at ho rfl ?_)
 refine wpAny_bind (listUpdate_at ho rfl ?_ z1 (Nat.zero_le _))
 refine wpAny_bind (seqEpoch_at g1 rfl ?_)
 refine wpAny_bind (wpAny_newTuple ?_ z2)
 refine wpAny_bind (wpAny_newList ?_ (Nat.zero_le _))
 have kp : ∀ b o, s0.heap.get? b = some o → (h0.update a (Obj.mapSeq fun _ => (#[] : Array Value))).get? b = some o := fun b o q => by
  rw [c1.2 b (fun z => by rw [z, na0] at q; cases q)]
  exact k0 _ _ q
 refine wpAny_holding (zar (s0 := s0) h2 h128 hrk tn _ (fun b o q => Heap.get?_push_of_some _ (Heap.get?_push_of_some _ (kp b o q))) (Heap.get?_push_size _ rfl) (Heap.get?_push_of_some _ (Heap.get?_push_of_some _ g1)) (fun z => ?_) ?_ na0 h)
 ·exact absurd z (Nat.ne_of_gt (Heap.lt_size (Heap.get?_push_of_some _ g1)))
 ·cases q : s0.heap.get? _ with
  | none => rfl
  | some o => exact absurd (Heap.lt_size (Heap.get?_push_of_some _ (kp _ o q))) (Nat.lt_irrefl _)
theorem z9i {l : Addr} {f : Value} {kw : List (Str × Value)} {vs : List Value} {kf : Nat → Int} {rk : Keyed → Nat} {Q : Value → Shared → Prop} (hl : s.heap.IsList l vs.toArray) (h2 : 2 ≤ vs.length) (h128 : vs.length < 128) (hrk : ∀ i (h : i < vs.length) (k : Value), rk (k, vs[i]) = i)
  (ha1 : argsOk "sorted" ⟨[.ref l], kw⟩) (ha2 : ∀ x, argsOk "list.sort" ⟨[.ref x], kw⟩) (ht : ∀ x, Builtin.«list.sort» ⟨[.ref x], kw⟩ = ksk_tree x f false) (tn : z5x prog w A.in1.in1 s f vs kf)
  (h : ∀ (D : Addr) (h' : Heap) (tk c : Nat) (p : List Nat), p.Perm (List.range vs.length) → p.Pairwise (StabLe kf) → (∀ b o, s.heap.get? b = some o → h'.get? b = some o) → s.heap.get? D = none → h'.get? D = some (seqObj "list" (p.map fun i => vs.getD i Value.none).toArray c) → Q (.ref D) { s with heap := h', toks := tk }) :
  wpAny (model prog w) A (call (.builtin "sorted") [.ref l] kw) Q E s := by
 have hb : 128 ≤ sizeLine := by decide
 have z2 : vs.length ≤ sizeLine := by omega
 refine call_function_entry_kw kind_sorted plain_sorted entry_sorted ha1 ?_
 unfold Builtin.«sorted»
 refine wpAny_bind (m := checkCount "sorted" 1 1 _) (wpAny_pure ?_)
 refine wpAny_bind (collect_list hl ?_ z2)
 refine wpAny_bind (wpAny_newList ?_ z2)
 have c1 := Heap.SameBut.update (s.heap.push (seqObj "list" #[] 0)) s.heap.objs.size (Obj.mapSeq (· ++ vs.toArray))
 have k1 : ∀ b o, s.heap.get? b = some o → ((s.heap.push (seqObj "list" #[] 0)).update s.heap.objs.size (Obj.mapSeq (· ++ vs.toArray))).get? b = some o := fun b o q => by
  rw [c1.2 b (Nat.ne_of_lt (Heap.lt_size q))]
  exact Heap.get?_push_of_some _ q
 show wpAny _ _ _ _ _ { s with heap := ((s.heap.push (seqObj "list" #[] 0)).update s.heap.objs.size (Obj.mapSeq (· ++ vs.toArray))).push (seqObj "list" vs.toArray 0) }
 generalize (s.heap.push (seqObj "list" #[] 0)).update s.heap.objs.size (Obj.mapSeq (· ++ vs.toArray)) = h1 at k1 ⊢
 have hD := Heap.get?_push_size (h := h1) (o := seqObj "list" vs.toArray 0) rfl
 have na0 : s.heap.get? h1.objs.size = none := by
  cases q : s.heap.get? h1.objs.size with
  | none => rfl
  | some o => exact absurd (Heap.lt_size (k1 _ o q)) (Nat.lt_irrefl _)
 refine wpAny_bind (wpAny_holding (wpAny_call_entry_kw slot_list_sort ⟨_, hD, rfl⟩ entry_list_sort ?_ (ha2 _)))
 show wpAny (model prog w) A.in1.in1 (Builtin.«list.sort» ⟨[.ref h1.objs.size], kw⟩) _ _ _
 rw [ht]
 exact zas (s0 := s) h2 h128 hrk tn _ (fun b o q => Heap.get?_push_of_some _ (k1 b o q)) hD na0 fun h' tk c p p1 p2 k g => ⟨_, rfl, wpAny_pure ⟨_, rfl, h _ h' tk c p p1 p2 k na0 g⟩⟩
end
end PyProof.Rows
end
section
namespace PySem
open PySem.W PySem.Spec PyProof.Rows
section
variable {prog : Program} {w : World} {A : Around} {E : Value → Shared → Prop} {s : Shared}
def zcd (s : Shared) (s' : Shared) : Prop := ∃ h' tk, s' = { s with heap := h', toks := tk } ∧ ∀ b o, s.heap.get? b = some o → h'.get? b = some o
theorem zat {n qual x : Str} {params : Arguments} {body : Expr} {scope : Scope} {pm ctv v : Value} {c' f : Addr} {cl : List (Str × Addr)} {Q : Value → Shared → Prop} (hroom : A.depth < recursionLimit)
  (ho : s.heap.get? f = some (kla_obj n qual params body scope cl pm c' ctv)) (hcd : s.heap.CodeRec (.ref c') qual) (hlim : s.heap.NoLimit)
  (hb : bindArgs (kla_fn n qual params body scope cl pm (.ref c') ctv) ⟨[v], []⟩ = pure [(x, v)])
  (hco : scope.isCoroutine = false) (hgen : scope.isGenerator = false) (hk : scope.kind = .function) (hcell : ∀ y ∈ scope.names, y.2 ≠ .cell) (hloc : scope.names.lookup x = some .local)
  (h : ∀ h₁, h₁.Ns s.heap.objs.size (fun y => [(x, v)].reverse.lookup y) → (∀ b o, s.heap.get? b = some o → h₁.get? b = some o) →
   wpAny (model prog w) (A.deeper (newEnv scope s.heap.objs.size mainGlobals cl (qual ++ ".<locals>.") (some f) (.ref c') none builtinsNs)) (eval body (newEnv scope s.heap.objs.size mainGlobals cl (qual ++ ".<locals>.") (some f) (.ref c') none builtinsNs)) Q (fun _ _ => False) { s with heap := h₁, toks := s.toks + 1 }) :
  wpAny (model prog w) A (call (.ref f) [v]) Q E s := by
 refine wpAny_call (kla_callFunE hroom ho rfl hco hgen rfl hcd ?_)
 rw [hb]
 refine wpAny_pure (wpAny_newFunctionEnv hcell (fun y hy => ?_) (fun h₁ hns hsb => ⟨hlim.fresh _ hsb, ?_⟩) hk)
 ·rw [List.mem_singleton.mp hy]; exact hloc
 ·have hk₁ : ∀ b o, s.heap.get? b = some o → h₁.get? b = some o := fun b o e => hsb.extBut b o (Nat.ne_of_lt (Heap.lt_size e)) (Heap.get?_push_of_some _ e)
  exact kla_codeExpr (wpAny_mono (h h₁ hns hk₁) (fun v s' hq => hq) fun _ _ z => z.elim)
end
end PySem
namespace L2
open PySem PySem.W PySem.Spec PyProof.Rows
def z6v (c' : Addr) (qual : Str) : HO := .ext fun h => h.CodeRec (.ref c') qual
theorem zau {P : Program} {w : World} {H : Hp} {h : Heap} {c' : Addr} {qual : Str} (C : h.CodeRec (.ref c') qual) : ObjOk P w H h c' (z6v c' qual) := by
 refine ⟨C, ?_, fun h1 h2 x k => ?_⟩
 ·obtain ⟨c, o, vs, t, e, g, _⟩ := C
  cases e
  exact ⟨o, g⟩
 ·obtain ⟨c, o, vs, t, e, g, r⟩ := x
  cases e
  exact ⟨_, o, vs, t, rfl, k o g, r⟩
def TbOk (H : Hp) (Pt : Addr) (pos : Pos) (qual : Str) : Prop := H Pt = some (.tbl #[]) ∨ ∃ c', H Pt = some (.tbl #[rawInt pos.line, rawInt pos.col, .ref c']) ∧ H c' = some (z6v c' qual)
theorem TbOk.some {H : Hp} {Pt : Addr} {pos : Pos} {qual : Str} (h : TbOk H Pt pos qual) : ∃ ps, H Pt = some (.tbl ps) := by
 rcases h with h | ⟨c', h, _⟩
 ·exact ⟨_, h⟩
 ·exact ⟨_, h⟩
theorem TbOk.mono {H H' : Hp} {Pt : Addr} {pos : Pos} {qual : Str} (h : TbOk H Pt pos qual) (s : Same H H') : TbOk H' Pt pos qual := by
 rcases h with h | ⟨c', h, h2⟩
 ·exact .inl (s _ _ h)
 ·exact .inr ⟨c', s _ _ h, s _ _ h2⟩
theorem zav (pos : Pos) (c' : Addr) : codeAmong pos (#[rawInt pos.line, rawInt pos.col, .ref c'] : Array Value).toList = some (.ref c') := by
 simp [codeAmong, rawInt]
section
variable {X : Cx} {pins : List (Addr × Obj)} {σ : St} {H : Hp} {s : Shared} {c Pt : Addr} {pos : Pos} {params : Arguments} {body : Expr} {scope : Scope}
theorem zaw {cl : List (Str × Addr)} {Q : Value → Shared → Prop} (I : Inv X pins σ H s) (hcode : X.env.code = .ref c) (hC : codeHdIn X.K c Pt = true) (BA : X.base.BuiltinsAt X.mg Pt) (hT : TbOk H Pt pos (X.env.qual ++ "<lambda>"))
  (hdef : defaultsOf params X.env = ([], [])) (hcl : closureFor scope X.env = pure cl)
  (h : ∀ (f c' : Addr) (ctv pm : Value) (H' : Hp) (s' : Shared), Inv X pins σ H' s' → s'.heap.get? f = some (kla_obj "<lambda>" (X.env.qual ++ "<lambda>") params body scope cl pm c' ctv) → s'.heap.CodeRec (.ref c') (X.env.qual ++ "<lambda>") →
   TbOk H' Pt pos (X.env.qual ++ "<lambda>") → (∀ b o, H b = some o → b ≠ Pt → H' b = some o) → H' f = none → Q (.ref f) s') :
  wpAny (model X.prog X.w) X.A (eval (.Lambda params body scope pos) X.env) Q X.xe s := by
 refine kla_eval hdef ?_
 have hg : s.heap.Ns mainGlobals X.mg := by
  obtain ⟨o, es, ep, e, r⟩ := I.mod.glob
  exact ⟨o, es, ep, I.bk _ _ e, r⟩
 have CH := codeHd_of_K I.kIn hC
 have hb : s.heap.BuiltinsAt X.mg Pt := by
  obtain ⟨bm, o, b1, b2, b3, b4, b5, b6⟩ := BA
  exact ⟨bm, o, b1, b2, b3, b4, I.bk _ _ b5, b6⟩
 have hgP : mainGlobals ≠ Pt := fun z => by
  obtain ⟨o, es, ep, e, r⟩ := I.mod.glob
  have := (I.bs _ _ e).2
  obtain ⟨ps, hp⟩ := hT.some
  rw [z, hp] at this
  cases this
 rcases hT with hT | ⟨c', hT, hc'⟩
 ·have hP : s.heap.get? Pt = some (tabObj #[]) := I.hok Pt _ hT
  refine kla_makeFunction hcl I.ok.glob hg hcode CH hP trivial rfl hgP hb fun c' ctv h' tk hx hge hlt hrec htb => ?_
  have hc0 : H c' = none := I.hok.fresh hge
  have ncP : c' ≠ Pt := fun z => by rw [z, hT] at hc0; cases hc0
  have hf0 : H h'.objs.size = none := I.hok.fresh (Nat.le_trans hge (Nat.le_of_lt hlt))
  have kp : ∀ (ob : Obj) (b : Addr) (o : Obj), b ≠ Pt → s.heap.get? b = some o → (h'.push ob).get? b = some o := fun ob b o nb e => Heap.get?_push_of_some _ (hx b o nb e)
  have htb' : h'.get? Pt = some (tabObj #[rawInt pos.line, rawInt pos.col, .ref c']) := by simpa using htb
  refine h h'.objs.size c' ctv _ (upd (upd H c' (z6v c' (X.env.qual ++ "<lambda>"))) Pt (.tbl #[rawInt pos.line, rawInt pos.col, .ref c'])) _ (I.un (t' := tk) ⟨fun b o e n _ _ => ?_, fun b o e n _ _ => ⟨o.slots, ?_⟩, fun b o e n _ => ?_, fun b o e _ => ?_, fun b xs e => ?_, fun b o u e => ?_, fun b ps e => ?_⟩ ?_) (Heap.get?_push_size _ rfl) (hrec.keeps fun b o e => Heap.get?_push_of_some _ e) (.inr ⟨c', za, ?_⟩) (fun b o e nb => ?_) ?_
  ·exact kp _ b o (fun z => by rw [z, hT] at n; cases n) e
  ·exact kp _ b o (fun z => by rw [z, hT] at n; cases n) e
  ·rw [zc (fun z => by rw [z, hT] at n; cases n), zc (Nat.ne_of_lt (Nat.lt_of_lt_of_le (Heap.lt_size e) hge))]
   exact n
  ·by_cases z : b = Pt
   ·rw [z]; exact ⟨_, Heap.get?_push_of_some _ htb'⟩
   ·exact ⟨o, kp _ b o z e⟩
  ·rw [zc (fun z => by rw [z, hT] at e; cases e), zc (zf e hc0)]; exact e
  ·rw [zc (fun z => by rw [z, hT] at e; cases e), zc (zf e hc0)]; exact e
  ·by_cases z : b = Pt
   ·subst z
    rw [hT] at e
    cases e
    exact ⟨#[rawInt pos.line, rawInt pos.col, .ref c'], by rw [za]; simp⟩
   ·exact ⟨#[], by rw [zc z, zc (zf e hc0), e]; simp⟩
  ·intro b u e
   by_cases z : b = Pt
   ·subst z
    rw [za] at e
    cases e
    exact Heap.get?_push_of_some _ htb'
   ·rw [zc z] at e
    by_cases z2 : b = c'
    ·subst z2
     rw [za] at e
     cases e
     exact zau (hrec.keeps fun b o e => Heap.get?_push_of_some _ e)
    ·rw [zc z2] at e
     refine (I.hok b u e).stay (fun d v hd q => kp _ d v ?_ q) (fun d q => ?_) fun d xs q => ?_
     ·rintro rfl
      rcases hd with hd | hd
      ·exact z hd.symm
      ·rw [hT] at hd; cases hd
     ·rw [zc (fun y => by rw [y, hT] at q; cases q), zc (zf q hc0)]; exact q
     ·rw [zc (fun y => by rw [y, hT] at q; cases q), zc (zf q hc0)]; exact q
  ·rw [zc ncP, za]
  ·rw [zc nb, zc (zf e hc0)]; exact e
  ·rw [zc (fun z => by rw [z, hT] at hf0; cases hf0), zc (Nat.ne_of_gt hlt)]; exact hf0
 ·have hP : s.heap.get? Pt = some (tabObj #[rawInt pos.line, rawInt pos.col, .ref c']) := I.hok Pt _ hT
  obtain ⟨C, -, -⟩ := (show ObjOk X.prog X.w H s.heap c' (z6v c' (X.env.qual ++ "<lambda>")) from I.hok c' _ hc')
  refine kla_makeFunctionHit hcl I.ok.glob hg hcode CH hP trivial (zav pos c') hb fun ctv h' tk hk hsz => ?_
  have k2 : ∀ (ob : Obj) (b : Addr) (o : Obj), s.heap.get? b = some o → (h'.push ob).get? b = some o := fun ob b o e => Heap.get?_push_of_some _ (hk b o e)
  exact h h'.objs.size c' ctv _ H _ (I.kept (t' := tk) (k2 _)) (Heap.get?_push_size _ rfl) (C.keeps (k2 _)) (.inr ⟨c', hT, hc'⟩) (fun b o e _ => e) (I.hok.fresh hsz)
end
end L2
end
section
namespace PySem
open PySem.W PySem.Spec PyProof.Rows
structure LamX (x : Str) (params : Arguments) (scope : Scope) : Prop where
 bind : ∀ (qual : Str) (body : Expr) (pm cdv ctv v : Value), bindArgs (kla_fn "<lambda>" qual params body scope [] pm cdv ctv) ⟨[v], []⟩ = pure [(x, v)]
 co : scope.isCoroutine = false
 gen : scope.isGenerator = false
 kind : scope.kind = .function
 cell : ∀ y ∈ scope.names, y.2 ≠ .cell
 loc : scope.names.lookup x = some .local
 db : (x == ("__debug__" : Str)) = false
section
variable {prog : Program} {w : World} {A : Around} {E : Value → Shared → Prop} {s : Shared}
theorem zax {qual x : Str} {params : Arguments} {scope : Scope} {pm ctv u : Value} {c' f a : Addr} {i : Nat} {k : Nat} {p1 p2 p3 : Pos} {its : Array Value} (L : LamX x params scope) (hroom : A.depth < recursionLimit)
  (ho : s.heap.get? f = some (kla_obj "<lambda>" qual params (.Subscript (.Name x p1) (.Constant (.int (i : Int)) k p2) p3) scope [] pm c' ctv)) (hcd : s.heap.CodeRec (.ref c') qual) (hlim : s.heap.NoLimit)
  (ht : IsTup s.heap a its) (hi : its[i]? = some u) (hz : its.size < 2 ^ 62) :
  wpAny (model prog w) A (call (.ref f) [.ref a]) (fun v s' => v = u ∧ zcd s s') E s := by
 have hil : i < its.size := (Array.getElem?_eq_some_iff.mp hi).1
 refine zat hroom ho hcd hlim (L.bind _ _ _ _ _ _) L.co L.gen L.kind L.cell L.loc fun h₁ hns hk => ?_
 have hm : (fun y => [(x, (Value.ref a))].reverse.lookup y) x = some (.ref a) := by simp
 have htup : IsTup h₁ a its := by
  obtain ⟨o, e, r⟩ := ht
  exact ⟨o, hk _ _ e, r⟩
 refine Subscript_ (wpAny_Name (wpAny_loadName_local L.kind L.loc hns hm (wpAny_Constant_int ?_)) L.db)
 refine subscriptTail_builtinR (x := u) (s := { s with heap := h₁, toks := s.toks + 1 + 1 }) (show Shared.TypeIs _ _ _ from htup.typeIs) slot_tuple_getitem.lookup (getItem_tuple (j := i) htup (by omega) (by omega) ?_ hi ⟨rfl, rfl, h₁, _, rfl, hk⟩)
 exact seqIndex_of (by omega) (by omega)
end
end PySem
namespace L2
open PySem PySem.W PySem.Spec PyProof.Rows
section
variable {X : Cx} {pins : List (Addr × Obj)} {σ : St} {H : Hp} {s : Shared}
theorem z7l {g h h' : Heap} {L : Addr} {m : Str → Option Value} {own : List (Addr × Obj)} (k : ∀ b o, g.get? b = some o → h.get? b = some o) (F : Fr g L h' m) (N : News g L h' (z2w g h L ++ own)) : ∀ b o, b ≠ L → h.get? b = some o → h'.get? b = some o := fun b o nb e => by
 cases q : g.get? b with
 | some u =>
  have := k b u q
  rw [e] at this; cases this
  exact F.keep b _ q
 | none => exact (N (b, o) (List.mem_append_left _ (z4q nb q e))).1
theorem Inv.walked {m : Str → Option Value} {h' : Heap} {t' : Nat} (I : Inv X pins σ H s) (hn : s.heap.Ns X.env.locals m) (hn' : h'.Ns X.env.locals m) (k : ∀ b o, b ≠ X.env.locals → s.heap.get? b = some o → h'.get? b = some o) : Inv X pins σ H { s with heap := h', toks := t' } := by
 have hf := I.free
 refine I.step (g' := s.gens) (d' := s.drawn) (ch := []) (fun _ z => nomatch z) (fun b o nb _ _ e _ => k b o nb e) (fun b o nb _ _ e _ => ⟨o.slots, k b o nb e⟩) (fun _ _ _ _ n => n) (fun b o _ e => ?_) (fun _ _ e => e) (fun _ _ _ e => e) (fun b ps e => ⟨#[], by rw [e]; simp⟩) (fun m' hm => ?_) (fun b u e => ?_) I.bare
 ·by_cases z : b = X.env.locals
  ·obtain ⟨o', es, ep, ho, _⟩ := hn'
   exact ⟨o', z ▸ ho⟩
  ·exact ⟨o, k b o z e⟩
 ·rw [hm.eq_nsMap, ← hn.eq_nsMap]
  exact hn'
 ·refine (I.hok b u e).stay (fun c v hc q => k c v ?_ q) (fun _ q => q) fun _ _ q => q
  rintro rfl
  rcases hc with hc | hc
  ·rw [← hc, hf] at e; cases e
  ·rw [hf] at hc; cases hc
def But1 (a : Addr) (H H' : Hp) : Prop := ∀ b o, H b = some o → b ≠ a → H' b = some o
end
end L2
end
section
namespace L2
open PySem PySem.Spec PyProof.Rows
structure OnlyT (ts : List Addr) (H : Hp) : Prop where
 all : ∀ b u, H b = some u → (b ∈ ts ∧ u = .tbl #[]) ∨ ∃ o xs, u = .frz o (.lst xs)
 tab : ∀ t ∈ ts, H t = some (.tbl #[])
def z45 (ts : List Addr) (a : Addr) (o : HO) : Hp := fun b => if b ∈ ts then some (.tbl #[]) else if b = a then some o else none
theorem zc6 {h h' : Heap} (k : ∀ b o, h.get? b = some o → h'.get? b = some o ∨ (isCodeTable h b ∧ o = PySem.W.tabObj #[] ∧ ∃ more, h'.get? b = some (PySem.W.tabObj more))) : OldK h h' := by
 refine ⟨fun b o e => ?_, fun b o e => ?_⟩
 ·rcases k b o e with z | ⟨z1, rfl, more, z2⟩
  ·exact .inl z
  ·exact .inr (.inl ⟨z1, rfl, #[], more, rfl, by rw [z2]; simp [PySem.W.tabObj]⟩)
 ·rcases k b o e with z | ⟨_, _, more, z⟩
  ·exact ⟨_, z⟩
  ·exact ⟨_, z⟩
section
variable {P : Program} {w : World} {K : PySem.W.Frag} {mg mb : Str → Option Value} {k : Nat} {fa a : Addr} {fd : FuncData} {x : Str} {sp : Sp} {s₁ : Shared} {vs : List Value} {ns : List Int} {ts : List Addr}
theorem lawT (KX : K.In s₁.heap) (gl : s₁.heap.Ns mainGlobals mg) (bl : s₁.heap.Ns builtinsNs mb) (bb : ∀ x : Str, x ≠ "__name__" → mb x = bootBuiltins x) (lim : s₁.heap.NoLimit) (gn : s₁.gens = #[])
  (sc : s₁.heap.get? a = some { cls := .type "list", data := .seq vs.toArray }) (hi : IntsAre vs ns) (hl : ns.length ≤ sizeLine) (hr : Room k callerA)
  (tabs : ∀ t ∈ ts, s₁.heap.get? t = some (PySem.W.tabObj #[])) (codes : ∀ t ∈ ts, ∃ c, PySem.W.codeHdIn K c t = true) (notK : ∀ t ∈ ts, K.lookup t = none)
  (bm : ∃ bm ob, mg "__builtins__" = some (.ref bm) ∧ bm ≠ builtinsNs ∧ s₁.heap.get? bm = some ob ∧ ob.cls = .type "module" ∧ ob.dict = some builtinsNs ∧ ob.data = .plain)
  (F : ∀ base : Heap, K.In base → base.Ns mainGlobals mg → (∀ t ∈ ts, base.BuiltinsAt mg t) → FnOk P w K mg base CX0 k fa fd [x] sp) (bind : ∀ (s : Shared) (u : Value), BindsTo s fd ⟨[u], []⟩ [(x, u)])
  (hsp : ∀ H : Hp, OnlyT ts H → SqL K H a (ns.map V.int) → sp [.ref a] H (fun v _ => v = .bl true) fun _ _ _ => False) :
  codeAny (model P w) callerA (.call (.ref fa) ⟨[.ref a], []⟩) (fun r s' => r = .ok (.ret (.bool true)) ∧ OldK s₁.heap s'.heap ∧ s'.os = s₁.os ∧ AllBare s'.gens) s₁ := by
 have rv := z68 hi
 have lv := hi.length
 have ant : a ∉ ts := fun z => by have := tabs a z; rw [sc] at this; cases this
 have main : ∀ H : Hp, OnlyT ts H → SqL K H a (ns.map V.int) → HOk P w H s₁.heap → (∀ b u, H b = some u → K.lookup b = none ∧ (b = a ∨ b ∈ ts)) →
   codeAny (model P w) callerA (.call (.ref fa) ⟨[.ref a], []⟩) (fun r s' => r = .ok (.ret (.bool true)) ∧ OldK s₁.heap s'.heap ∧ s'.os = s₁.os ∧ AllBare s'.gens) s₁ := by
  intro H only seq hok lone
  have untracked : ∀ {b : Addr} {o : Obj}, s₁.heap.get? b = some o → (∀ i n, o.data ≠ .seq i n) → (∀ i, o.data ≠ .fields i) → H b = none := fun {b o} e n1 n2 => by
   cases q : H b with
   | none => rfl
   | some u =>
    rcases (lone b u q).2 with z | z
    ·rw [z, sc] at e; cases e; exact (n1 _ _ rfl).elim
    ·have := tabs b z; rw [e] at this; cases this; exact (n2 _ rfl).elim
  have inB : ∀ {b : Addr} {o : Obj}, s₁.heap.get? b = some o → H b = none → (hidT s₁.heap H).get? b = some o := fun e n => zaf e n
  have nsB : ∀ {b : Addr} {m : Str → Option Value}, s₁.heap.Ns b m → (hidT s₁.heap H).Ns b m := fun {b m} ⟨o, es, ep, e, d, r⟩ =>
   ⟨o, es, ep, inB e (untracked e (fun i n z => by rw [d] at z; cases z) fun i z => by rw [d] at z; cases z), d, r⟩
  have kB : K.In (hidT s₁.heap H) := fun b o e => inB (KX b o e) (by
   cases q : H b with
   | none => rfl
   | some u => rw [(lone b u q).1] at e; cases e)
  have bB : ∀ t ∈ ts, (hidT s₁.heap H).BuiltinsAt mg t := fun t ht => by
   obtain ⟨m, ob, b1, b2, b3, b4, b5, b6⟩ := bm
   refine ⟨m, ob, b1, b2, fun z => ?_, fun z => ?_, inB b3 (untracked b3 (fun i n z => by rw [b6] at z; cases z) fun i z => by rw [b6] at z; cases z), b4, b5, b6⟩
   ·obtain ⟨o, es, ep, e, d, _⟩ := gl
    rw [← z, b3] at e; cases e; rw [b6] at d; cases d
   ·have := tabs t ht; rw [← z, b3] at this; cases this; cases b6
  have M : Mod K mg (hidT s₁.heap H) := ⟨kB, nsB gl, ⟨mb, nsB bl, bb⟩, let ⟨mc, h1, h2⟩ := lim; ⟨mc, nsB h1, h2⟩⟩
  have E : Env0 P w K mg (hidT s₁.heap H) callerA [] s₁ H := ⟨rfl, M, fun b o e => zbd e, Nat.le_of_eq (z9p _ _), trivial, (fun b hb => by cases hb), hok, .of_eq gn⟩
  refine codeAny_mono ((F _ kB (nsB gl) bB).run callerA [] s₁ H ⟨[.ref a], []⟩ [.ref a] [.ref a] _ _ hr E (bind s₁ (.ref a)) (.cons rfl .nil) (hsp H only seq)) fun r s' h => ?_
  cases r with
  | error e => exact False.elim h
  | ok fl =>
   cases fl with
   | next => exact False.elim h
   | brk => exact False.elim h
   | cont => exact False.elim h
   | ret u =>
    obtain ⟨v, H', os, bare, un, hok', r', q⟩ := h
    have q' : v = .bl true := q
    subst q'
    obtain rfl : u = Value.bool true := r'
    refine ⟨rfl, zc6 fun b o e => ?_, os, bare⟩
    cases q : H b with
    | none => exact .inl (un.keep b o e q (fun z => by cases z) (fun z => by cases z))
    | some u =>
     rcases only.all b u q with ⟨z, rfl⟩ | ⟨ob, xs, rfl⟩
     ·obtain ⟨more, h2⟩ := un.tbls b _ q
      have h3 : s'.heap.get? b = some (PySem.W.tabObj (#[] ++ more)) := hok' b _ h2
      have h4 := tabs b z
      rw [e] at h4
      obtain ⟨c, hc⟩ := codes b z
      obtain ⟨oc, vs', _, _, _, _, _, _, _, g1, g2, g3, g4, _⟩ := PySem.W.codeHd_of_K KX hc
      exact .inr ⟨⟨c, oc, vs', g1, g2, g3, g4⟩, Option.some.inj h4, _, h3⟩
     ·have h2 := un.frzs b ob _ q
      obtain ⟨e1, _⟩ := hok b _ q
      obtain ⟨e2, _⟩ := hok' b _ h2
      rw [e] at e1
      cases e1
      exact .inl e2
 by_cases hk : K.lookup a = none
 ·have sa : z45 ts a (HO.frz { cls := .type "list", data := .seq vs.toArray } (.lst (ns.map V.int))) a = some (.frz { cls := .type "list", data := .seq vs.toArray } (.lst (ns.map V.int))) := by
   unfold z45
   rw [if_neg ant, if_pos rfl]
  have cs : ∀ b u, z45 ts a (HO.frz { cls := .type "list", data := .seq vs.toArray } (.lst (ns.map V.int))) b = some u → (b ∈ ts ∧ u = .tbl #[]) ∨ (b = a ∧ u = .frz { cls := .type "list", data := .seq vs.toArray } (.lst (ns.map V.int))) := fun b u e => by
   unfold z45 at e
   split at e
   ·rename_i z; cases e; exact .inl ⟨z, rfl⟩
   ·split at e
    ·rename_i z; cases e; exact .inr ⟨z, rfl⟩
    ·cases e
  refine main (z45 ts a (HO.frz { cls := .type "list", data := .seq vs.toArray } (.lst (ns.map V.int)))) ⟨fun b u e => ?_, fun t ht => if_pos ht⟩ (.inl (.inr ⟨_, sa⟩)) (fun b u e => ?_) fun b u e => ?_
  ·rcases cs b u e with z | ⟨_, z⟩
   ·exact .inl z
   ·exact .inr ⟨_, _, z⟩
  ·rcases cs b u e with ⟨z, rfl⟩ | ⟨rfl, rfl⟩
   ·exact tabs b z
   ·exact ⟨sc, by rw [List.length_map]; exact hl, vs, _, rv, sc⟩
  ·rcases cs b u e with ⟨z, _⟩ | ⟨rfl, _⟩
   ·exact ⟨notK b z, .inr z⟩
   ·exact ⟨hk, .inl rfl⟩
 ·cases hk' : K.lookup a with
  | none => exact absurd hk' hk
  | some o =>
   have e := KX a o hk'
   rw [sc] at e
   cases e
   have cs : ∀ b u, (fun b => if b ∈ ts then some (HO.tbl #[]) else none : Hp) b = some u → b ∈ ts ∧ u = .tbl #[] := fun b u e => by
    dsimp only at e
    split at e
    ·rename_i z; cases e; exact ⟨z, rfl⟩
    ·cases e
   refine main _ ⟨fun b u e => .inl (cs b u e), fun t ht => if_pos ht⟩ (.inr ⟨_, vs.toArray, _, hk', rfl, rfl, rfl, by rw [List.size_toArray, lv]; exact hl, by simpa using rv⟩) (fun b u e => ?_) fun b u e => ?_
   ·obtain ⟨z, rfl⟩ := cs b u e
    exact tabs b z
   ·exact ⟨notK b (cs b u e).1, .inr (cs b u e).1⟩
end
end L2
end
section
namespace L2
open PySem PySem.Spec PyProof.Rows
def DefC (K : PySem.W.Frag) (mg : Str → Option Value) (x : Str) (st : Stmt) (ps : List Str) (c : Addr) : Prop :=
 ∃ (f : Addr) (oc : Value) (od : Option Addr) (kV doc pm : Value) (an : Option Addr) (ct : Value) (osl : Array (Option Value)), K.lookup f = some ⟨oc, od, .func (PySem.W.fnOf x x (z22 st) (z1d st) (zh st) .none kV doc pm an (.ref c) ct), osl⟩ ∧
  PySem.W.codeIn K (.ref c) x = true ∧ PySem.W.keepIn K (.ref f) = true ∧ mg x = some (.ref f) ∧ Binds K (PySem.W.fnOf x x (z22 st) (z1d st) (zh st) .none kV doc pm an (.ref c) ct) ps []
theorem DefC.ok {P : Program} {w : World} {K : PySem.W.Frag} {mg : Str → Option Value} {base : Heap} {x : Str} {st : Stmt} {N ps : List Str} {k : Nat} {sp : Sp} {c : Addr} (D : DefC K mg x st ps c) (S : FnScope N ps (zh st)) (len : ∀ vs H Q E, sp vs H Q E → vs.length = ps.length)
  (hbody : ∀ (f : Addr) (A : Around) (outer : List Env) (s : Shared) (H : Hp) (vs : List V) (Q : VK) (E : XK), Room k (A.deeper (envOfC x (zh st) s.heap.objs.size f (.ref c))) → sp vs H Q E →
   ∃ t, PSs (cxOf CX0 P w K mg base N x (zh st) f (.ref c) A outer s H E).nox (z1d st) t ∧ t { nx := fun _ H' => Q .non H', rt := Q } (start N vs) H) : Has P w K mg base (k + 1) x ps sp := by
 obtain ⟨f, oc, od, kV, doc, pm, an, ct, osl, lk, hcd, kp, hm, hb⟩ := D
 refine ⟨f, _, z90 lk hcd S len fun A outer s H vs Q E hr hsp => ?_, hm, kp, hb, oc, od, osl, lk⟩
 obtain ⟨t, h, q⟩ := hbody f A outer s H vs Q E hr hsp
 exact ⟨t, h.nox, q⟩
def z53 (vs : Array Value) : Bool := (match vs.getD 18 .none with | .str _ _ => true | _ => false) && (match vs.getD 7 .none with | .int _ _ => true | _ => false) &&
 (match vs.getD 9 .none with | .bool _ => true | _ => false) && (match vs.getD 10 .none with | .int _ _ => true | _ => false)
theorem za8 {K : PySem.W.Frag} {c t : Addr} {od : Option Addr} {vs : Array Value} {sl : Array (Option Value)} (e : K.lookup c = some ⟨.type "code", od, .fields vs, sl⟩) (h : vs[11]? = some (.ref t)) (r : z53 vs = true) (n : (c != t) = true) : PySem.W.codeHdIn K c t = true := by
 unfold z53 at r
 simp only [Bool.and_eq_true] at r
 unfold PySem.W.codeHdIn
 simp only [e, h]
 simp only [beq_self_eq_true, Bool.true_and, Bool.and_eq_true]
 exact ⟨⟨⟨⟨r.1.1.1, r.1.1.2⟩, r.1.2⟩, r.2⟩, n⟩
theorem walk_ofT {l : PySem.W.OpenLaw} {n k : Nat} {q : Program} {loose : List Str} {XP : (Str → Option Value) → Heap → Prop} {YP : World → Heap → Prop} {d : DefRec} {K : Params → PySem.W.Frag} {ts : List Addr} {sp : List Addr → PySem.W.Frag → Sp} {x : Str}
  (hn : l.most = some n) (hn2 : n ≤ sizeLine) (hdf : d.params.defaults = []) (hr : Room k callerA)
  (hY : ∀ (w : World) (h : Heap), YP w h → (K w.params).In h ∧ ∀ t ∈ ts, h.get? t = some (PySem.W.tabObj #[]))
  (F : ∀ (w : World) (mg : Str → Option Value) (fa : Addr) (h : Heap), (K w.params).In h → h.Ns mainGlobals mg → mg d.name = some (.ref fa) →
   (∀ t ∈ ts, (∃ c, PySem.W.codeHdIn (K w.params) c t = true) ∧ (K w.params).lookup t = none) ∧
   ∃ fd : FuncData, (∀ (s : Shared) (u : Value), BindsTo s fd ⟨[u], []⟩ [(x, u)]) ∧
    ∀ base : Heap, (K w.params).In base → base.Ns mainGlobals mg → (∀ t ∈ ts, base.BuiltinsAt mg t) → FnOk l.prog w (K w.params) mg base CX0 k fa fd [x] (sp ts (K w.params)))
  (hsp : ∀ (K : PySem.W.Frag) (H : Hp) (a : Addr) (ns : List Int), ns.length ≤ n → OnlyT ts H → SqL K H a (ns.map V.int) → sp ts K [.ref a] H (fun v _ => v = .bl true) fun _ _ _ => False) :
  PySem.W.WalkO q loose XP YP l.row.toRowW d [] (fun f vs => PySem.call f vs) := by
 refine Att.attach_call hn hdf fun w s₀ s₁ mg mb fa o pm cd doc a vs ns G Y ho hd hcd hmg hobj hints hlen hg => ?_
 obtain ⟨KX, TX⟩ := hY w _ Y
 obtain ⟨ht, fd, hb, hF⟩ := F w mg fa _ KX G.T.g hmg
 exact lawT KX G.T.g G.T.b G.T.builtins G.T.nolimit hg hobj hints (Nat.le_trans hlen hn2) hr TX (fun t h => (ht t h).1) (fun t h => (ht t h).2) G.T.bmain hF hb fun H hO hS => hsp (K w.params) H a ns hlen hO hS
end L2
end
section
namespace L2
open PySem PySem.W PySem.Spec PyProof.Rows
theorem ObjOk.there {P : Program} {w : World} {H : Hp} {h : Heap} {a : Addr} {o : HO} (x : ObjOk P w H h a o) : ∃ u, h.get? a = some u := by
 cases o with
 | lst xs => obtain ⟨_, _, _, _, e⟩ := x; exact ⟨_, e⟩
 | tup xs => obtain ⟨_, _, _, u, e, _⟩ := x; exact ⟨u, e⟩
 | dK kvs => obtain ⟨_, _, _, _, o, _, _, e, _⟩ := x; exact ⟨_, e⟩
 | dT kvs => obtain ⟨_, _, _, _, o, _, _, e, _⟩ := x; exact ⟨_, e⟩
 | set S n => obtain ⟨o, _, _, _, e, _⟩ := x; exact ⟨_, e⟩
 | ins C dx fs => obtain ⟨_, _, _, e, _⟩ := x; exact ⟨_, e⟩
 | own y => obtain ⟨_, e⟩ := x; exact ⟨_, e⟩
 | xd fs => obtain ⟨_, ⟨_, _, _, e, _⟩, _⟩ := x; exact ⟨_, e⟩
 | rng lo hi => obtain ⟨_, _, _, e⟩ := x; exact ⟨_, e⟩
 | frz ob u => obtain ⟨e, _⟩ := x; exact ⟨_, e⟩
 | tbl ps => exact ⟨_, (show h.get? a = some _ from x)⟩
 | met f y => exact ⟨_, (show h.get? a = some _ from x)⟩
 | ext φ => exact x.2.1
theorem HOk.gone {P : Program} {w : World} {H : Hp} {h : Heap} {a : Addr} (x : HOk P w H h) (e : h.get? a = none) : H a = none := by
 cases q : H a with
 | none => rfl
 | some u =>
  obtain ⟨o, ho⟩ := (x a u q).there
  rw [e] at ho; cases ho
section
variable {X : Cx} {pins : List (Addr × Obj)} {σ : St} {H : Hp} {s : Shared}
theorem Inv.walkedL {m : Str → Option Value} {h' : Heap} {t' : Nat} {D : Addr} {o : HO} (I : Inv X pins σ H s) (hn : s.heap.Ns X.env.locals m) (hn' : h'.Ns X.env.locals m) (k : ∀ b o, b ≠ X.env.locals → s.heap.get? b = some o → h'.get? b = some o)
  (hD : s.heap.get? D = none) (new : ObjOk X.prog X.w (upd H D o) h' D o) : Inv X pins σ (upd H D o) { s with heap := h', toks := t' } := by
 have hf := I.free
 have h0 : H D = none := HOk.gone I.hok hD
 have nD : ∀ b o, s.heap.get? b = some o → b ≠ D := fun b o e z => by rw [z, hD] at e; cases e
 refine I.step (g' := s.gens) (d' := s.drawn) (ch := []) (fun _ z => nomatch z) (fun b o nb _ _ e _ => k b o nb e) (fun b o nb _ _ e _ => ⟨o.slots, k b o nb e⟩) (fun b o _ e n => by rw [zc (nD b o e)]; exact n) (fun b o _ e => ?_) (fun b _ e => by rw [zc (zf e h0)]; exact e) (fun b _ _ e => by rw [zc (zf e h0)]; exact e) (fun b ps e => ⟨#[], by rw [zc (zf e h0), e]; simp⟩) (fun m' hm => ?_) (fun b u e => ?_) I.bare
 ·by_cases z : b = X.env.locals
  ·obtain ⟨o', es, ep, ho, _⟩ := hn'
   exact ⟨o', z ▸ ho⟩
  ·exact ⟨o, k b o z e⟩
 ·rw [hm.eq_nsMap, ← hn.eq_nsMap]
  exact hn'
 ·by_cases z : b = D
  ·subst z
   rw [za] at e
   cases e
   exact new
  ·rw [zc z] at e
   refine (I.hok b u e).stay (fun c v hc q => k c v ?_ q) (fun c q => by rw [zc (zf q h0)]; exact q) fun c _ q => by rw [zc (zf q h0)]; exact q
   rintro rfl
   rcases hc with hc | hc
   ·rw [← hc, hf] at e; cases e
   ·rw [hf] at hc; cases hc
end
end L2
end
section
namespace L2
open PySem PySem.W PySem.Spec PyProof.Rows
section
variable {X : Cx} {pins : List (Addr × Obj)} {σ : St} {H : Hp} {s : Shared}
def z46 (K : PySem.W.Frag) (Pt : Addr) (pos : Pos) (qual : Str) (i : Nat) (te : TA) : TE := fun σ H Q => te σ H fun xs H1 => ∃ (l : Addr) (L : List (Addr × List V)) (kf : Nat → Int), xs = [.ref l] ∧ SqL K H1 l (L.map fun q => V.ref q.1) ∧ L.length < 128 ∧ (L.map (·.1)).Nodup ∧ TbOk H1 Pt pos qual ∧
 (∀ (n : Nat) (q : Addr × List V), L[n]? = some q → H1 q.1 = some (.tup q.2) ∧ q.2[i]? = some (V.int (kf n))) ∧
 ∀ (H2 : Hp) (r : Addr) (p : List Nat), But1 Pt H1 H2 → TbOk H2 Pt pos qual → H2 r = none → p.Perm (List.range L.length) → p.Pairwise (StabLe kf) → Q (.ref r) (upd H2 r (.lst (p.map fun n => ((L[n]?).map fun q => V.ref q.1).getD .non)))
theorem z6n {e : Expr} {ta : TA} {c Pt : Addr} {x : Str} {i : Nat} {params : Arguments} {scope : Scope} {kk : Nat} {p pos kp lp p1 p2 p3 : Pos} (hr : Room 2 X.A) (hc : X.calm = true) (hg : Gl X "sorted") (hm : X.mg "sorted" = none) (ha : PA X [e] ta)
  (hcode : X.env.code = .ref c) (hC : codeHdIn X.K c Pt = true) (BA : X.base.BuiltinsAt X.mg Pt) (hdef : defaultsOf params X.env = ([], [])) (hcl : closureFor scope X.env = pure []) (LX : LamX x params scope)
  (he : backTo pos (starEach [e] X.env) = (false, eval e X.env) :: backTo pos (starEach [] X.env) := by rfl) (hpl : (backTo pos (starEach [e] X.env)).any (·.1) = false := by rfl) :
  PE X (.Call (.Name "sorted" p) [e] [⟨some (Str.ofString "key"), .Lambda params (.Subscript (.Name x p1) (.Constant (.int (i : Int)) kk p2) p3) scope lp, kp⟩] pos) (z46 X.K Pt lp (X.env.qual ++ "<lambda>") i ta) := by
 intro pins s σ H Q I h
 refine wpAny_Call_Name_kw (z3c I hg hm boot_sorted ?_)
 refine callWith_kw (thn (ha pos pins s σ H _ I h) fun us s1 ⟨vs, H1, I1, r1, q1⟩ => ?_) he hpl (by rfl) (by rfl)
 obtain ⟨l, L, kf, e1, hl, h128, hnd, hT, hL, q⟩ := q1
 subst e1
 obtain ⟨u, rfl, ru⟩ := z4b r1
 cases ru
 refine kws_cons (zaw I1 hcode hC BA hT hdef hcl fun f c' ctv pm H2 s2 I2 hf hcd hT2 hB hf0 => kws_nil ?_)
 show wpAny _ _ (call (.builtin "sorted") [.ref l] [(Str.ofString "key", .ref f)]) _ _ _
 obtain ⟨ps0, hP0⟩ : ∃ ps, H1 Pt = some (.tbl ps) := hT.some
 have hl2 : SqL X.K H2 l (L.map fun q => V.ref q.1) := by
  rcases hl with (z | ⟨o, z⟩) | z
  ·exact .inl (.inl (hB _ _ z fun y => by rw [y, hP0] at z; cases z))
  ·exact .inl (.inr ⟨o, hB _ _ z fun y => by rw [y, hP0] at z; cases z⟩)
  ·exact .inr z
 obtain ⟨its, rv, pl, hz⟩ := I2.list hl2
 have hlen : L.length = its.length := by have := rv.length; rwa [List.length_map] at this
 obtain ⟨m, hn, _⟩ := id I2.loc
 have F : Fr X.base X.env.locals s2.heap m := ⟨hn, I2.bk, Nat.le_trans I2.ok.bsz I2.ok.above⟩
 have N : News X.base X.env.locals s2.heap (z2w X.base s2.heap X.env.locals) := zag
 obtain ⟨oL, esL, epL, hoL, hdL, _⟩ := id hn
 have notL : ∀ (b : Addr) (o : Obj), s2.heap.get? b = some o → (∀ es ep, o.data ≠ .dict es ep) → b ≠ X.env.locals := fun b o e hd z => by
  rw [z, hoL] at e; cases e; exact hd _ _ hdL
 have nfL : f ≠ X.env.locals := notL f _ hf fun es ep z => by cases z
 have turn : ∀ (n : Nat) (v : Value), its[n]? = some v → ∀ (hh : Heap) (tk : Nat), (∀ b o, b ≠ X.env.locals → s2.heap.get? b = some o → hh.get? b = some o) → (∀ b o, X.base.get? b = some o → hh.get? b = some o) →
   wpAny (model X.prog X.w) X.A.in1.in1 (call (.ref f) [v]) (fun k s' => ∃ h' tk' t, k = .int (kf n) t ∧ s' = { s2 with heap := h', toks := tk' } ∧ ∀ b o, hh.get? b = some o → h'.get? b = some o) (fun _ _ => False) { s2 with heap := hh, toks := tk } := fun n v hv hh tk kA kB => by
  have hj : n < its.length := (List.getElem?_eq_some_iff.mp hv).1
  have hj' : n < L.length := by omega
  have g1 : (L.map fun q => V.ref q.1)[n]? = some (V.ref (L[n]).1) := by rw [List.getElem?_map, List.getElem?_eq_getElem hj']; rfl
  obtain ⟨w', q1, q2⟩ := rv.get g1
  rw [hv] at q1; cases q1
  obtain rfl : v = Value.ref (L[n]).1 := q2
  obtain ⟨ht, hi⟩ := hL n L[n] (List.getElem?_eq_getElem hj')
  have ht2 : H2 (L[n]).1 = some (.tup (L[n]).2) := hB _ _ ht fun z => by rw [z, hP0] at ht; cases ht
  obtain ⟨zt, tits, rt, hTup⟩ := I2.hok _ _ ht2
  obtain ⟨u1, hu1, t1, rfl⟩ := rt.get hi
  have tup' : IsTup hh (L[n]).1 tits.toArray := by
   obtain ⟨o, e, hcT, n, hdT⟩ := hTup
   exact ⟨o, kA _ _ (notL _ o e fun es ep z => by rw [hdT] at z; cases z) e, hcT, n, hdT⟩
  have cd' : hh.CodeRec (.ref c') (X.env.qual ++ "<lambda>") := by
   obtain ⟨cc, o, vs, t, ec, g, hd, hv⟩ := hcd
   exact ⟨cc, o, vs, t, ec, kA _ _ (notL _ o g fun es ep z => by rw [hd] at z; cases z) g, hd, hv⟩
  have hsz : tits.toArray.size < 2 ^ 62 := by
   have := rt.length
   rw [List.size_toArray, ← this]
   have h3 : (L[n]).2.length ≤ sizeLine := zt
   exact Nat.lt_of_le_of_lt h3 (by decide)
  refine wpAny_mono (zax (A := X.A.in1.in1) (s := { s2 with heap := hh, toks := tk }) LX (hr.in1.in1).depth (kA _ _ nfL hf) cd' (I2.ok.mod.nolimit.keeps kB) tup' (u := .int (kf n) t1) (by simpa using hu1) hsz) (fun v' s' hq => ?_) fun _ _ z => z
  obtain ⟨rfl, h3, tk3, rfl, hk3⟩ := hq
  exact ⟨h3, tk3, t1, rfl, rfl, hk3⟩
 have done : ∀ (D : Addr) (h' : Heap) (tk c : Nat) (p : List Nat), p.Perm (List.range its.length) → p.Pairwise (StabLe kf) → (∀ b o, b ≠ X.env.locals → s2.heap.get? b = some o → h'.get? b = some o) → h'.Ns X.env.locals m → s2.heap.get? D = none → h'.get? D = some (seqObj "list" (p.map fun i => its.getD i Value.none).toArray c) →
   ∃ u H', Inv X pins σ H' { s2 with heap := h', toks := tk } ∧ RelV u (.ref D) ∧ Q u H' := fun D h' tk c p p1 p2 k hns fresh g => by
  have pl2 : p.length = L.length := by rw [p1.length_eq, List.length_range]; omega
  have vals : Vals (p.map fun n => ((L[n]?).map fun q => V.ref q.1).getD .non) (p.map fun i => its.getD i Value.none) := by
   have hb : ∀ n ∈ p, n < L.length := fun n hn => by have := p1.mem_iff.mp hn; rw [List.mem_range] at this; omega
   clear p1 p2 g pl2
   induction p with
   | nil => exact .nil
   | cons n p ih =>
    have hn := hb n (List.mem_cons_self ..)
    refine .cons ?_ (ih fun m hm => hb m (List.mem_cons_of_mem _ hm))
    have g1 : (L.map fun q => V.ref q.1)[n]? = some (V.ref (L[n]).1) := by rw [List.getElem?_map, List.getElem?_eq_getElem hn]; rfl
    obtain ⟨w', q1, q2⟩ := rv.get g1
    show RelV (((L[n]?).map fun q => V.ref q.1).getD .non) (its.getD n Value.none)
    rw [List.getElem?_eq_getElem hn, List.getD_eq_getElem?_getD, q1]
    exact q2
  have ok : ObjOk X.prog X.w (upd H2 D (.lst (p.map fun n => ((L[n]?).map fun q => V.ref q.1).getD .non))) h' D (.lst (p.map fun n => ((L[n]?).map fun q => V.ref q.1).getD .non)) := ⟨by rw [List.length_map, pl2]; exact Nat.le_trans (Nat.le_of_lt h128) (by decide), _, c, vals, g⟩
  exact ⟨.ref D, _, I2.walkedL hn hns k fresh ok, rfl, q H2 D p hB hT2 (HOk.gone I2.hok fresh) (by rw [hlen]; exact p1) p2⟩
 rcases Nat.lt_or_ge L.length 2 with h2 | h2
 ·refine ksk_sorted (b := false) (f := .ref f) (kz := (List.range its.length).map kf) F N pl.isList (by simp) (by omega) (ksk_s1 _ _) (fun x => ksk_l1 _ _) (fun x => ksk_t1 f x) (fun n v k hv hk hh tk own F' N' => ?_) fun D h' tk out c F' N' hlt hout => ?_
  ·have hj : n < its.length := (List.getElem?_eq_some_iff.mp hv).1
   have ek : k = kf n := by
    rw [List.getElem?_map, List.getElem?_range hj] at hk
    exact (Option.some.inj hk).symm
   rw [ek]
   refine wpAny_mono (turn n v hv hh tk (z7l I2.bk F' N') F'.keep) (fun v' s' hq => ?_) fun _ _ z => z
   obtain ⟨h3, tk3, t1, rfl, rfl, hk3⟩ := hq
   exact ⟨h3, tk3, t1, rfl, rfl, F'.kept hk3, N'.grown hk3⟩
  ·obtain ⟨ps, pp, po, pr⟩ := hout
   have ez : ps = ((List.range its.length).map kf).zip its := by
    have hl2 : (((List.range its.length).map kf).zip its).length < 2 := by simp; omega
    generalize ((List.range its.length).map kf).zip its = zs at pp hl2
    match zs, hl2 with
    | [], _ => exact List.Perm.eq_nil pp
    | [z], _ => exact List.perm_singleton.mp pp
    | _ :: _ :: _, h => exact absurd h (by simp)
   have eo : out = ((List.range its.length).map fun i => its.getD i Value.none).toArray := by
    rw [ez, List.map_snd_zip (by simp)] at po
    rw [← Array.toArray_toList (xs := out), po]
    congr 1
    apply List.ext_getElem
    ·simp
    ·intro i a b
     simp [a]
   subst eo
   have fresh : s2.heap.get? D = none := by
    cases eo : s2.heap.get? D with
    | none => rfl
    | some o => exact absurd (hlt _ (z4q (N' _ (.head _)).2.1 (N' _ (.head _)).2.2 eo)) (Nat.lt_irrefl _)
   refine done D h' tk c (List.range its.length) (List.Perm.refl _) ?_ (z7l I2.bk F' (own := []) (by rw [List.append_nil]; exact fun q hq => N' q (.tail _ hq))) F'.ns fresh (N' _ (.head _)).1
   refine List.pairwise_lt_range.imp_of_mem fun {a b} ma mb hab => ?_
   rw [List.mem_range] at ma mb
   omega
 ·refine z9i (rk := fun p => match p.2 with | .ref a => (L.map (·.1)).idxOf a | _ => 0) (kf := kf) pl.isList (by omega) (by omega) (fun i hi k => ?_) (ksk_s1 _ _) (fun x => ksk_l1 _ _) (fun x => ksk_t1 f x) (fun n v hv hh tk kA => turn n v hv hh tk (fun b o _ e => kA b o e) fun b o q => kA _ _ (I2.bk b o q)) fun D h' tk c p p1 p2 k fr g => ?_
  ·have hi' : i < L.length := by omega
   have g1 : (L.map fun q => V.ref q.1)[i]? = some (V.ref (L[i]).1) := by rw [List.getElem?_map, List.getElem?_eq_getElem hi']; rfl
   obtain ⟨w', q1, q2⟩ := rv.get g1
   rw [List.getElem?_eq_getElem hi] at q1
   obtain rfl := Option.some.inj q1
   rw [show its[i] = Value.ref (L[i]).1 from q2]
   show (L.map (·.1)).idxOf (L[i]).1 = i
   have : (L.map (·.1))[i]'(by rw [List.length_map]; exact hi') = (L[i]).1 := by simp
   rw [← this]
   exact hnd.idxOf_getElem _ _
  ·exact done D h' tk c p p1 p2 (fun b o _ e => k b o e) (F.kept k).ns fr g
end
end L2
end
section
namespace PySem
open PyProof.Rows
section
variable {prog : Program} {w : World} {A : Around} {E : Value → Shared → Prop} {s : Shared}
theorem za9 {a : Addr} {vs : List Value} {ns : List Int} {n : Nat} {P : Fin → Shared → Prop} (ho : s.heap.get? a = some (seqObj "list" vs.toArray n)) (hI : IntsAre vs ns) (nd : ns.Nodup) (h2 : 2 ≤ vs.length) (h128 : vs.length < 128)
  (h : ∀ (out : Array Value) (ks : List Int), IntsAre out.toList ks → ks.Perm ns → ks.Pairwise (· ≤ ·) → P (.done (.ret .none)) { s with heap := sortedHeap s.heap a vs out }) : wpAny (model prog w) A (Builtin.«list.sort» ⟨[.ref a], []⟩) P E s := by
 have hb : 128 ≤ sizeLine := by decide
 have la : a < s.heap.objs.size := Heap.lt_size ho
 have c1 := Heap.SameBut.update s.heap a (Obj.mapSeq fun _ => (#[] : Array Value))
 obtain ⟨e1, g1⟩ : ∃ e1, (s.heap.update a (Obj.mapSeq fun _ => (#[] : Array Value))).get? a = some (seqObj "list" #[] e1) := ⟨_, get?_update_seq ho fun _ => #[]⟩
 have g3 := Heap.get?_push_of_some (seqObj "list" #[] 0) (Heap.get?_push_of_some (seqObj "tuple" vs.toArray 0) g1)
 have z1 : vs.toArray.size ≤ sizeLine := by simp; omega
 have z2 : vs.length ≤ sizeLine := by omega
 have zp : (pairsOf vs).size = vs.length := pairsOf_size vs
 rw [list_sort_plain]
 refine wpAny_bind (listItems_at ho rfl ?_)
 refine wpAny_bind (listUpdate_at ho rfl ?_ z1 (Nat.zero_le _))
 refine wpAny_bind (seqEpoch_at g1 rfl ?_)
 refine wpAny_bind (wpAny_newTuple ?_ z2)
 refine wpAny_bind (wpAny_newList ?_ (Nat.zero_le _))
 refine wpAny_holding ?_
 dsimp only
 have n2 : ¬ vs.toArray.size < 2 := by simp; omega
 rw [if_neg n2, if_neg n2]
 have kk : keyKind' vs.toArray = pure oneType' := ksk_kind (kz := ns) (by simpa using hI) (by simp; omega)
 rw [kk]
 refine wpAny_bind (wpAny_pure ?_)
 have at_ : ∀ i (hi : i < vs.length), ∃ t, vs[i] = .int (ns[i]'(by rw [← hI.length]; exact hi)) t := fun i hi => by
  obtain ⟨m, t, e⟩ := hI.all vs[i] (List.getElem_mem hi)
  have := hI.nums
  refine ⟨t, ?_⟩
  have e2 : ns[i]'(by rw [← hI.length]; exact hi) = numOf vs[i] := by simp [← this]
  rw [e2, e]
  rfl
 have pz : ∀ i (hi : i < vs.length) (h' : i < (pairsOf vs).size), (pairsOf vs)[i] = (vs[i], vs[i]) := fun i hi h' => by simp [pairsOf]
 have rk1 : ∀ i (hi : i < vs.length), ns.idxOf (numOf vs[i]) = i := fun i hi => by
  obtain ⟨t, e⟩ := at_ i hi
  rw [e]
  exact nd.idxOf_getElem _ _
 refine wpAny_bind (wpAny_mono (z4w (rk := fun p => ns.idxOf (numOf p.1)) (a₀ := pairsOf vs) (st := SortSt.mk' oneType' (pairsOf vs) #[] 7 none) (Q := fun _ st' => (arrOf st').Perm (pairsOf vs) ∧ failedOf st' = none ∧ (arrOf st').toList.Pairwise fun p q => cdK (fun p => ns.idxOf (numOf p.1)) p < cdK (fun p => ns.idxOf (numOf p.1)) q)
  ⟨rfl, rfl, Array.Perm.refl _, fun p hp => ?_, fun i a1 a2 => by omega, fun i _ hi => ?_⟩ rfl (by omega) (by omega) fun st' a1 a2 a3 => ⟨a1, a2, a3⟩) ?_ fun _ _ z => z)
 ·obtain ⟨i, hi, rfl⟩ := List.getElem_of_mem hp
  rw [Array.length_toList, zp] at hi
  rw [Array.getElem_toList, pz i hi]
  obtain ⟨t, e⟩ := at_ i hi
  refine ⟨⟨_, t, e⟩, ?_⟩
  show ns.idxOf (numOf vs[i]) < 1000
  rw [rk1 i hi]
  omega
 ·rw [zp] at hi
  show rkA _ (pairsOf vs) i = i
  rw [z2a (by omega), pz i hi]
  exact rk1 i hi
 rintro ⟨⟨⟩, st'⟩ s' ⟨rfl, hp, hf, hs⟩
 have hp : (arrOf st').Perm (pairsOf vs) := hp
 have hf : failedOf st' = none := hf
 have hs : (arrOf st').toList.Pairwise fun p q => cdK (fun p => ns.idxOf (numOf p.1)) p < cdK (fun p => ns.idxOf (numOf p.1)) q := hs
 have sz : (arrOf st').size = vs.length := by rw [hp.size_eq]; exact zp
 have so : SortedTo (arrOf st') (pairsOf vs).size := fun i j hij hj => by
  rw [zp] at hj
  rcases Nat.lt_or_eq_of_le hij with z | z
  ·have h1 := List.pairwise_iff_getElem.mp hs i j (by simp; omega) (by simp; omega) z
   have ok : ∀ k (hk : k < (arrOf st').size), ns.idxOf (numOf (arrOf st')[k].1) < 1000 := fun k hk => by
    have mm : (arrOf st')[k] ∈ (pairsOf vs).toList := (Array.perm_iff_toList_perm.mp hp).mem_iff.mp (by simp)
    obtain ⟨n, hn, e⟩ := List.getElem_of_mem mm
    rw [Array.length_toList, zp] at hn
    rw [Array.getElem_toList, pz n hn] at e
    rw [← e]
    show ns.idxOf (numOf vs[n]) < 1000
    rw [rk1 n hn]
    omega
   have k1 := ok i (by omega)
   have k2 := ok j (by omega)
   rw [K_eq (by omega), K_eq (by omega)]
   simp only [Array.getElem_toList] at h1
   unfold cdK at h1
   dsimp only at h1
   omega
  ·rw [z]; exact Int.le_refl _
 obtain ⟨ks, r1, r2, r3⟩ := sorted_out hI hp so
 show wpAny _ _ (seqEpoch a >>= _) _ _ _
 refine wpAny_bind (seqEpoch_at g3 rfl ?_)
 have z3 : ((arrOf st').map (·.2)).size ≤ sizeLine + 1 := by rw [Array.size_map]; omega
 refine wpAny_bind (listUpdate_at g3 rfl ?_ (Nat.zero_le _) z3)
 rw [hf]
 simp only [bne_self_eq_false, Bool.false_eq_true, if_false]
 exact wpAny_pure (h _ ks r1 r2 r3)
theorem z9j (prog : Program) (w : World) : Sorts (intKind prog w) IntsAre (·.Pairwise (· ≤ ·)) 128 where
 to := (z6f prog w).to
 ln := (z6f prog w).ln
 st := fun {A E s l vs ks n P} hS t nd v128 h => by
  rcases Nat.lt_or_ge vs.length 64 with z | z
  ·exact list_sort_tree hS t z h
  ·exact za9 hS t nd (by omega) v128 h
end
end PySem
namespace L2
open PySem PySem.Spec PyProof.Rows
abbrev z6o {X : Cx} (hc : X.calm = true) := z7d (z9j X.prog X.w) (by decide) V.int (fun _ _ h => z79 h) hc
end L2
end
section
namespace L2
open PySem PySem.Spec PyProof.Rows
section
variable {X : Cx}
end
end L2
end
section
namespace PySem
open Sem (wp)
open AutoSeq1 (wpAny_loadPart')
end PySem
end
section
namespace L2
open PySem PySem.Spec PyProof.Rows
section
variable {X : Cx}
end
end L2
end
section
namespace L2
open PySem PySem.Spec PyProof.Rows
def z4l : List Expr → Option (List V)
 | [] => some []
 | .Constant (.int i) _ _ :: es => (z4l es).map (.int i :: ·)
 | .Constant (.str x) _ _ :: es => (z4l es).map (.str x :: ·)
 | _ => none
def tVs (vs : List V) : TA := fun _ H Q => Q vs H
theorem stCc {c : Const} {k : Nat} {p : Pos} {es : List Expr} {env : Env} : starEach (.Constant c k p :: es) env = (false, eval (.Constant c k p) env) :: starEach es env := rfl
theorem z5y {X : Cx} : ∀ {es : List Expr} {vs : List V}, z4l es = some vs → PA X es (tVs vs)
 | [], vs, h => by
  cases h
  exact z8
 | .Constant (.int i) k p :: es, vs, h => by
  unfold z4l at h
  obtain ⟨js, hj, rfl⟩ := Option.map_eq_some_iff.mp h
  exact z0 (te := tC (.int i)) (t := tVs js) z7 (z5y hj) stCc
 | .Constant (.str i) k p :: es, vs, h => by
  unfold z4l at h
  obtain ⟨js, hj, rfl⟩ := Option.map_eq_some_iff.mp h
  exact z0 (te := tC (.str i)) (t := tVs js) z18 (z5y hj) stCc
def zaa : Expr → Option (List V)
 | .List es _ => z4l es
 | _ => none
theorem zbq {X : Cx} {e : Expr} {vs : List V} (h : zaa e = some vs) : PE X e (tLst (tVs vs)) := by
 unfold zaa at h
 split at h
 ·exact z1x (z5y h)
 ·cases h
end L2
end
namespace Fg
open PySem L2
local macro_rules | `(tactic| walk_at "rd") => `(tactic| ((try dsimp only [cxOf, L2.start, tSeq, z8s, tAsg, tBM, z1r, gNil, z8t, tRet, tIfS, z6s, tOp, tUn, tSl, z91, z5q, tCB, z13, tNil, tTup, tLst, tVar, tC, z6t, tB, tAnd, tOr, z8r, z57, gTup, z46, z73, z6a, z6b, z8v, z6c, tYes, capt, rI, rI0, rU, rEq, rNe, tyV, scal, Option.join_some, List.map_cons, List.map_nil, List.cons_append, List.nil_append, List.replicate, List.length_cons, List.length_nil, Nat.reduceAdd, Nat.reduceSub, List.getElem?_cons_zero, List.getElem?_cons_succ, List.set_cons_zero, List.set_cons_succ]); (try simp only [cxOf, L2.start, tSeq, z8s, tAsg, tBM, z1r, gNil, z8t, tRet, tIfS, z6s, tOp, tUn, tSl, z91, z5q, tCB, z13, tNil, tTup, tLst, tVar, tC, z6t, tB, tAnd, tOr, z8r, z57, gTup, z46, z73, z6a, z6b, z8v, z6c, tYes, capt, rI, rI0, rU, rEq, rNe, tyV, scal, Option.join_some, List.map_cons, List.map_nil, List.cons_append, List.nil_append, List.append_nil, List.replicate, List.length_cons, List.length_nil, Nat.reduceAdd, Nat.reduceSub, List.getElem?_cons_zero, List.getElem?_cons_succ, List.set_cons_zero, List.set_cons_succ, Option.some.injEq, V.str.injEq, V.int.injEq, V.bl.injEq, V.ref.injEq, V.ty.injEq, List.cons.injEq, exists_eq_left', exists_eq_left, exists_and_left, and_true, true_and, reduceCtorEq, if_true, if_false])))
def top (i : Nat) : Stmt := PySem.Challenge.pw_fencegate_k30_writes.main.body.getD i (.Pass ⟨0, 0, 0, 0⟩)
abbrev z3u : Stmt := top 1
abbrev z21 : Stmt := top 2
abbrev z47 : Stmt := top 4
abbrev z1m : Stmt := top 5
abbrev z3b : Stmt := top 6
abbrev z33 : Stmt := top 7
abbrev z34 : Stmt := top 8
abbrev z2j : Stmt := top 9
abbrev z3v : Stmt := top 10
abbrev z4m : Stmt := top 11
structure Txt (K : PySem.W.Frag) (mg : Str → Option Value) (Pt_writes cd_writes : Addr) : Prop where
 z : True
 b_all : mg "all" = none
 b_bool : mg "bool" = none
 b_int : mg "int" = none
 b_isinstance : mg "isinstance" = none
 b_len : mg "len" = none
 b_list : mg "list" = none
 b_min : mg "min" = none
 b_range : mg "range" = none
 b_set : mg "set" = none
 b_sorted : mg "sorted" = none
 b_str : mg "str" = none
 b_tuple : mg "tuple" = none
 hd_writes : PySem.W.codeHdIn K cd_writes Pt_writes = true
theorem z84 : FnScope ["row"] ["row"] (zh z3u) := ⟨rfl, rfl, rfl, by decide +kernel, rfl, by decide +kernel, by decide +kernel⟩
theorem sc_writes : FnScope ["log", "took"] ["log"] (zh z21) := ⟨rfl, rfl, rfl, by decide +kernel, rfl, by decide +kernel, by decide +kernel⟩
theorem z9k : FnScope ["_law_script", "_law_k"] ["_law_script", "_law_k"] (zh z47) := ⟨rfl, rfl, rfl, by decide +kernel, rfl, by decide +kernel, by decide +kernel⟩
theorem z48 : FnScope ["_law_found", "_law_due"] ["_law_found", "_law_due"] (zh z1m) := ⟨rfl, rfl, rfl, by decide +kernel, rfl, by decide +kernel, by decide +kernel⟩
theorem sc__law_name : FnScope ["_law_cell", "_law_k", "_law_signs", "_law_rest", "_law_many", "_law_spot", "_law_made", "_law_j", "_law_place"] ["_law_cell", "_law_k"] (zh z3b) := ⟨rfl, rfl, rfl, by decide +kernel, rfl, by decide +kernel, by decide +kernel⟩
theorem z6p : FnScope ["_law_cell", "_law_many"] ["_law_cell", "_law_many"] (zh z33) := ⟨rfl, rfl, rfl, by decide +kernel, rfl, by decide +kernel, by decide +kernel⟩
theorem sc__law_locks : FnScope ["_law_cell", "_law_words", "_law_many", "_law_made", "_law_rest", "_law_k", "_law_parent", "_law_path"] ["_law_cell", "_law_words", "_law_many"] (zh z34) := ⟨rfl, rfl, rfl, by decide +kernel, rfl, by decide +kernel, by decide +kernel⟩
theorem sc__law_log_row : FnScope ["_law_kind", "_law_rest", "_law_k", "_law_made", "_law_place", "_law_tick", "_law_holder", "_law_lock", "_law_number", "_law_store", "_law_grant", "_law_row"] ["_law_kind", "_law_rest", "_law_k", "_law_made", "_law_place"] (zh z2j) := ⟨rfl, rfl, rfl, by decide +kernel, rfl, by decide +kernel, by decide +kernel⟩
theorem sc__law_log : FnScope ["_law_script", "_law_first", "_law_holders", "_law_locks_here", "_law_stores", "_law_made", "_law_k", "_law_cell", "_law_kind", "_law_rest", "_law_tick", "_law_number", "_law_holder", "_law_lock", "_law_place"] ["_law_script", "_law_first"] (zh z3v) := ⟨rfl, rfl, rfl, by decide +kernel, rfl, by decide +kernel, by decide +kernel⟩
theorem sc_law : FnScope ["_law_script", "_law_log_here", "_law_more", "_law_k", "_law_holder", "_law_due", "_law_number", "_law_row", "_law_handed"] ["_law_script"] (zh z4m) := ⟨rfl, rfl, rfl, by decide +kernel, rfl, by decide +kernel, by decide +kernel⟩
variable {Pt_writes cd_writes : Addr}
variable {ts : List Addr}
section
variable {P : Program} {w : World} {K : PySem.W.Frag} {mg : Str → Option Value} {base : Heap}
structure Nt where
 n : Int
 h : Str
 l : Str
 sh : Bool
 e : Int
deriving DecidableEq
def Nt.vals (x : Nt) : List V := [.int x.n, .str x.h, .str x.l, .bl x.sh, .int x.e]
abbrev NL := List (Addr × Nt)
def refs (L : NL) : List V := L.map fun q => V.ref q.1
structure NotesAt (H : Hp) (L : NL) : Prop where
 tu : ∀ q ∈ L, H q.1 = some (.tup q.2.vals)
 sm : ∀ q ∈ L, q.2.h.length ≤ 1000 ∧ q.2.l.length ≤ 1000
theorem NotesAt.mono {H H' : Hp} {L : NL} (h : NotesAt H L) (s : Same H H') : NotesAt H' L := ⟨fun q hq => s _ _ (h.tu q hq), h.sm⟩
theorem NotesAt.sub {H : Hp} {L L' : NL} (h : NotesAt H L) (s : ∀ q ∈ L', q ∈ L) : NotesAt H L' := ⟨fun q hq => h.tu q (s q hq), fun q hq => h.sm q (s q hq)⟩
theorem n1 : ¬ (("up" : Str) = "top") := by decide +kernel
theorem n2 : ¬ (("up" : Str) = "kept") := by decide +kernel
theorem n3 : ¬ (("top" : Str) = "kept") := by decide +kernel
def kf (u : Bool) (t : Int) (l : Addr) : List (Str × V) := [("up", .bl u), ("top", .int t), ("kept", .ref l)]
structure KeeperAt (C : Addr) (H : Hp) (k : Addr) (u : Bool) (t : Int) (L : NL) : Prop where
 ob : ∃ dx l, H k = some (.ins C dx (kf u t l)) ∧ H l = some (.lst (refs L))
 nt : NotesAt H L
 len : L.length ≤ 1000
theorem KeeperAt.mono {C : Addr} {H H' : Hp} {k : Addr} {u : Bool} {t : Int} {L : NL} (h : KeeperAt C H k u t L) (s : Same H H') : KeeperAt C H' k u t L := by
 obtain ⟨⟨dx, l, h1, h2⟩, h3, h4⟩ := h
 exact ⟨⟨dx, l, s _ _ h1, s _ _ h2⟩, h3.mono s, h4⟩
def But (k : Addr) (H H' : Hp) : Prop := ∀ b o, H b = some o → b ≠ k → H' b = some o
theorem But.of {k : Addr} {H H' : Hp} (s : Same H H') : But k H H' := fun b o e _ => s b o e
theorem zab {α : Type} (p : α → Bool) {L : List α} {i : Nat} {x : α} (h : L[i]? = some x) : (L.take (i + 1)).filter p = (L.take i).filter p ++ (if p x = true then [x] else []) := by
 rw [List.take_succ, h, List.filter_append]
 simp [List.filter_cons]
def z2v (v : V) : Prop := (∃ i, v = .int i) ∨ (∃ z, v = .str z) ∨ (∃ b, v = .bl b)
def Alike (H : Hp) : Nat → V → V → Prop
 | 0, v, v' => v = v' ∧ z2v v
 | n + 1, v, v' => (v = v' ∧ z2v v) ∨ ∃ (a b : Addr) (xs ys : List V), v = .ref a ∧ v' = .ref b ∧ ((H a = some (.lst xs) ∧ H b = some (.lst ys)) ∨ (H a = some (.tup xs) ∧ H b = some (.tup ys))) ∧ xs.length = ys.length ∧ xs.length ≤ 1000 ∧
   ∀ (i : Nat) (x y : V), xs[i]? = some x → ys[i]? = some y → Alike H n x y
theorem Alike.mono {H H' : Hp} (s : Same H H') : ∀ {n : Nat} {v v' : V}, Alike H n v v' → Alike H' n v v'
 | 0, _, _, h => h
 | n + 1, _, _, .inl h => .inl h
 | n + 1, _, _, .inr ⟨a, b, xs, ys, e1, e2, h, hl, hz, k⟩ => .inr ⟨a, b, xs, ys, e1, e2, h.elim (fun z => .inl ⟨s _ _ z.1, s _ _ z.2⟩) (fun z => .inr ⟨s _ _ z.1, s _ _ z.2⟩), hl, hz, fun i x y hx hy => Alike.mono s (k i x y hx hy)⟩
theorem Alike.up {H : Hp} : ∀ {n : Nat} {v v' : V}, Alike H n v v' → Alike H (n + 1) v v'
 | 0, _, _, h => .inl h
 | n + 1, _, _, .inl h => .inl h
 | n + 1, _, _, .inr ⟨a, b, xs, ys, e1, e2, h, hl, hz, k⟩ => .inr ⟨a, b, xs, ys, e1, e2, h, hl, hz, fun i x y hx hy => (k i x y hx hy).up⟩
def z1u (n : Nat) : Sp := fun vs H Q _ => ∃ v v', vs = [v, v'] ∧ Alike H n v v' ∧ zcc H Q (.bl true)
theorem zay (F : Def K mg "_law_same" z1m ["_law_found", "_law_due"]) (T : Txt K mg Pt_writes cd_writes) (G__law_same : Has P w K mg base 0 "_law_same" ["_law_found", "_law_due"] (z8d)) : Has P w K mg base 1 "_law_same" ["_law_found", "_law_due"] (z1u 0) := by
 refine F.ok z48 (fun vs H Q E h => ?_) (fun f cdv A outer s H vs Q E hr h => ?_)
 ·obtain ⟨v, v', rfl, _⟩ := h
  rfl
 ·have hu := hr.units0
  obtain ⟨v, v', rfl, pv', q⟩ := h
  replace pv' : v = v' ∧ z2v v := pv'
  ·obtain ⟨rfl, pv'⟩ := pv'
   refine ⟨_, (@zb _ _ _ _ _ (@z10 _ _ _ _ _ _ _ _ (@z3d _ _ _ (@zd _ _ _ _ _ _ _ _ _ z3z rfl T.b_isinstance (by decide +kernel) (@z0 _ _ _ _ _ (pv 1) (@z0 _ _ _ _ _ (@z1g _ _ _ _ _ (@z0 _ _ _ _ _ (@zo _ _ (.ty "list") _ _ rfl T.b_list (by decide +kernel) rfl (by decide) (by decide)) (@z0 _ _ _ _ _ (@zo _ _ (.ty "tuple") _ _ rfl T.b_tuple (by decide +kernel) rfl (by decide) (by decide)) z8 rfl) rfl)) z8 rfl) rfl) (by decide) (by decide) rfl rfl) (by intro _; rfl)) (@zb _ _ _ _ _ (@z10 _ _ _ _ _ _ _ _ (PW.pt (@z8q _ _ _ _ _ _ _ (@zl _ _ _ _ _ _ _ _ z2t (@zd _ _ _ _ _ _ _ _ _ zu rfl T.b_isinstance (by decide +kernel) (@z0 _ _ _ _ _ (pv 0) (@z0 _ _ _ _ _ (@zo _ _ (.ty "list") _ _ rfl T.b_list (by decide +kernel) rfl (by decide) (by decide)) z8 rfl) rfl) (by decide) (by decide) rfl rfl) (@zd _ _ _ _ _ _ _ _ _ zu rfl T.b_isinstance (by decide +kernel) (@z0 _ _ _ _ _ (pv 1) (@z0 _ _ _ _ _ (@zo _ _ (.ty "list") _ _ rfl T.b_list (by decide +kernel) rfl (by decide) (by decide)) z8 rfl) rfl) (by decide) (by decide) rfl rfl) (zj _)) (@z6x _ _ _ _ (@zl _ _ _ _ _ _ _ _ z2t (@zd _ _ _ _ _ _ _ _ _ zu rfl T.b_isinstance (by decide +kernel) (@z0 _ _ _ _ _ (pv 0) (@z0 _ _ _ _ _ (@zo _ _ (.ty "tuple") _ _ rfl T.b_tuple (by decide +kernel) rfl (by decide) (by decide)) z8 rfl) rfl) (by decide) (by decide) rfl rfl) (@zd _ _ _ _ _ _ _ _ _ zu rfl T.b_isinstance (by decide +kernel) (@z0 _ _ _ _ _ (pv 1) (@z0 _ _ _ _ _ (@zo _ _ (.ty "tuple") _ _ rfl T.b_tuple (by decide +kernel) rfl (by decide) (by decide)) z8 rfl) rfl) (by decide) (by decide) rfl rfl) (zj _))))) (@zg _ _ _ (@zv _ _ _ _ z49)) zr) (@zg _ _ _ (@zv _ _ _ _ (@z1w _ _ _ _ _ _ _ (@z1o _ _ _ _ _ _ _ _ z11 (@zd _ _ _ _ _ _ _ _ _ zy rfl T.b_len (by decide +kernel) (@z0 _ _ _ _ _ (pv 0) z8 rfl) (by decide) (by decide) rfl rfl) (@zd _ _ _ _ _ _ _ _ _ zy rfl T.b_len (by decide +kernel) (@z0 _ _ _ _ _ (pv 1) z8 rfl) (by decide) (by decide) rfl rfl) (zj _)) (@z1v _ _ _ _ _ (@zd _ _ _ _ _ _ _ _ _ (z39 rfl) rfl T.b_all (by decide +kernel) (@z0 _ _ _ _ _ (@z3k _ _ "_law_k" (["_law_found", "_law_due"]) ([0, 1]) _ _ _ _ _ _ _ _ rfl ⟨rfl, by decide +kernel, by decide +kernel, rfl, z1l rfl, by decide +kernel, ⟨⟨rfl, Or.inl rfl, rfl⟩, ⟨⟨rfl, Or.inl rfl, rfl⟩, trivial⟩⟩⟩ (@z1s _ _ _ _ _ _ rfl T.b_range (@z0 _ _ _ _ _ (@zd _ _ _ _ _ _ _ _ _ zy rfl T.b_len (by decide +kernel) (@z0 _ _ _ _ _ (pv 1) z8 rfl) (by decide) (by decide) rfl rfl) z8 rfl) rfl) (fun _ _ _ _ => z4d) (fun _ _ _ _ => (@z1f _ _ _ _ _ _ _ _ _ _ G__law_same (hr.mono (by decide)) rfl (@z0 _ _ _ _ _ (@zn _ _ _ _ _ _ _ (z2c (K := K)) (pv 1) (pv 0) (fun _ _ => rfl)) (@z0 _ _ _ _ _ (@zn _ _ _ _ _ _ _ (z2c (K := K)) (pv 2) (pv 0) (fun _ _ => rfl)) z8 rfl) rfl) (by decide) rfl rfl)) (by intro _; rfl)) z8 rfl) (by decide) (by decide) rfl rfl)))))) zr) (@zb _ _ _ _ _ (@z10 _ _ _ _ _ _ _ _ (@zl _ _ _ _ _ _ _ _ z2t (@zd _ _ _ _ _ _ _ _ _ zu rfl T.b_isinstance (by decide +kernel) (@z0 _ _ _ _ _ (pv 0) (@z0 _ _ _ _ _ (@zo _ _ (.ty "bool") _ _ rfl T.b_bool (by decide +kernel) rfl (by decide) (by decide)) z8 rfl) rfl) (by decide) (by decide) rfl rfl) (@zd _ _ _ _ _ _ _ _ _ zu rfl T.b_isinstance (by decide +kernel) (@z0 _ _ _ _ _ (pv 1) (@z0 _ _ _ _ _ (@zo _ _ (.ty "bool") _ _ rfl T.b_bool (by decide +kernel) rfl (by decide) (by decide)) z8 rfl) rfl) (by decide) (by decide) rfl rfl) (zj _)) (@zg _ _ _ (@zv _ _ _ _ z49)) zr) (@zb _ _ _ _ _ (@z10 _ _ _ _ _ _ _ _ (@z3d _ _ _ (@zd _ _ _ _ _ _ _ _ _ zu rfl T.b_isinstance (by decide +kernel) (@z0 _ _ _ _ _ (pv 1) (@z0 _ _ _ _ _ (@zo _ _ (.ty "int") _ _ rfl T.b_int (by decide +kernel) rfl (by decide) (by decide)) z8 rfl) rfl) (by decide) (by decide) rfl rfl) (by intro _; rfl)) (@zg _ _ _ (@zv _ _ _ _ (@z1w _ _ _ _ _ _ _ (@zd _ _ _ _ _ _ _ _ _ zu rfl T.b_isinstance (by decide +kernel) (@z0 _ _ _ _ _ (pv 0) (@z0 _ _ _ _ _ (@zo _ _ (.ty "int") _ _ rfl T.b_int (by decide +kernel) rfl (by decide) (by decide)) z8 rfl) rfl) (by decide) (by decide) rfl rfl) (@z1v _ _ _ _ _ (@z1o _ _ _ _ _ _ _ _ z11 (pv 0) (pv 1) (zj _)))))) zr) (@zg _ _ _ (@zv _ _ _ _ (@z1w _ _ _ _ _ _ _ (@zd _ _ _ _ _ _ _ _ _ zu rfl T.b_isinstance (by decide +kernel) (@z0 _ _ _ _ _ (pv 0) (@z0 _ _ _ _ _ (@zo _ _ (.ty "str") _ _ rfl T.b_str (by decide +kernel) rfl (by decide) (by decide)) z8 rfl) rfl) (by decide) (by decide) rfl rfl) (@z1v _ _ _ _ _ (@z1o _ _ _ _ _ _ _ _ z11 (pv 0) (pv 1) (zj _))))))))), ?_⟩
   walk_at "rd"
   refine ⟨ze (by decide), fun p hp => ?_⟩
   have s1 := q _ (Same.upd (o := .tup [V.ty "list", V.ty "tuple"]) hp)
   rcases pv' with ⟨i, rfl⟩ | ⟨z, rfl⟩ | ⟨b, rfl⟩
   ·refine ⟨_, _, ⟨rfl, rfl⟩, _, _, SqT.of za, _, .int i, _, (z23 K).1, ?_⟩
    rw [if_neg Bool.false_ne_true]
    refine ⟨_, _, ⟨rfl, rfl⟩, _, .int i, _, z27 K, _, _, ⟨rfl, rfl⟩, _, .int i, _, z27 K, ?_⟩
    rw [if_neg (by decide)]
    refine ⟨_, _, ⟨rfl, rfl⟩, _, .int i, _, (z15 K).1, ?_⟩
    rw [if_pos rfl]
    refine ⟨_, _, ⟨rfl, rfl⟩, _, .int i, _, (z15 K).1, ?_⟩
    rw [if_pos rfl]
    exact ⟨rfl, by simpa using s1⟩
   ·refine ⟨_, _, ⟨rfl, rfl⟩, _, _, SqT.of za, _, .str z, _, (z23 K).2.2.1, ?_⟩
    rw [if_neg Bool.false_ne_true]
    refine ⟨_, _, ⟨rfl, rfl⟩, _, .str z, _, (z15 K).2.2.2.2.2.1, _, _, ⟨rfl, rfl⟩, _, .str z, _, (z15 K).2.2.2.2.2.1, ?_⟩
    rw [if_neg (by decide)]
    refine ⟨_, _, ⟨rfl, rfl⟩, _, .str z, _, (z15 K).2.2.1, ?_⟩
    rw [if_neg Bool.false_ne_true]
    refine ⟨_, _, ⟨rfl, rfl⟩, _, .str z, _, (z15 K).2.2.2.1, ?_⟩
    rw [if_pos rfl]
    exact ⟨rfl, by simpa using s1⟩
   ·refine ⟨_, _, ⟨rfl, rfl⟩, _, _, SqT.of za, _, .bl b, _, (z23 K).2.1, ?_⟩
    rw [if_neg Bool.false_ne_true]
    refine ⟨_, _, ⟨rfl, rfl⟩, _, .bl b, _, z1y K, _, _, ⟨rfl, rfl⟩, _, .bl b, _, z1y K, ?_⟩
    rw [if_neg (by decide)]
    refine ⟨_, _, ⟨rfl, rfl⟩, _, .bl b, _, (z15 K).2.1, ?_⟩
    rw [if_pos rfl]
    refine ⟨_, _, ⟨rfl, rfl⟩, _, .bl b, _, (z15 K).2.1, ?_⟩
    rw [if_pos rfl]
    exact ⟨rfl, by simpa using s1⟩
theorem z54 {n : Nat} (F : Def K mg "_law_same" z1m ["_law_found", "_law_due"]) (T : Txt K mg Pt_writes cd_writes) (G__law_same : Has P w K mg base (n + 1) "_law_same" ["_law_found", "_law_due"] (z1u n)) : Has P w K mg base (n + 1 + 1) "_law_same" ["_law_found", "_law_due"] (z1u (n + 1)) := by
 refine F.ok z48 (fun vs H Q E h => ?_) (fun f cdv A outer s H vs Q E hr h => ?_)
 ·obtain ⟨v, v', rfl, _⟩ := h
  rfl
 ·have hu := hr.units0
  obtain ⟨v, v', rfl, pv', q⟩ := h
  rcases pv' with pv' | ⟨a, b, xs, ys, rfl, rfl, hab, hlm, hz, kk⟩
  ·obtain ⟨rfl, pv'⟩ := pv'
   refine ⟨_, (@zb _ _ _ _ _ (@z10 _ _ _ _ _ _ _ _ (@z3d _ _ _ (@zd _ _ _ _ _ _ _ _ _ z3z rfl T.b_isinstance (by decide +kernel) (@z0 _ _ _ _ _ (pv 1) (@z0 _ _ _ _ _ (@z1g _ _ _ _ _ (@z0 _ _ _ _ _ (@zo _ _ (.ty "list") _ _ rfl T.b_list (by decide +kernel) rfl (by decide) (by decide)) (@z0 _ _ _ _ _ (@zo _ _ (.ty "tuple") _ _ rfl T.b_tuple (by decide +kernel) rfl (by decide) (by decide)) z8 rfl) rfl)) z8 rfl) rfl) (by decide) (by decide) rfl rfl) (by intro _; rfl)) (@zb _ _ _ _ _ (@z10 _ _ _ _ _ _ _ _ (PW.pt (@z8q _ _ _ _ _ _ _ (@zl _ _ _ _ _ _ _ _ z2t (@zd _ _ _ _ _ _ _ _ _ zu rfl T.b_isinstance (by decide +kernel) (@z0 _ _ _ _ _ (pv 0) (@z0 _ _ _ _ _ (@zo _ _ (.ty "list") _ _ rfl T.b_list (by decide +kernel) rfl (by decide) (by decide)) z8 rfl) rfl) (by decide) (by decide) rfl rfl) (@zd _ _ _ _ _ _ _ _ _ zu rfl T.b_isinstance (by decide +kernel) (@z0 _ _ _ _ _ (pv 1) (@z0 _ _ _ _ _ (@zo _ _ (.ty "list") _ _ rfl T.b_list (by decide +kernel) rfl (by decide) (by decide)) z8 rfl) rfl) (by decide) (by decide) rfl rfl) (zj _)) (@z6x _ _ _ _ (@zl _ _ _ _ _ _ _ _ z2t (@zd _ _ _ _ _ _ _ _ _ zu rfl T.b_isinstance (by decide +kernel) (@z0 _ _ _ _ _ (pv 0) (@z0 _ _ _ _ _ (@zo _ _ (.ty "tuple") _ _ rfl T.b_tuple (by decide +kernel) rfl (by decide) (by decide)) z8 rfl) rfl) (by decide) (by decide) rfl rfl) (@zd _ _ _ _ _ _ _ _ _ zu rfl T.b_isinstance (by decide +kernel) (@z0 _ _ _ _ _ (pv 1) (@z0 _ _ _ _ _ (@zo _ _ (.ty "tuple") _ _ rfl T.b_tuple (by decide +kernel) rfl (by decide) (by decide)) z8 rfl) rfl) (by decide) (by decide) rfl rfl) (zj _))))) (@zg _ _ _ (@zv _ _ _ _ z49)) zr) (@zg _ _ _ (@zv _ _ _ _ (@z1w _ _ _ _ _ _ _ (@z1o _ _ _ _ _ _ _ _ z11 (@zd _ _ _ _ _ _ _ _ _ zy rfl T.b_len (by decide +kernel) (@z0 _ _ _ _ _ (pv 0) z8 rfl) (by decide) (by decide) rfl rfl) (@zd _ _ _ _ _ _ _ _ _ zy rfl T.b_len (by decide +kernel) (@z0 _ _ _ _ _ (pv 1) z8 rfl) (by decide) (by decide) rfl rfl) (zj _)) (@z1v _ _ _ _ _ (@zd _ _ _ _ _ _ _ _ _ (z39 rfl) rfl T.b_all (by decide +kernel) (@z0 _ _ _ _ _ (@z3k _ _ "_law_k" (["_law_found", "_law_due"]) ([0, 1]) _ _ _ _ _ _ _ _ rfl ⟨rfl, by decide +kernel, by decide +kernel, rfl, z1l rfl, by decide +kernel, ⟨⟨rfl, Or.inl rfl, rfl⟩, ⟨⟨rfl, Or.inl rfl, rfl⟩, trivial⟩⟩⟩ (@z1s _ _ _ _ _ _ rfl T.b_range (@z0 _ _ _ _ _ (@zd _ _ _ _ _ _ _ _ _ zy rfl T.b_len (by decide +kernel) (@z0 _ _ _ _ _ (pv 1) z8 rfl) (by decide) (by decide) rfl rfl) z8 rfl) rfl) (fun _ _ _ _ => z4d) (fun _ _ _ _ => (@z1f _ _ _ _ _ _ _ _ _ _ G__law_same (hr.mono (by omega)) rfl (@z0 _ _ _ _ _ (@zn _ _ _ _ _ _ _ (z2c (K := K)) (pv 1) (pv 0) (fun _ _ => rfl)) (@z0 _ _ _ _ _ (@zn _ _ _ _ _ _ _ (z2c (K := K)) (pv 2) (pv 0) (fun _ _ => rfl)) z8 rfl) rfl) (by decide) rfl rfl)) (by intro _; rfl)) z8 rfl) (by decide) (by decide) rfl rfl)))))) zr) (@zb _ _ _ _ _ (@z10 _ _ _ _ _ _ _ _ (@zl _ _ _ _ _ _ _ _ z2t (@zd _ _ _ _ _ _ _ _ _ zu rfl T.b_isinstance (by decide +kernel) (@z0 _ _ _ _ _ (pv 0) (@z0 _ _ _ _ _ (@zo _ _ (.ty "bool") _ _ rfl T.b_bool (by decide +kernel) rfl (by decide) (by decide)) z8 rfl) rfl) (by decide) (by decide) rfl rfl) (@zd _ _ _ _ _ _ _ _ _ zu rfl T.b_isinstance (by decide +kernel) (@z0 _ _ _ _ _ (pv 1) (@z0 _ _ _ _ _ (@zo _ _ (.ty "bool") _ _ rfl T.b_bool (by decide +kernel) rfl (by decide) (by decide)) z8 rfl) rfl) (by decide) (by decide) rfl rfl) (zj _)) (@zg _ _ _ (@zv _ _ _ _ z49)) zr) (@zb _ _ _ _ _ (@z10 _ _ _ _ _ _ _ _ (@z3d _ _ _ (@zd _ _ _ _ _ _ _ _ _ zu rfl T.b_isinstance (by decide +kernel) (@z0 _ _ _ _ _ (pv 1) (@z0 _ _ _ _ _ (@zo _ _ (.ty "int") _ _ rfl T.b_int (by decide +kernel) rfl (by decide) (by decide)) z8 rfl) rfl) (by decide) (by decide) rfl rfl) (by intro _; rfl)) (@zg _ _ _ (@zv _ _ _ _ (@z1w _ _ _ _ _ _ _ (@zd _ _ _ _ _ _ _ _ _ zu rfl T.b_isinstance (by decide +kernel) (@z0 _ _ _ _ _ (pv 0) (@z0 _ _ _ _ _ (@zo _ _ (.ty "int") _ _ rfl T.b_int (by decide +kernel) rfl (by decide) (by decide)) z8 rfl) rfl) (by decide) (by decide) rfl rfl) (@z1v _ _ _ _ _ (@z1o _ _ _ _ _ _ _ _ z11 (pv 0) (pv 1) (zj _)))))) zr) (@zg _ _ _ (@zv _ _ _ _ (@z1w _ _ _ _ _ _ _ (@zd _ _ _ _ _ _ _ _ _ zu rfl T.b_isinstance (by decide +kernel) (@z0 _ _ _ _ _ (pv 0) (@z0 _ _ _ _ _ (@zo _ _ (.ty "str") _ _ rfl T.b_str (by decide +kernel) rfl (by decide) (by decide)) z8 rfl) rfl) (by decide) (by decide) rfl rfl) (@z1v _ _ _ _ _ (@z1o _ _ _ _ _ _ _ _ z11 (pv 0) (pv 1) (zj _))))))))), ?_⟩
   walk_at "rd"
   refine ⟨ze (by decide), fun p hp => ?_⟩
   have s1 := q _ (Same.upd (o := .tup [V.ty "list", V.ty "tuple"]) hp)
   rcases pv' with ⟨i, rfl⟩ | ⟨z, rfl⟩ | ⟨b, rfl⟩
   ·refine ⟨_, _, ⟨rfl, rfl⟩, _, _, SqT.of za, _, .int i, _, (z23 K).1, ?_⟩
    rw [if_neg Bool.false_ne_true]
    refine ⟨_, _, ⟨rfl, rfl⟩, _, .int i, _, z27 K, _, _, ⟨rfl, rfl⟩, _, .int i, _, z27 K, ?_⟩
    rw [if_neg (by decide)]
    refine ⟨_, _, ⟨rfl, rfl⟩, _, .int i, _, (z15 K).1, ?_⟩
    rw [if_pos rfl]
    refine ⟨_, _, ⟨rfl, rfl⟩, _, .int i, _, (z15 K).1, ?_⟩
    rw [if_pos rfl]
    exact ⟨rfl, by simpa using s1⟩
   ·refine ⟨_, _, ⟨rfl, rfl⟩, _, _, SqT.of za, _, .str z, _, (z23 K).2.2.1, ?_⟩
    rw [if_neg Bool.false_ne_true]
    refine ⟨_, _, ⟨rfl, rfl⟩, _, .str z, _, (z15 K).2.2.2.2.2.1, _, _, ⟨rfl, rfl⟩, _, .str z, _, (z15 K).2.2.2.2.2.1, ?_⟩
    rw [if_neg (by decide)]
    refine ⟨_, _, ⟨rfl, rfl⟩, _, .str z, _, (z15 K).2.2.1, ?_⟩
    rw [if_neg Bool.false_ne_true]
    refine ⟨_, _, ⟨rfl, rfl⟩, _, .str z, _, (z15 K).2.2.2.1, ?_⟩
    rw [if_pos rfl]
    exact ⟨rfl, by simpa using s1⟩
   ·refine ⟨_, _, ⟨rfl, rfl⟩, _, _, SqT.of za, _, .bl b, _, (z23 K).2.1, ?_⟩
    rw [if_neg Bool.false_ne_true]
    refine ⟨_, _, ⟨rfl, rfl⟩, _, .bl b, _, z1y K, _, _, ⟨rfl, rfl⟩, _, .bl b, _, z1y K, ?_⟩
    rw [if_neg (by decide)]
    refine ⟨_, _, ⟨rfl, rfl⟩, _, .bl b, _, (z15 K).2.1, ?_⟩
    rw [if_pos rfl]
    refine ⟨_, _, ⟨rfl, rfl⟩, _, .bl b, _, (z15 K).2.1, ?_⟩
    rw [if_pos rfl]
    exact ⟨rfl, by simpa using s1⟩
  ·skip
   refine ⟨_, (@zb _ _ _ _ _ (@z10 _ _ _ _ _ _ _ _ (@z3d _ _ _ (@zd _ _ _ _ _ _ _ _ _ z3z rfl T.b_isinstance (by decide +kernel) (@z0 _ _ _ _ _ (pv 1) (@z0 _ _ _ _ _ (@z1g _ _ _ _ _ (@z0 _ _ _ _ _ (@zo _ _ (.ty "list") _ _ rfl T.b_list (by decide +kernel) rfl (by decide) (by decide)) (@z0 _ _ _ _ _ (@zo _ _ (.ty "tuple") _ _ rfl T.b_tuple (by decide +kernel) rfl (by decide) (by decide)) z8 rfl) rfl)) z8 rfl) rfl) (by decide) (by decide) rfl rfl) (by intro _; rfl)) (@zb _ _ _ _ _ (@z10 _ _ _ _ _ _ _ _ (PW.pt (@z8q _ _ _ _ _ _ _ (@zl _ _ _ _ _ _ _ _ z2t (@zd _ _ _ _ _ _ _ _ _ zu rfl T.b_isinstance (by decide +kernel) (@z0 _ _ _ _ _ (pv 0) (@z0 _ _ _ _ _ (@zo _ _ (.ty "list") _ _ rfl T.b_list (by decide +kernel) rfl (by decide) (by decide)) z8 rfl) rfl) (by decide) (by decide) rfl rfl) (@zd _ _ _ _ _ _ _ _ _ zu rfl T.b_isinstance (by decide +kernel) (@z0 _ _ _ _ _ (pv 1) (@z0 _ _ _ _ _ (@zo _ _ (.ty "list") _ _ rfl T.b_list (by decide +kernel) rfl (by decide) (by decide)) z8 rfl) rfl) (by decide) (by decide) rfl rfl) (zj _)) (@z6x _ _ _ _ (@zl _ _ _ _ _ _ _ _ z2t (@zd _ _ _ _ _ _ _ _ _ zu rfl T.b_isinstance (by decide +kernel) (@z0 _ _ _ _ _ (pv 0) (@z0 _ _ _ _ _ (@zo _ _ (.ty "tuple") _ _ rfl T.b_tuple (by decide +kernel) rfl (by decide) (by decide)) z8 rfl) rfl) (by decide) (by decide) rfl rfl) (@zd _ _ _ _ _ _ _ _ _ zu rfl T.b_isinstance (by decide +kernel) (@z0 _ _ _ _ _ (pv 1) (@z0 _ _ _ _ _ (@zo _ _ (.ty "tuple") _ _ rfl T.b_tuple (by decide +kernel) rfl (by decide) (by decide)) z8 rfl) rfl) (by decide) (by decide) rfl rfl) (zj _))))) (@zg _ _ _ (@zv _ _ _ _ z49)) zr) (@zg _ _ _ (@zv _ _ _ _ (@z1w _ _ _ _ _ _ _ (@z1o _ _ _ _ _ _ _ _ z11 (@zd _ _ _ _ _ _ _ _ _ zy rfl T.b_len (by decide +kernel) (@z0 _ _ _ _ _ (pv 0) z8 rfl) (by decide) (by decide) rfl rfl) (@zd _ _ _ _ _ _ _ _ _ zy rfl T.b_len (by decide +kernel) (@z0 _ _ _ _ _ (pv 1) z8 rfl) (by decide) (by decide) rfl rfl) (zj _)) (@z1v _ _ _ _ _ (@zd _ _ _ _ _ _ _ _ _ (z39 rfl) rfl T.b_all (by decide +kernel) (@z0 _ _ _ _ _ (@z3k _ _ "_law_k" (["_law_found", "_law_due"]) ([0, 1]) _ _ _ _ _ _ _ _ rfl ⟨rfl, by decide +kernel, by decide +kernel, rfl, z1l rfl, by decide +kernel, ⟨⟨rfl, Or.inl rfl, rfl⟩, ⟨⟨rfl, Or.inl rfl, rfl⟩, trivial⟩⟩⟩ (@z1s _ _ _ _ _ _ rfl T.b_range (@z0 _ _ _ _ _ (@zd _ _ _ _ _ _ _ _ _ zy rfl T.b_len (by decide +kernel) (@z0 _ _ _ _ _ (pv 1) z8 rfl) (by decide) (by decide) rfl rfl) z8 rfl) rfl) (fun _ _ _ _ => z4d) (fun _ _ _ _ => (@z1f _ _ _ _ _ _ _ _ _ _ G__law_same (hr.mono (by omega)) rfl (@z0 _ _ _ _ _ (@zn _ _ _ _ _ _ _ (z2c (K := K)) (pv 1) (pv 0) (fun _ _ => rfl)) (@z0 _ _ _ _ _ (@zn _ _ _ _ _ _ _ (z2c (K := K)) (pv 2) (pv 0) (fun _ _ => rfl)) z8 rfl) rfl) (by decide) rfl rfl)) (by intro _; rfl)) z8 rfl) (by decide) (by decide) rfl rfl)))))) zr) (@zb _ _ _ _ _ (@z10 _ _ _ _ _ _ _ _ (@zl _ _ _ _ _ _ _ _ z2t (@zd _ _ _ _ _ _ _ _ _ zu rfl T.b_isinstance (by decide +kernel) (@z0 _ _ _ _ _ (pv 0) (@z0 _ _ _ _ _ (@zo _ _ (.ty "bool") _ _ rfl T.b_bool (by decide +kernel) rfl (by decide) (by decide)) z8 rfl) rfl) (by decide) (by decide) rfl rfl) (@zd _ _ _ _ _ _ _ _ _ zu rfl T.b_isinstance (by decide +kernel) (@z0 _ _ _ _ _ (pv 1) (@z0 _ _ _ _ _ (@zo _ _ (.ty "bool") _ _ rfl T.b_bool (by decide +kernel) rfl (by decide) (by decide)) z8 rfl) rfl) (by decide) (by decide) rfl rfl) (zj _)) (@zg _ _ _ (@zv _ _ _ _ z49)) zr) (@zb _ _ _ _ _ (@z10 _ _ _ _ _ _ _ _ (@z3d _ _ _ (@zd _ _ _ _ _ _ _ _ _ zu rfl T.b_isinstance (by decide +kernel) (@z0 _ _ _ _ _ (pv 1) (@z0 _ _ _ _ _ (@zo _ _ (.ty "int") _ _ rfl T.b_int (by decide +kernel) rfl (by decide) (by decide)) z8 rfl) rfl) (by decide) (by decide) rfl rfl) (by intro _; rfl)) (@zg _ _ _ (@zv _ _ _ _ (@z1w _ _ _ _ _ _ _ (@zd _ _ _ _ _ _ _ _ _ zu rfl T.b_isinstance (by decide +kernel) (@z0 _ _ _ _ _ (pv 0) (@z0 _ _ _ _ _ (@zo _ _ (.ty "int") _ _ rfl T.b_int (by decide +kernel) rfl (by decide) (by decide)) z8 rfl) rfl) (by decide) (by decide) rfl rfl) (@z1v _ _ _ _ _ (@z1o _ _ _ _ _ _ _ _ z11 (pv 0) (pv 1) (zj _)))))) zr) (@zg _ _ _ (@zv _ _ _ _ (@z1w _ _ _ _ _ _ _ (@zd _ _ _ _ _ _ _ _ _ zu rfl T.b_isinstance (by decide +kernel) (@z0 _ _ _ _ _ (pv 0) (@z0 _ _ _ _ _ (@zo _ _ (.ty "str") _ _ rfl T.b_str (by decide +kernel) rfl (by decide) (by decide)) z8 rfl) rfl) (by decide) (by decide) rfl rfl) (@z1v _ _ _ _ _ (@z1o _ _ _ _ _ _ _ _ z11 (pv 0) (pv 1) (zj _))))))))), ?_⟩
   walk_at "rd"
   refine ⟨ze (by decide), fun p hp => ?_⟩
   have s1 := Same.upd (o := .tup [V.ty "list", V.ty "tuple"]) hp
   rcases hab with ⟨ha, hb⟩ | ⟨ha, hb⟩
   ·have ha1 := s1 _ _ ha
    have hb1 := s1 _ _ hb
    refine ⟨_, _, ⟨rfl, rfl⟩, _, _, SqT.of za, _, .lst hb1, _, (z23 K).2.2.2.1, ?_⟩
    rw [if_pos rfl]
    refine ⟨_, _, ⟨rfl, rfl⟩, _, .lst ha1, _, z3x K, _, _, ⟨rfl, rfl⟩, _, .lst hb1, _, z3x K, ?_⟩
    rw [if_neg (by decide)]
    refine ⟨_, _, ⟨rfl, rfl⟩, _, .lst ha1, _, (z15 K).2.2.2.2.2.2.2.2, _, _, ⟨rfl, rfl⟩, _, .lst hb1, _, (z15 K).2.2.2.2.2.2.2.2, ?_⟩
    rw [if_neg (by decide)]
    refine ⟨xs, .inl (SqL.of ha1), ys, .inl (SqL.of hb1), ?_⟩
    rw [if_pos (by rw [hlm]; simp)]
    refine ⟨ys, .inl (SqL.of hb1), ⟨by omega, by omega⟩, ?_⟩
    rw [Int.toNat_natCast, ← hlm]
    refine z2z (ze (by omega)) (fun i acc H' => acc = (List.replicate i true).map V.bl ∧ Same (upd H p (.tup [V.ty "list", V.ty "tuple"])) H') ⟨rfl, Same.refl _⟩ ?_ ?_ ?_
    ·rintro i acc H' ⟨rfl, -⟩
     simp
    ·rintro Nn i acc H' hN hi ⟨rfl, s2⟩
     walk_at "rd"
     have ei : ((0 : Int) + (i : Int)) = (i : Int) := by omega
     rw [ei]
     have gx : xs[i]? = some xs[i] := List.getElem?_eq_getElem hi
     have gy : ys[i]? = some (ys[i]'(by omega)) := List.getElem?_eq_getElem (by omega)
     refine (.inl ⟨_, _, _, _, rfl, rfl, SqL.of (s2 _ _ ha1), zi gx, ?_⟩)
     refine (.inl ⟨_, _, _, _, rfl, rfl, SqL.of (s2 _ _ hb1), zi gy, ?_⟩)
     refine ⟨_, _, rfl, (kk i _ _ gx gy).mono (s1.trans s2), fun H3 s3 => hN _ _ ⟨?_, s2.trans s3⟩⟩
     rw [List.replicate_succ', List.map_append]
     rfl
    ·rintro acc H' ⟨rfl, s2⟩ r hr'
     refine ⟨_, rfl, _, SqL.of za, ?_⟩
     have e : (List.replicate xs.length true).all id = true := by simp
     rw [e]
     exact q _ ((s1.trans s2).trans (Same.upd hr'))
   ·have ha1 := s1 _ _ ha
    have hb1 := s1 _ _ hb
    refine ⟨_, _, ⟨rfl, rfl⟩, _, _, SqT.of za, _, .tup hb1, _, (z23 K).2.2.2.2, ?_⟩
    rw [if_pos rfl]
    refine ⟨_, _, ⟨rfl, rfl⟩, _, .tup ha1, _, (z15 K).2.2.2.2.2.2.2.1, _, _, ⟨rfl, rfl⟩, _, .tup hb1, _, (z15 K).2.2.2.2.2.2.2.1, ?_⟩
    rw [if_neg (by decide)]
    refine ⟨_, _, ⟨rfl, rfl⟩, _, .tup ha1, _, (z15 K).2.2.2.2.2.2.1, _, _, ⟨rfl, rfl⟩, _, .tup hb1, _, (z15 K).2.2.2.2.2.2.1, ?_⟩
    rw [if_neg (by decide)]
    refine ⟨xs, .inr (SqT.of ha1), ys, .inr (SqT.of hb1), ?_⟩
    rw [if_pos (by rw [hlm]; simp)]
    refine ⟨ys, .inr (SqT.of hb1), ⟨by omega, by omega⟩, ?_⟩
    rw [Int.toNat_natCast, ← hlm]
    refine z2z (ze (by omega)) (fun i acc H' => acc = (List.replicate i true).map V.bl ∧ Same (upd H p (.tup [V.ty "list", V.ty "tuple"])) H') ⟨rfl, Same.refl _⟩ ?_ ?_ ?_
    ·rintro i acc H' ⟨rfl, -⟩
     simp
    ·rintro Nn i acc H' hN hi ⟨rfl, s2⟩
     walk_at "rd"
     have ei : ((0 : Int) + (i : Int)) = (i : Int) := by omega
     rw [ei]
     have gx : xs[i]? = some xs[i] := List.getElem?_eq_getElem hi
     have gy : ys[i]? = some (ys[i]'(by omega)) := List.getElem?_eq_getElem (by omega)
     refine (.inr (.inl ⟨_, _, _, _, rfl, rfl, SqT.of (s2 _ _ ha1), zi gx, ?_⟩))
     refine (.inr (.inl ⟨_, _, _, _, rfl, rfl, SqT.of (s2 _ _ hb1), zi gy, ?_⟩))
     refine ⟨_, _, rfl, (kk i _ _ gx gy).mono (s1.trans s2), fun H3 s3 => hN _ _ ⟨?_, s2.trans s3⟩⟩
     rw [List.replicate_succ', List.map_append]
     rfl
    ·rintro acc H' ⟨rfl, s2⟩ r hr'
     refine ⟨_, rfl, _, SqL.of za, ?_⟩
     have e : (List.replicate xs.length true).all id = true := by simp
     rw [e]
     exact q _ ((s1.trans s2).trans (Same.upd hr'))
theorem zaz (F : Def K mg "_law_same" z1m ["_law_found", "_law_due"]) (T : Txt K mg Pt_writes cd_writes) (G__law_same : Has P w K mg base 2 "_law_same" ["_law_found", "_law_due"] (z1u 1)) : Has P w K mg base 3 "_law_same" ["_law_found", "_law_due"] (z1u 2) := z54 F T G__law_same
theorem zb0 (F : Def K mg "_law_same" z1m ["_law_found", "_law_due"]) (T : Txt K mg Pt_writes cd_writes) (G__law_same : Has P w K mg base 3 "_law_same" ["_law_found", "_law_due"] (z1u 2)) : Has P w K mg base 4 "_law_same" ["_law_found", "_law_due"] (z1u 3) := z54 F T G__law_same
inductive Rw where
 | given (t : Int) (h l : Str) (sh : Bool) (n e : Int)
 | back (t : Int) (h l : Str) (n : Int)
 | taken (t : Int) (h l : Str) (n : Int) (s : Str) (v : Int)
 | stale (t : Int) (h l : Str) (n : Int) (s : Str) (v seen : Int)
 | other (k : Str) (vs : List V)
def Rw.kind : Rw → Str
 | .given .. => "given" | .back .. => "back" | .taken .. => "taken" | .stale .. => "stale" | .other k _ => k
def Rw.rest (p : Addr) : Rw → List V
 | .given t h l sh n e => [.int t, .str h, .str l, .bl sh, .int n, .int e, .ref p]
 | .back t h l n => [.int t, .str h, .str l, .int n]
 | .taken t h l n s v => [.int t, .str h, .str l, .int n, .str s, .int v]
 | .stale t h l n s v seen => [.int t, .str h, .str l, .int n, .str s, .int v, .int seen]
 | .other _ vs => vs
def Rw.vals (p : Addr) (r : Rw) : List V := .str r.kind :: r.rest p
def Rw.ok : Rw → Prop
 | .other k vs => k ≠ "given" ∧ k ≠ "back" ∧ k ≠ "taken" ∧ k ≠ "stale" ∧ vs.length ≤ 10 ∧ ∀ x ∈ vs, z2v x
 | _ => True
def RowAt (H : Hp) (a : Addr) (r : Rw) : Prop := r.ok ∧ ∃ p, H a = some (.tup (r.vals p)) ∧ (r.kind = "given" → H p = some (.tup [.int 1, .int 2]))
abbrev LL := List (Addr × Rw)
def refl (L : LL) : List V := L.map fun q => V.ref q.1
def RowsAt (H : Hp) (L : LL) : Prop := ∀ q ∈ L, RowAt H q.1 q.2
theorem RowAt.mono {H H' : Hp} {a : Addr} {r : Rw} (h : RowAt H a r) (s : Same H H') : RowAt H' a r := by
 obtain ⟨o, p, h1, h2⟩ := h
 exact ⟨o, p, s _ _ h1, fun z => s _ _ (h2 z)⟩
theorem RowsAt.mono {H H' : Hp} {L : LL} (h : RowsAt H L) (s : Same H H') : RowsAt H' L := fun q hq => (h q hq).mono s
theorem z14 (L : LL) : (refl L).length = L.length := List.length_map _
theorem z2k {L : LL} {i : Nat} {x : V} (h : (refl L)[i]? = some x) : ∃ q, L[i]? = some q ∧ x = .ref q.1 := by
 unfold refl at h
 rw [List.getElem?_map] at h
 cases e : L[i]? with
 | none => rw [e] at h; cases h
 | some q => rw [e] at h; exact ⟨q, rfl, (Option.some.inj h).symm⟩
theorem k_gb : ("given" : Str) ≠ "back" := by decide +kernel
theorem k_gt : ("given" : Str) ≠ "taken" := by decide +kernel
theorem k_gs : ("given" : Str) ≠ "stale" := by decide +kernel
theorem k_bt : ("back" : Str) ≠ "taken" := by decide +kernel
theorem k_ts : ("taken" : Str) ≠ "stale" := by decide +kernel
theorem Rw.is_given {r : Rw} (o : r.ok) (h : r.kind = "given") : ∃ t h l sh n e, r = .given t h l sh n e := by
 cases r with
 | given t h l sh n e => exact ⟨_, _, _, _, _, _, rfl⟩
 | back => exact absurd h.symm k_gb
 | taken => exact absurd h.symm k_gt
 | stale => exact absurd h.symm k_gs
 | other k vs => exact absurd h o.1
theorem Rw.is_taken {r : Rw} (o : r.ok) (h : r.kind = "taken") : ∃ t h l n s v, r = .taken t h l n s v := by
 cases r with
 | given t h l sh n e => exact absurd h k_gt
 | back t h l n => exact absurd h k_bt
 | taken => exact ⟨_, _, _, _, _, _, rfl⟩
 | stale => exact absurd h.symm k_ts
 | other k vs => exact absurd h o.2.2.1
theorem RowAt.alike {H : Hp} {a : Addr} {r : Rw} (h : RowAt H a r) : Alike H 2 (.ref a) (.ref a) := by
 obtain ⟨o, p, h1, h2⟩ := h
 refine .inr ⟨a, a, _, _, rfl, rfl, .inr ⟨h1, h1⟩, rfl, ?_, fun i x y hx hy => ?_⟩
 ·cases r with
  | other k vs =>
   obtain ⟨_, _, _, _, o, _⟩ := o
   show vs.length + 1 ≤ 1000
   omega
  | _ => simp [Rw.vals, Rw.rest]
 ·rw [hx] at hy
  cases hy
  have hm := List.mem_of_getElem? hx
  have pl : z2v x ∨ (x = .ref p ∧ r.kind = "given") := by
   cases r with
   | other k vs =>
    rcases List.mem_cons.mp hm with rfl | hm
    ·exact .inl (.inr (.inl ⟨_, rfl⟩))
    ·exact .inl (o.2.2.2.2.2 x hm)
   | _ =>
    simp only [Rw.vals, Rw.rest, List.mem_cons, List.not_mem_nil, or_false] at hm
    first
     | (rcases hm with rfl | rfl | rfl | rfl | rfl | rfl | rfl | rfl <;> first | exact .inr ⟨rfl, rfl⟩ | exact .inl (.inl ⟨_, rfl⟩) | exact .inl (.inr (.inl ⟨_, rfl⟩)) | exact .inl (.inr (.inr ⟨_, rfl⟩)))
     | (rcases hm with rfl | rfl | rfl | rfl | rfl | rfl | rfl <;> first | exact .inr ⟨rfl, rfl⟩ | exact .inl (.inl ⟨_, rfl⟩) | exact .inl (.inr (.inl ⟨_, rfl⟩)) | exact .inl (.inr (.inr ⟨_, rfl⟩)))
     | (rcases hm with rfl | rfl | rfl | rfl | rfl <;> first | exact .inr ⟨rfl, rfl⟩ | exact .inl (.inl ⟨_, rfl⟩) | exact .inl (.inr (.inl ⟨_, rfl⟩)) | exact .inl (.inr (.inr ⟨_, rfl⟩)))
  rcases pl with pl | ⟨rfl, hg⟩
  ·exact .inl ⟨rfl, pl⟩
  ·refine .inr ⟨p, p, _, _, rfl, rfl, .inr ⟨h2 hg, h2 hg⟩, rfl, by decide, fun i x y hx hy => ?_⟩
   rw [hx] at hy
   cases hy
   have hm := List.mem_of_getElem? hx
   simp only [List.mem_cons, List.not_mem_nil, or_false] at hm
   rcases hm with rfl | rfl
   ·exact ⟨rfl, .inl ⟨_, rfl⟩⟩
   ·exact ⟨rfl, .inl ⟨_, rfl⟩⟩
theorem zac {H : Hp} {a b : Addr} {L : LL} (ha : H a = some (.lst (refl L))) (hb : H b = some (.lst (refl L))) (h : RowsAt H L) (hl : L.length ≤ 1000) : Alike H 3 (.ref a) (.ref b) := by
 refine .inr ⟨a, b, _, _, rfl, rfl, .inl ⟨ha, hb⟩, rfl, by rw [z14]; exact hl, fun i x y hx hy => ?_⟩
 rw [hx] at hy
 cases hy
 obtain ⟨q, hq, rfl⟩ := z2k hx
 exact (h q (List.mem_of_getElem? hq)).alike
abbrev TL := List (Addr × List V)
def reft (L : TL) : List V := L.map fun q => V.ref q.1
structure TupsAt (H : Hp) (L : TL) : Prop where
 tu : ∀ q ∈ L, H q.1 = some (.tup q.2)
 sm : ∀ q ∈ L, q.2.length ≤ 10 ∧ ∀ x ∈ q.2, z2v x
theorem TupsAt.mono {H H' : Hp} {L : TL} (h : TupsAt H L) (s : Same H H') : TupsAt H' L := ⟨fun q hq => s _ _ (h.tu q hq), h.sm⟩
theorem TupsAt.but {H H' : Hp} {L : TL} {a : Addr} {xs : List V} (h : TupsAt H L) (ha : H a = some (.lst xs)) (s : But a H H') : TupsAt H' L :=
 ⟨fun q hq => s _ _ (h.tu q hq) (fun z => by rw [← z, h.tu q hq] at ha; cases ha), h.sm⟩
theorem z35 (L : TL) : (reft L).length = L.length := List.length_map _
theorem z7m {L : TL} {i : Nat} {x : V} (h : (reft L)[i]? = some x) : ∃ q, L[i]? = some q ∧ x = .ref q.1 := by
 unfold reft at h
 rw [List.getElem?_map] at h
 cases e : L[i]? with
 | none => rw [e] at h; cases h
 | some q => rw [e] at h; exact ⟨q, rfl, (Option.some.inj h).symm⟩
theorem z9l {H : Hp} {a b : Addr} {L M : TL} (ha : H a = some (.lst (reft L))) (hb : H b = some (.lst (reft M))) (hL : TupsAt H L) (hM : TupsAt H M) (e : L.map (·.2) = M.map (·.2)) (hl : L.length ≤ 1000) : Alike H 3 (.ref a) (.ref b) := by
 have hlm : L.length = M.length := by have := congrArg List.length e; simpa using this
 refine .inr ⟨a, b, _, _, rfl, rfl, .inl ⟨ha, hb⟩, by rw [z35, z35]; exact hlm, by rw [z35]; exact hl, fun i x y hx hy => ?_⟩
 obtain ⟨q, hq, rfl⟩ := z7m hx
 obtain ⟨r, hr, rfl⟩ := z7m hy
 have ee : q.2 = r.2 := by
  have h1 : (L.map (·.2))[i]? = (M.map (·.2))[i]? := by rw [e]
  rw [List.getElem?_map, List.getElem?_map, hq, hr] at h1
  simpa using h1
 have t1 := hL.tu q (List.mem_of_getElem? hq)
 have t2 := hM.tu r (List.mem_of_getElem? hr)
 have s1 := hL.sm q (List.mem_of_getElem? hq)
 rw [← ee] at t2
 refine .inr ⟨_, _, _, _, rfl, rfl, .inr ⟨t1, t2⟩, rfl, by omega, fun j x y hx hy => ?_⟩
 rw [hx] at hy
 cases hy
 exact .inl ⟨rfl, s1.2 x (List.mem_of_getElem? hx)⟩
theorem RowAt.upd {H : Hp} {a p : Addr} {r : Rw} {xs : List V} {o : HO} (h : RowAt H a r) (hp : H p = some (.lst xs)) : RowAt (upd H p o) a r := by
 obtain ⟨ok, p', h1, h2⟩ := h
 have n1 : a ≠ p := fun z => by rw [z, hp] at h1; cases h1
 refine ⟨ok, p', by rw [zc n1]; exact h1, fun k => ?_⟩
 have n2 : p' ≠ p := fun z => by have := h2 k; rw [z, hp] at this; cases this
 rw [zc n2]
 exact h2 k
def Rw.short : Rw → Prop
 | .given _ _ l _ _ _ => l.length ≤ 1000
 | _ => True
def spAt (K : PySem.W.Frag) : Sp := fun vs H Q _ => ∃ (p : Addr) (ns : List Int) (k : Nat), vs = [.ref p, .int k] ∧ SqL K H p (ns.map V.int) ∧ ns.length ≤ 1000 ∧ Q (.int (ns.getD k 0)) H
theorem z9m (F : Def K mg "_law_at" z47 ["_law_script", "_law_k"]) (T : Txt K mg Pt_writes cd_writes) : Has P w K mg base 1 "_law_at" ["_law_script", "_law_k"] (spAt K) := by
 refine F.ok z9k (fun vs H Q E h => ?_) (fun f cdv A outer s H vs Q E hr h => ?_)
 ·obtain ⟨p, ns, k, rfl, _⟩ := h
  rfl
 ·obtain ⟨p, ns, k, rfl, hp, hl, q⟩ := h
  refine ⟨_, (@zb _ _ _ _ _ (@z10 _ _ _ _ _ _ _ _ (@zl _ _ _ _ _ _ _ _ zb7 (pv 1) (@zd _ _ _ _ _ _ _ _ _ zy rfl T.b_len (by decide +kernel) (@z0 _ _ _ _ _ (pv 0) z8 rfl) (by decide) (by decide) rfl rfl) (zj _)) (@zg _ _ _ (@zv _ _ _ _ (@zn _ _ _ _ _ _ _ ix_list (pv 0) (pv 1) (fun _ _ => rfl)))) zr) (@zg _ _ _ (@zv _ _ _ _ z7))), ?_⟩
  walk_at "rd"
  refine ⟨_, .inl hp, ?_⟩
  rw [List.length_map]
  by_cases hk : k < ns.length
  ·rw [if_pos (by simpa using hk)]
   refine ⟨p, _, _, _, rfl, rfl, hp, zi (v := .int (ns.getD k 0)) ?_, q⟩
   rw [List.getElem?_map, List.getD_eq_getElem?_getD, List.getElem?_eq_getElem hk]
   rfl
  ·rw [if_neg (by simpa using hk)]
   have e : ns.getD k 0 = 0 := by rw [List.getD_eq_getElem?_getD, List.getElem?_eq_none (by omega)]; rfl
   rw [← e]
   exact q
def abc : Str := "abcdefghijklmnopqrstuvwxyz0123456789"
theorem zbr : ∀ n, n < 36 → ∃ c, abc.cps.toList[n]? = some c := by
 intro n hn
 have l : abc.cps.toList.length = 36 := by decide +kernel
 exact ⟨_, List.getElem?_eq_getElem (by omega)⟩
theorem zc7 (j : Int) (h0 : 0 ≤ j) (h1 : j < 36) : ∃ c, atI abc.cps.toList j = some c := by
 obtain ⟨n, rfl⟩ := Int.eq_ofNat_of_zero_le h0
 obtain ⟨c, hc⟩ := zbr n (by omega)
 exact ⟨c, zi hc⟩
theorem zc8 {d : Nat} {n : Nat} (h : n ≤ 100) : MulOk ⟨#[d]⟩ (n : Int) := by
 have f : ∀ m : _root_.Fin 101, (decide ((m.val : Int) < 1) || (decide (¬ ((1 : Int) > (2 ^ 63 - 1) / (m.val : Int))) && (Builtin.Str.tooLong (1 * m.val) == false))) = true := by decide +kernel
 have g := f ⟨n, by omega⟩
 dsimp only at g
 rw [Bool.or_eq_true, Bool.and_eq_true] at g
 have l : (⟨#[d]⟩ : Str).length = 1 := rfl
 refine ⟨?_, fun h1 _ => ?_, fun h1 _ => ?_⟩
 ·rw [Bool.or_eq_false_iff]
  exact ⟨decide_eq_false (by omega), decide_eq_false (by omega)⟩
 ·rcases g with g | g
  ·exact absurd (of_decide_eq_true g) h1
  ·rw [l]
   exact of_decide_eq_true g.1
 ·rcases g with g | g
  ·exact absurd (of_decide_eq_true g) h1
  ·rw [l, Int.toNat_natCast]
   exact eq_of_beq g.2
theorem z7n (d : Nat) : ∀ (m : Nat) (acc : Array Nat), ((List.replicate m #[d]).foldl (· ++ ·) acc).size = acc.size + m
 | 0, acc => rfl
 | m + 1, acc => by
  rw [List.replicate_succ, List.foldl_cons, z7n d m, Array.size_append]
  show acc.size + 1 + m = _
  omega
theorem zbs (d n : Nat) : (Txt.mul ⟨#[d]⟩ (n : Int)).length = n := by
 unfold Txt.mul
 by_cases h1 : (n : Int) < 1
 ·rw [if_pos h1]
  have : n = 0 := by omega
  subst this
  rfl
 ·rw [if_neg h1]
  by_cases h2 : n = 1
  ·subst h2
   rfl
  ·rw [if_neg (by simp; exact ⟨by omega, by show ¬ (1 = 0); decide⟩)]
   show ((List.replicate (n : Int).toNat #[d]).foldl (· ++ ·) #[]).size = n
   rw [z7n, Int.toNat_natCast]
   show 0 + n = n
   omega
def z5m : Sp := fun vs H Q _ => ∃ (c : Int) (k : Nat), vs = [.int c, .int k] ∧ k ≤ 10 ∧ ∀ z : Str, z.length ≤ 16 → Q (.str z) H
theorem z7o (F : Def K mg "_law_name" z3b ["_law_cell", "_law_k"]) (T : Txt K mg Pt_writes cd_writes) : Has P w K mg base 1 "_law_name" ["_law_cell", "_law_k"] (z5m) := by
 refine F.ok sc__law_name (fun vs H Q E h => ?_) (fun f cdv A outer s H vs Q E hr h => ?_)
 ·obtain ⟨c, k, rfl, _⟩ := h
  rfl
 ·obtain ⟨c, k, rfl, hk, q⟩ := h
  have hu := hr.units0
  refine ⟨_, (@zb _ _ _ _ _ (@zq _ _ 2 _ _ _ _ sc__law_name.nd rfl (Or.inl rfl) z18 rfl (Or.inr rfl)) (@zb _ _ _ _ _ (@zq _ _ 3 _ _ _ _ sc__law_name.nd rfl (Or.inl rfl) (@z9 _ _ _ _ _ _ _ _ zz (pv 0) z7) rfl (Or.inr rfl)) (@zb _ _ _ _ _ (@z10 _ _ _ _ _ _ _ _ (@zl _ _ _ _ _ _ _ _ z11 (@z9 _ _ _ _ _ _ _ _ zm (pv 0) z7) z7 (zj _)) (@zg _ _ _ (@zv _ _ _ _ (@z9 _ _ _ _ _ _ _ _ z94 (@zn _ _ _ _ _ _ _ z58 (pv 2) (@z9 _ _ _ _ _ _ _ _ zm (pv 3) z7) (fun _ _ => rfl)) (@z9 _ _ _ _ _ _ _ _ z1c (pv 1) z7)))) zr) (@zb _ _ _ _ _ (@z10 _ _ _ _ _ _ _ _ (@zl _ _ _ _ _ _ _ _ z11 (@z9 _ _ _ _ _ _ _ _ zm (pv 0) z7) z7 (zj _)) (@zg _ _ _ (@zv _ _ _ _ (@z9 _ _ _ _ _ _ _ _ z2u (@zn _ _ _ _ _ _ _ z58 (pv 2) (@z9 _ _ _ _ _ _ _ _ zm (@z9 _ _ _ _ _ _ _ _ z1c (pv 3) (@z9 _ _ _ _ _ _ _ _ z55 z7 (pv 1))) z7) (fun _ _ => rfl)) (@zai _ _ _ _ _ _ _ _ _ _ zc4 z18 zbh (@zbi _ _ _ (@z9 _ _ _ _ _ _ _ _ zm (@z9 _ _ _ _ _ _ _ _ z1c (@z9 _ _ _ _ _ _ _ _ zz (pv 3) z7) (@z9 _ _ _ _ _ _ _ _ z55 z7 (pv 1))) z7)))))) zr) (@zb _ _ _ _ _ (@zq _ _ 4 _ _ _ _ sc__law_name.nd rfl (Or.inl rfl) (@z9 _ _ _ _ _ _ _ _ z1c z7 (@z9 _ _ _ _ _ _ _ _ zm (pv 3) z7)) rfl (Or.inr rfl)) (@zb _ _ _ _ _ (@zq _ _ 5 _ _ _ _ sc__law_name.nd rfl (Or.inl rfl) (@z9 _ _ _ _ _ _ _ _ zm (@z9 _ _ _ _ _ _ _ _ zz (pv 3) z7) (pv 4)) rfl (Or.inr rfl)) (@zb _ _ _ _ _ (@zq _ _ 6 _ _ _ _ sc__law_name.nd rfl (Or.inl rfl) z18 rfl (Or.inr rfl)) (@zb _ _ _ _ _ (@z3i _ _ _ _ _ _ _ _ PassesOwn.never rfl (@z1s _ _ _ _ _ _ rfl T.b_range (@z0 _ _ _ _ _ (pv 4) z8 rfl) rfl) (@z1n _ _ 7 _ sc__law_name.nd rfl (Or.inl rfl) (Or.inr rfl)) (@zb _ _ _ _ _ (@zq _ _ 8 _ _ _ _ sc__law_name.nd rfl (Or.inl rfl) (@z9 _ _ _ _ _ _ _ _ z1c (@z9 _ _ _ _ _ _ _ _ zz (pv 3) z7) (@z9 _ _ _ _ _ _ _ _ z55 z7 (pv 7))) rfl (Or.inr rfl)) (@z2b _ _ _ _ _ (@z10 _ _ _ _ _ _ _ _ (@zl _ _ _ _ _ _ _ _ z11 (pv 7) (pv 5) (zj _)) (@zg _ _ _ (@zq _ _ 8 _ _ _ _ sc__law_name.nd rfl (Or.inl rfl) (@z9 _ _ _ _ _ _ _ _ z1c (@z9 _ _ _ _ _ _ _ _ zz (pv 3) z7) (@z9 _ _ _ _ _ _ _ _ z55 z7 (pv 1))) rfl (Or.inr rfl))) zr) (@zg _ _ _ (@zq _ _ 6 _ _ _ _ sc__law_name.nd rfl (Or.inl rfl) (@z9 _ _ _ _ _ _ _ _ z2u (pv 6) (@zn _ _ _ _ _ _ _ z58 (pv 2) (@z9 _ _ _ _ _ _ _ _ zm (pv 8) z7) (fun _ _ => rfl))) rfl (Or.inr rfl))))) (by intro _; rfl)) (@zg _ _ _ (@zv _ _ _ _ (pv 6))))))))))), ?_⟩
  walk_at "rd"
  have sgn : ∀ (j : Int) (R : VK), 0 ≤ j → j < 36 → (∀ d : Nat, R (.str ⟨#[d]⟩) H) → rIxS (V.str "abcdefghijklmnopqrstuvwxyz0123456789") (V.int j) H R := fun j R h0 h1 k => by
   obtain ⟨d, hd⟩ := zc7 j h0 h1
   exact ⟨abc, _, d, rfl, rfl, by decide, hd, k d⟩
  refine ⟨cdiv (by decide) (by decide), by decide, ite2 (fun _ => ?_) (fun _ => ⟨by decide, ite2 (fun _ => ?_) (fun _ => ?_)⟩)⟩
  ·have e7 : (k : Int) + 1 = ((k + 1 : Nat) : Int) := by omega
   rw [e7]
   refine ⟨by decide, sgn _ _ (by omega) (by omega) fun d => ⟨_, rfl, zc8 (by omega), q _ ?_⟩⟩
   rw [zbs]
   omega
  ·have l7 : ∀ u, (Txt.slice ("k0stemz" : Str) none u).length ≤ 7 := fun u => Txt.slice_le _ _ _
   refine ⟨.inl ⟨by decide, by decide⟩, by decide, sgn _ _ (by omega) (by omega) fun d => ⟨cdiv (by decide) (by decide), .inl ⟨by decide, by decide⟩, by decide, by decide, _, rfl, ?_, q _ ?_⟩⟩
   ·have := l7 (some ((c / 3 / 36 + 3 * (k : Int)) % 8))
    exact ze (by show 1 + _ ≤ _; omega)
   ·have := l7 (some ((c / 3 / 36 + 3 * (k : Int)) % 8))
    rw [PySem.Str.length_append]
    show 1 + _ ≤ _
    omega
  ·refine ⟨by decide, cdiv (by decide) (by decide), by omega, ⟨by omega, by omega⟩, ?_⟩
   refine z2l (fun i σ H' => H' = H ∧ ∃ (z : Str) (v v' : Option V), σ = [some (V.int c), some (V.int k), some (V.str "abcdefghijklmnopqrstuvwxyz0123456789"), some (V.int (c / 3)), some (V.int (1 + c / 3 % 8)), some (V.int (c / 3 / 8 % (1 + c / 3 % 8))), some (V.str z), v, v'] ∧ z.length = i) ⟨rfl, _, _, _, rfl, rfl⟩ ?_ ?_
   ·rintro Pv hP i σ H' hi ⟨rfl, z, v, v', rfl, hz⟩
    walk_at "rd"
    refine ⟨cdiv (by decide) (by decide), .inl ⟨by decide, by decide⟩, ?_⟩
    refine z3p (fun σ H2 => H2 = H' ∧ ∃ (r : Int), σ = [some (V.int c), some (V.int k), some (V.str "abcdefghijklmnopqrstuvwxyz0123456789"), some (V.int (c / 3)), some (V.int (1 + c / 3 % 8)), some (V.int (c / 3 / 8 % (1 + c / 3 % 8))), some (V.str z), some (V.int (0 + i)), some (V.int r)]) (fun Mid hM => ?_) ?_
    ·walk_at "rd"
     exact ite2 (fun _ => ⟨cdiv (by decide) (by decide), .inl ⟨by decide, by decide⟩, hM _ _ ⟨rfl, _, rfl⟩⟩) (fun _ => hM _ _ ⟨rfl, _, rfl⟩)
    ·rintro σ H2 ⟨rfl, r, rfl⟩
     walk_at "rd"
     refine ⟨by decide, sgn _ _ (by omega) (by omega) fun d => ⟨_, rfl, ze (by show _ + 1 ≤ _; omega), hP _ _ _ ⟨rfl, _, _, _, rfl, ?_⟩⟩⟩
     rw [PySem.Str.length_append]
     show _ + 1 = _
     omega
   ·rintro σ H' ⟨rfl, z, v, v', rfl, hz⟩
    walk_at "rd"
    exact q z (by omega)
def z8m : Sp := fun vs H Q _ => ∃ (c : Int) (m : Nat), vs = [.int c, .int m] ∧ m ≤ 10 ∧ ∀ (r : Addr) (zs : List Str) (H' : Hp), zs.length = m → (∀ z ∈ zs, z.length ≤ 16) → H r = none → H' r = some (.lst (zs.map V.str)) → Same H H' → Q (.ref r) H'
theorem z6q (F : Def K mg "_law_names" z33 ["_law_cell", "_law_many"]) (T : Txt K mg Pt_writes cd_writes) (G__law_name : Has P w K mg base 1 "_law_name" ["_law_cell", "_law_k"] (z5m)) : Has P w K mg base 2 "_law_names" ["_law_cell", "_law_many"] (z8m) := by
 refine F.ok z6p (fun vs H Q E h => ?_) (fun f cdv A outer s H vs Q E hr h => ?_)
 ·obtain ⟨c, m, rfl, _⟩ := h
  rfl
 ·obtain ⟨c, m, rfl, hm, q⟩ := h
  have hu := hr.units0
  refine ⟨_, (@zg _ _ _ (@zv _ _ _ _ (@z3k _ _ "_law_k" (["_law_cell"]) ([0]) _ _ _ _ _ _ _ _ rfl ⟨rfl, by decide +kernel, by decide +kernel, rfl, z1l rfl, by decide +kernel, ⟨⟨rfl, Or.inl rfl, rfl⟩, trivial⟩⟩ (@z1s _ _ _ _ _ _ rfl T.b_range (@z0 _ _ _ _ _ (pv 1) z8 rfl) rfl) (fun _ _ _ _ => z4d) (fun _ _ _ _ => (@z1f _ _ _ _ _ _ _ _ _ _ G__law_name (hr.mono (by decide)) rfl (@z0 _ _ _ _ _ (pv 1) (@z0 _ _ _ _ _ (pv 0) z8 rfl) rfl) (by decide) rfl rfl)) (by intro _; rfl)))), ?_⟩
  walk_at "rd"
  refine ⟨⟨by omega, by omega⟩, ?_⟩
  rw [Int.toNat_natCast]
  refine z2z (ze (by omega)) (fun i acc H' => H' = H ∧ ∃ zs : List Str, acc = zs.map V.str ∧ zs.length = i ∧ ∀ z ∈ zs, z.length ≤ 16) ⟨rfl, [], rfl, rfl, by simp⟩ ?_ ?_ ?_
  ·rintro i acc H' ⟨-, zs, rfl, rfl, -⟩
   rw [List.length_map]
   exact Nat.le_refl _
  ·rintro Nn i acc H' hN hi ⟨rfl, zs, rfl, hl, hz⟩
   walk_at "rd"
   refine ⟨c, i, by simp, by omega, fun z hz' => hN _ _ ⟨rfl, zs ++ [z], by simp, by simp [hl], ?_⟩⟩
   intro y hy
   rcases List.mem_append.mp hy with h | h
   ·exact hz y h
   ·have : y = z := by simpa using h
    rw [this]
    exact hz'
  ·rintro acc H' ⟨rfl, zs, rfl, hl, hz⟩ p hp
   exact q p zs _ hl hz hp za (Same.upd hp)
def z8n : Sp := fun vs H Q _ => ∃ (c w' : Int) (m : Nat), vs = [.int c, .int w', .int m] ∧ m ≤ 10 ∧ ∀ (r : Addr) (zs : List Str) (H' : Hp), zs.length = m → (∀ z ∈ zs, z.length ≤ 200) → H r = none → H' r = some (.lst (zs.map V.str)) → Same H H' → Q (.ref r) H'
theorem z6r (F : Def K mg "_law_locks" z34 ["_law_cell", "_law_words", "_law_many"]) (T : Txt K mg Pt_writes cd_writes) (G__law_name : Has P w K mg base 1 "_law_name" ["_law_cell", "_law_k"] (z5m)) : Has P w K mg base 2 "_law_locks" ["_law_cell", "_law_words", "_law_many"] (z8n) := by
 refine F.ok sc__law_locks (fun vs H Q E h => ?_) (fun f cdv A outer s H vs Q E hr h => ?_)
 ·obtain ⟨c, w', m, rfl, _⟩ := h
  rfl
 ·obtain ⟨c, w', m, rfl, hm, q⟩ := h
  have hu := hr.units0
  refine ⟨_, (@zb _ _ _ _ _ (@zq _ _ 3 _ _ _ _ sc__law_locks.nd rfl (Or.inl rfl) (@z1x _ _ _ _ z8) rfl (Or.inr rfl)) (@zb _ _ _ _ _ (@zq _ _ 4 _ _ _ _ sc__law_locks.nd rfl (Or.inl rfl) (@z9 _ _ _ _ _ _ _ _ zz (pv 0) z7) rfl (Or.inr rfl)) (@zb _ _ _ _ _ (@z3i _ _ _ _ _ _ _ _ PassesOwn.never rfl (@z1s _ _ _ _ _ _ rfl T.b_range (@z0 _ _ _ _ _ (pv 2) z8 rfl) rfl) (@z1n _ _ 5 _ sc__law_locks.nd rfl (Or.inl rfl) (Or.inr rfl)) (@zb _ _ _ _ _ (@zq _ _ 6 _ _ _ _ sc__law_locks.nd rfl (Or.inl rfl) (@zca _ _ _ _ _ _ zc0 z7) rfl (Or.inr rfl)) (@z2b _ _ _ _ _ (@z10 _ _ _ _ _ _ _ _ (@zl _ _ _ _ _ _ _ _ z11 (@z9 _ _ _ _ _ _ _ _ zm (pv 0) z7) z7 (zj _)) (@zg _ _ _ (@zq _ _ 6 _ _ _ _ sc__law_locks.nd rfl (Or.inl rfl) (@z9 _ _ _ _ _ _ _ _ z3j (pv 5) z7) rfl (Or.inr rfl))) zr) (@z2b _ _ _ _ _ (@z10 _ _ _ _ _ _ _ _ (@zl _ _ _ _ _ _ _ _ z11 (@z9 _ _ _ _ _ _ _ _ zm (pv 0) z7) z7 (zj _)) (@zg _ _ _ (@zq _ _ 6 _ _ _ _ sc__law_locks.nd rfl (Or.inl rfl) (@z9 _ _ _ _ _ _ _ _ z3j (@zd _ _ _ _ _ _ _ _ _ (z9v rfl) rfl T.b_min (by decide +kernel) (@z0 _ _ _ _ _ (pv 5) (@z0 _ _ _ _ _ z7 z8 rfl) rfl) (by decide) (by decide) rfl rfl) z7) rfl (Or.inr rfl))) zr) (@z2b _ _ _ _ _ (@z10 _ _ _ _ _ _ _ _ (@zl _ _ _ _ _ _ _ _ z11 (@z9 _ _ _ _ _ _ _ _ zm (pv 0) z7) z7 (zj _)) (@zg _ _ _ (@zq _ _ 6 _ _ _ _ sc__law_locks.nd rfl (Or.inl rfl) (@z9 _ _ _ _ _ _ _ _ zz (@z9 _ _ _ _ _ _ _ _ z3j (pv 5) z7) z7) rfl (Or.inr rfl))) zr) (@z2b _ _ _ _ _ (@z10 _ _ _ _ _ _ _ _ (@zl _ _ _ _ _ _ _ _ zb9 (@z9 _ _ _ _ _ _ _ _ zm (pv 0) z7) z7 (zj _)) (@zb _ _ _ _ _ (@zq _ _ 6 _ _ _ _ sc__law_locks.nd rfl (Or.inl rfl) (@z9 _ _ _ _ _ _ _ _ z3j (@z9 _ _ _ _ _ _ _ _ zm (pv 4) (@z9 _ _ _ _ _ _ _ _ z1c (pv 5) z7)) z7) rfl (Or.inr rfl)) (@zg _ _ _ (@zq _ _ 4 _ _ _ _ sc__law_locks.nd rfl (Or.inl rfl) (@z9 _ _ _ _ _ _ _ _ zz (pv 4) (@z9 _ _ _ _ _ _ _ _ z1c (pv 5) z7)) rfl (Or.inr rfl)))) zr) (@zb _ _ _ _ _ (@zq _ _ 7 _ _ _ _ sc__law_locks.nd rfl (Or.inl rfl) (@z1f _ _ _ _ _ _ _ _ _ _ G__law_name (hr.mono (by decide)) rfl (@z0 _ _ _ _ _ (pv 1) (@z0 _ _ _ _ _ (pv 5) z8 rfl) rfl) (by decide) rfl rfl) rfl (Or.inr rfl)) (@z2b _ _ _ _ _ (@z10 _ _ _ _ _ _ _ _ (PW.pt (@z3e _ _ _ _ _ _ _ (@zl _ _ _ _ _ _ _ _ zb9 (pv 6) z7 (zj _)) (@z4a _ _ _ _ (@zl _ _ _ _ _ _ _ _ zb7 (@z4c _ _ _ _ _ _ _ _ _ _ _ _ PySem.F.plainAttrs_str PySem.F.slot_str_count PySem.F.type_str_count zaj (@zn _ _ _ _ _ _ _ ix_list (pv 3) (pv 6) (fun _ _ => rfl)) (@z0 _ _ _ _ _ z18 z8 rfl) rfl rfl rfl rfl rfl) z7 (zj _))))) (@zg _ _ _ (@zq _ _ 7 _ _ _ _ sc__law_locks.nd rfl (Or.inl rfl) (@z9 _ _ _ _ _ _ _ _ z2u (@z9 _ _ _ _ _ _ _ _ z2u (@zn _ _ _ _ _ _ _ ix_list (pv 3) (pv 6) (fun _ _ => rfl)) z18) (pv 7)) rfl (Or.inr rfl))) zr) (@zg _ _ _ (@z3f _ _ _ _ (@z4c _ _ _ _ _ _ _ _ _ _ _ _ PySem.F.plainAttrs_list PySem.F.slot_list_append PySem.F.type_list_append z2o (pv 3) (@z0 _ _ _ _ _ (pv 7) z8 rfl) rfl rfl rfl rfl rfl) rfl))))))))) (by intro _; rfl)) (@zg _ _ _ (@zv _ _ _ _ (pv 3)))))), ?_⟩
  walk_at "rd"
  refine ⟨by decide, fun p hp => ⟨cdiv (by decide) (by decide), ⟨by omega, by omega⟩, ?_⟩⟩
  rw [Int.toNat_natCast]
  let Inv := fun (i : Nat) (zs : List Str) (H' : Hp) => zs.length = i ∧ (∀ z ∈ zs, z.length ≤ 20 * i) ∧ H' p = some (.lst (zs.map V.str)) ∧ Same H H'
  refine z2l (fun i σ H' => ∃ (zs : List Str) (r : Int) (v5 v6 v7 : Option V), σ = [some (.int c), some (.int w'), some (.int m), some (.ref p), some (.int r), v5, v6, v7] ∧ Inv i zs H') ⟨[], _, _, _, _, rfl, rfl, (fun z hz => by cases hz), za, Same.upd hp⟩ ?_ ?_
  ·rintro Pv hP i σ H' hi ⟨zs, r, v5, v6, v7, rfl, hI⟩
   walk_at "rd"
   refine z3p (fun σ H2 => H' = H2 ∧ ∃ (pa r : Int), -1 ≤ pa ∧ pa < i ∧ σ = [some (.int c), some (.int w'), some (.int m), some (.ref p), some (.int r), some (.int (0 + i)), some (.int pa), v7]) (fun Mid hM => ?_) ?_
   ·walk_at "rd"
    exact ⟨by decide, ite2 (fun _ => hM _ _ ⟨rfl, _, _, by omega, by omega, rfl⟩) (fun _ => hM _ _ ⟨rfl, _, _, by omega, by omega, rfl⟩)⟩
   rintro σ H2 ⟨rfl, pa, r, p1, p2, rfl⟩
   refine z3p (fun σ H2 => H' = H2 ∧ ∃ (pa r : Int), -1 ≤ pa ∧ pa < i ∧ σ = [some (.int c), some (.int w'), some (.int m), some (.ref p), some (.int r), some (.int (0 + i)), some (.int pa), v7]) (fun Mid hM => ?_) ?_
   ·walk_at "rd"
    refine ⟨by decide, ite2 (fun _ => ⟨_, _, ⟨rfl, rfl⟩, hM _ _ ⟨rfl, _, _, ?_, ?_, rfl⟩⟩) (fun _ => hM _ _ ⟨rfl, _, _, p1, p2, rfl⟩)⟩ <;> (split <;> omega)
   rintro σ H2 ⟨rfl, pa, r, p1, p2, rfl⟩
   refine z3p (fun σ H2 => H' = H2 ∧ ∃ (pa r : Int), -1 ≤ pa ∧ pa < i ∧ σ = [some (.int c), some (.int w'), some (.int m), some (.ref p), some (.int r), some (.int (0 + i)), some (.int pa), v7]) (fun Mid hM => ?_) ?_
   ·walk_at "rd"
    exact ⟨by decide, ite2 (fun _ => ⟨cdiv (by decide) (by decide), hM _ _ ⟨rfl, _, _, by omega, by omega, rfl⟩⟩) (fun _ => hM _ _ ⟨rfl, _, _, p1, p2, rfl⟩)⟩
   rintro σ H2 ⟨rfl, pa, r, p1, p2, rfl⟩
   refine z3p (fun σ H2 => H' = H2 ∧ ∃ (pa r : Int), -1 ≤ pa ∧ pa < i ∧ σ = [some (.int c), some (.int w'), some (.int m), some (.ref p), some (.int r), some (.int (0 + i)), some (.int pa), v7]) (fun Mid hM => ?_) ?_
   ·walk_at "rd"
    have b1 := Int.emod_nonneg r (b := 0 + (i : Int) + 1) (by omega)
    have b2 := Int.emod_lt_of_pos r (b := 0 + (i : Int) + 1) (by omega)
    exact ⟨by decide, ite2 (fun _ => ⟨by omega, cdiv (by omega) (by omega), hM _ _ ⟨rfl, _, _, by omega, by omega, rfl⟩⟩) (fun _ => hM _ _ ⟨rfl, _, _, p1, p2, rfl⟩)⟩
   rintro σ H2 ⟨rfl, pa, r, p1, p2, rfl⟩
   obtain ⟨hl, hz, hg, hs⟩ := hI
   walk_at "rd"
   refine ⟨w', i, by simp, by omega, fun z hz16 => ?_⟩
   refine z3p (fun σ H2 => H' = H2 ∧ ∃ z : Str, z.length ≤ 20 * (i + 1) ∧ σ = [some (.int c), some (.int w'), some (.int m), some (.ref p), some (.int r), some (.int (0 + i)), some (.int pa), some (.str z)]) (fun Mid hM => ?_) ?_
   ·walk_at "rd"
    refine ite2 (fun h0 => ?_) (fun _ => hM _ _ ⟨rfl, z, by omega, rfl⟩)
    obtain ⟨n, rfl⟩ := Int.eq_ofNat_of_zero_le (of_decide_eq_true h0)
    have hn : n < zs.length := by omega
    have gn : (zs.map V.str)[n]? = some (.str zs[n]) := by rw [List.getElem?_map, List.getElem?_eq_getElem hn]; rfl
    have bn := hz _ (List.getElem_mem hn)
    have l1 : ("/" : Str).length = 1 := rfl
    refine ⟨_, _, _, _, rfl, rfl, SqL.of hg, zi gn, trivial, _, rfl, ite2 (fun _ => ?_) (fun _ => hM _ _ ⟨rfl, z, by omega, rfl⟩)⟩
    refine ⟨_, _, _, _, rfl, rfl, SqL.of hg, zi gn, _, rfl, ze (by omega), ze (by rw [PySem.Str.length_append]; omega), hM _ _ ⟨rfl, _, ?_, rfl⟩⟩
    rw [PySem.Str.length_append, PySem.Str.length_append]
    omega
   rintro σ H2 ⟨rfl, y, hy, rfl⟩
   walk_at "rd"
   refine ⟨.inl ⟨_, SqL.of hg⟩, _, _, _, rfl, rfl, hg, by rw [List.length_map]; exact z36 (by omega), hP _ _ _ ⟨zs ++ [y], _, _, _, _, rfl, by simp [hl], fun x hx => ?_, ?_, ?_⟩⟩
   ·rcases List.mem_append.mp hx with h | h
    ·have := hz x h
     omega
    ·have : x = y := by simpa using h
     rw [this]
     exact hy
   ·rw [za, List.map_append]
    rfl
   ·intro b o e
    rw [zc (zf e hp)]
    exact hs b o e
  ·rintro σ H' ⟨zs, r, v5, v6, v7, rfl, hl, hz, hg, hs⟩
   walk_at "rd"
   exact q p zs H' hl (fun z h => by have := hz z h; omega) hp hg hs
def Rw.shortN : Rw → Prop
 | .given _ _ l _ n _ => l.length ≤ 1000 ∧ 0 ≤ n
 | .taken _ _ _ n _ _ => 0 ≤ n
 | .other _ vs => ∃ t r, vs = .int t :: r
 | _ => True
def zbc (K : PySem.W.Frag) : Sp := fun vs H Q _ => ∃ (a : Addr) (ns : List Int), vs = [.ref a, .int 3] ∧ SqL K H a (ns.map V.int) ∧ ns.length ≤ 63 ∧ ∀ (r : Addr) (L : LL) (H' : Hp), L.length ≤ 63 → H' r = some (.lst (refl L)) → RowsAt H' L → (∀ z ∈ L, z.2.shortN) → Same H H' → Q (.ref r) H'
def isW (r : Rw) : Bool := match r with | .taken .. => true | _ => false
theorem z5z {r : Rw} (h : isW r = true) : ∃ t h l n s v, r = .taken t h l n s v := by
 cases r with
 | taken t h l n s v => exact ⟨_, _, _, _, _, _, rfl⟩
 | _ => cases h
theorem z7p {r : Rw} (h : r.kind ≠ "taken") : isW r = false := by
 cases r <;> first | rfl | exact absurd rfl h
def numW : Rw → Int
 | .taken _ _ _ n _ _ => n
 | _ => 0
def wrow : Rw → List V
 | .taken _ h l n s v => [.int n, .str h, .str l, .str s, .int v]
 | _ => []
theorem zb1 {r : Rw} (h : isW r = true) : (wrow r)[0]? = some (V.int (numW r)) := by
 obtain ⟨t, h, l, n, s, v, rfl⟩ := z5z h
 rfl
def wOf (L : List Rw) : List Rw := L.filter isW
def z4n (nums : List Int) (T : List Rw) : List Rw := nums.flatMap fun a => T.filter fun r => decide (numW r = a)
theorem zad {T : List Rw} (P : Rw → Bool) : (((List.range T.length).filter fun i => P (T.getD i (.other "" []))).map fun i => T.getD i (.other "" [])) = T.filter P := by
 have e : T = (List.range T.length).map fun i => T.getD i (.other "" []) := by
  apply List.ext_getElem
  ·simp
  ·intro i h1 h2
   simp [h1]
 conv => rhs; rw [e, List.filter_map]
 rfl
theorem zb2 {T : List Rw} {nums : List Int} (hu : nums.Pairwise (· < ·)) (hc : ∀ r ∈ T, numW r ∈ nums) {p : List Nat} (hp : p.Perm (List.range T.length)) (hs : p.Pairwise (PyProof.Rows.StabLe fun i => numW (T.getD i (.other "" [])))) : p.map (fun i => T.getD i (.other "" [])) = z4n nums T := by
 have hq : (nums.flatMap fun a => (List.range T.length).filter fun i => decide (numW (T.getD i (.other "" [])) = a)).Pairwise (PyProof.Rows.StabLe fun i => numW (T.getD i (.other "" []))) := by
  rw [List.pairwise_flatMap]
  refine ⟨fun a _ => ?_, hu.imp fun {a b} hab x hx y hy => ?_⟩
  ·refine (List.pairwise_lt_range.sublist List.filter_sublist).imp_of_mem fun {x y} hx hy hxy => .inr ⟨?_, hxy⟩
   dsimp only
   rw [of_decide_eq_true (List.mem_filter.mp hx).2, of_decide_eq_true (List.mem_filter.mp hy).2]
  ·left
   dsimp only
   rw [of_decide_eq_true (List.mem_filter.mp hx).2, of_decide_eq_true (List.mem_filter.mp hy).2]
   exact hab
 have nd : ∀ {l : List Nat}, l.Pairwise (PyProof.Rows.StabLe fun i => numW (T.getD i (.other "" []))) → l.Nodup := fun h => h.imp fun {a b} h e => by
  rw [e] at h
  rcases h with h | ⟨-, h⟩ <;> omega
 have pq : p.Perm (nums.flatMap fun a => (List.range T.length).filter fun i => decide (numW (T.getD i (.other "" [])) = a)) := by
  rw [List.perm_ext_iff_of_nodup (nd hs) (nd hq)]
  intro i
  rw [hp.mem_iff, List.mem_flatMap]
  constructor
  ·intro hi
   have hl := List.mem_range.mp hi
   refine ⟨_, hc (T.getD i (.other "" [])) ?_, List.mem_filter.mpr ⟨hi, decide_eq_true rfl⟩⟩
   rw [List.getD_eq_getElem?_getD, List.getElem?_eq_getElem hl]
   exact List.getElem_mem _
  ·rintro ⟨a, _, h⟩
   exact (List.mem_filter.mp h).1
 have e := List.Perm.eq_of_pairwise (le := PyProof.Rows.StabLe fun i => numW (T.getD i (.other "" []))) (fun a b _ _ h1 h2 => by
  rcases h1 with h1 | ⟨h1, h3⟩ <;> rcases h2 with h2 | ⟨h2, h4⟩ <;> omega) hs hq pq
 rw [e, List.map_flatMap]
 unfold z4n
 congr 1
 funext a
 exact zad fun r => decide (numW r = a)
abbrev tbW (H : Hp) (Pt : Addr) : Prop := TbOk H Pt ⟨6, 28, 6, 46⟩ (Str.ofString "writes" ++ ".<locals>." ++ "<lambda>")
def z8o : Sp := fun vs H Q _ => ∃ (a : Addr) (r : Rw), vs = [.ref a] ∧ RowAt H a r ∧ isW r = true ∧ ∀ (p : Addr) (H' : Hp), H p = none → H' p = some (.tup (wrow r)) → Same H H' → Q (.ref p) H'
theorem z85 (F : Def K mg "write_in" z3u ["row"]) (T : Txt K mg Pt_writes cd_writes) : Has P w K mg base 1 "write_in" ["row"] (z8o) := by
 refine F.ok z84 (fun vs H Q E h => ?_) (fun f cdv A outer s H vs Q E hr h => ?_)
 ·obtain ⟨a, r, rfl, _⟩ := h
  rfl
 ·obtain ⟨a, r, rfl, ⟨-, pr, ha, -⟩, hw, q⟩ := h
  obtain ⟨t, h, l, n, st, v, rfl⟩ := z5z hw
  refine ⟨_, (@zg _ _ _ (@zv _ _ _ _ (@z1g _ _ _ _ _ (@z0 _ _ _ _ _ (@zn _ _ _ _ _ _ _ ix_tup (pv 0) z7 (fun _ _ => rfl)) (@z0 _ _ _ _ _ (@zn _ _ _ _ _ _ _ ix_tup (pv 0) z7 (fun _ _ => rfl)) (@z0 _ _ _ _ _ (@zn _ _ _ _ _ _ _ ix_tup (pv 0) z7 (fun _ _ => rfl)) (@z0 _ _ _ _ _ (@zn _ _ _ _ _ _ _ ix_tup (pv 0) z7 (fun _ _ => rfl)) (@z0 _ _ _ _ _ (@zn _ _ _ _ _ _ _ ix_tup (pv 0) z7 (fun _ _ => rfl)) z8 rfl) rfl) rfl) rfl) rfl)))), ?_⟩
  walk_at "rd"
  refine ⟨_, _, _, _, rfl, rfl, SqT.of ha, zi (j := 4) rfl, ?_⟩
  refine ⟨_, _, _, _, rfl, rfl, SqT.of ha, zi (j := 2) rfl, ?_⟩
  refine ⟨_, _, _, _, rfl, rfl, SqT.of ha, zi (j := 3) rfl, ?_⟩
  refine ⟨_, _, _, _, rfl, rfl, SqT.of ha, zi (j := 5) rfl, ?_⟩
  refine ⟨_, _, _, _, rfl, rfl, SqT.of ha, zi (j := 6) rfl, ze (by decide), fun p hp => q p _ hp za (Same.upd hp)⟩
def z7q (Pt : Addr) : Sp := fun vs H Q _ => ∃ (g : Addr) (L : LL) (nums : List Int), vs = [.ref g] ∧ H g = some (.lst (refl L)) ∧ RowsAt H L ∧ L.length ≤ 126 ∧ tbW H Pt ∧ nums.Pairwise (· < ·) ∧ (∀ z ∈ L, isW z.2 = true → numW z.2 ∈ nums) ∧
 ∀ (r : Addr) (M : TL) (H' : Hp), H' r = some (.lst (reft M)) → TupsAt H' M → M.map (·.2) = (z4n nums (wOf (L.map (·.2)))).map wrow → M.length ≤ 126 → But1 Pt H H' → Q (.ref r) H'
theorem zae (F : DefC K mg "writes" z21 ["log"] cd_writes) (T : Txt K mg Pt_writes cd_writes) (G_write_in : Has P w K mg base 1 "write_in" ["row"] (z8o)) (BA : base.BuiltinsAt mg Pt_writes) : Has P w K mg base 3 "writes" ["log"] (z7q Pt_writes) := by
 refine F.ok sc_writes (fun vs H Q E h => ?_) (fun f A outer s H vs Q E hr h => ?_)
 ·obtain ⟨g, L, nums, rfl, _⟩ := h
  rfl
 ·obtain ⟨g, L, nums, rfl, hg, hL, hl, hT, hnu, hnc, q⟩ := h
  have hu := hr.units0
  refine ⟨_, (@zb _ _ _ _ _ (@z5c _ _ "row" ([]) ([]) _ _ _ _ _ _ _ _ 1 _ _ _ rfl ⟨rfl, by decide +kernel, by decide +kernel, rfl, z1l rfl, by decide +kernel, trivial⟩ sc_writes.nd rfl (Or.inl rfl) (@z3g _ _ _ _ (pv 0)) (fun _ _ _ _ => (@z5s _ _ _ (@zl _ _ _ _ _ _ _ _ z11 (@zn _ _ _ _ _ _ _ (z3q (K := K)) (pv 0) z7 (fun _ _ => rfl)) z18 (zj _)))) (fun _ _ _ _ => (@z1f _ _ _ _ _ _ _ _ _ _ G_write_in (hr.mono (by decide)) rfl (@z0 _ _ _ _ _ (pv 0) z8 rfl) (by decide) rfl rfl)) rfl (by intro _; rfl) (Or.inr rfl)) (@zg _ _ _ (@zv _ _ _ _ (@z6n _ _ _ _ _ _ _ _ _ _ _ _ _ _ _ _ _ (hr.mono (by decide)) rfl rfl T.b_sorted (@z0 _ _ _ _ _ (pv 1) z8 rfl) rfl T.hd_writes BA rfl rfl ⟨fun _ _ _ _ _ _ => rfl, rfl, rfl, rfl, by decide +kernel, rfl, by decide +kernel⟩ rfl rfl)))), ?_⟩
  walk_at "rd"
  refine ⟨⟨_, SqL.of hg⟩, ?_⟩
  refine z3a (xs := refl L) (by rw [z14]; exact ze (by omega)) (fun i acc H' => ∃ M : TL, acc = reft M ∧ M.map (·.2) = (wOf ((L.take i).map (·.2))).map wrow ∧ (∀ z ∈ M, H' z.1 = some (.tup z.2)) ∧ (M.map (·.1)).Nodup ∧ M.length ≤ i ∧ Same H H') ⟨[], rfl, rfl, (fun z hz => by cases hz), List.nodup_nil, Nat.le_refl _, Same.refl _⟩ ?_ ?_ ?_ ?_
  ·rintro i acc H' ⟨M, rfl, -, -, -, l, -⟩
   rw [z35]
   exact l
  ·rintro i acc H' ⟨M, -, -, -, -, -, s1⟩
   exact SqL.of (s1 _ _ hg)
  ·rintro Nn i acc H' x hN hx hi ⟨M, rfl, eM, gM, nd, lM, s1⟩
   obtain ⟨y, hy, rfl⟩ := z2k hx
   have my := List.mem_of_getElem? hy
   walk_at "rd"
   have ry := (hL y my).mono s1
   obtain ⟨ro, pr, hy1, -⟩ := id ry
   have tk : (L.take (i + 1)).map (·.2) = (L.take i).map (·.2) ++ [y.2] := by rw [List.take_add_one, hy]; simp
   refine ⟨_, _, _, _, rfl, rfl, SqT.of hy1, zi (j := 0) rfl, rfl, ?_⟩
   by_cases hk : y.2.kind = "taken"
   ·rw [if_pos (decide_eq_true (congrArg V.str hk))]
    have hw : isW y.2 = true := by
     obtain ⟨t, h, l, n, s, v, e⟩ := Rw.is_taken ro hk
     rw [e]
     rfl
    refine ⟨y.1, y.2, rfl, ry, hw, fun p H2 hp gp s2 => hN _ _ ⟨M ++ [(p, wrow y.2)], by simp [reft], ?_, fun z hz => ?_, ?_, ?_, s1.trans s2⟩⟩
    ·rw [tk]
     unfold wOf
     rw [List.map_append, eM, List.filter_append, List.map_append]
     simp [hw, wOf]
    ·rcases List.mem_append.mp hz with hz | hz
     ·exact s2 _ _ (gM z hz)
     ·rw [List.mem_singleton.mp hz]
      exact gp
    ·rw [List.map_append, List.nodup_append]
     refine ⟨nd, by simp, fun a ha b hb e => ?_⟩
     obtain ⟨z, hz, rfl⟩ := List.mem_map.mp ha
     have hb : b = p := List.mem_singleton.mp hb
     have := gM z hz
     rw [e, hb, hp] at this
     cases this
    ·rw [List.length_append]
     exact Nat.succ_le_succ lM
   ·rw [if_neg (by simpa using hk)]
    refine hN _ _ ⟨M, rfl, ?_, gM, nd, by omega, s1⟩
    rw [tk]
    unfold wOf at eM ⊢
    rw [List.filter_append, List.map_append, eM]
    simp [z7p hk]
  rintro acc H1 ⟨M, rfl, eM, gM, nd, lM, s1⟩ pm hpm
  rw [z14] at lM
  rw [z14, List.take_length] at eM
  have s2 := Same.upd (o := .lst (reft M)) hpm
  have g2 : upd H1 pm (.lst (reft M)) pm = some (.lst (reft M)) := za
  generalize upd H1 pm (.lst (reft M)) = H2 at s2 g2 ⊢
  have lT : (wOf (L.map (·.2))).length = M.length := by
   have := congrArg List.length eM
   rw [List.length_map, List.length_map] at this
   exact this.symm
  have at_ : ∀ (n : Nat) (z : Addr × List V), M[n]? = some z → ∃ r, (wOf (L.map (·.2)))[n]? = some r ∧ isW r = true ∧ z.2 = wrow r := fun n z hz => by
   have h1 : (M.map (·.2))[n]? = some z.2 := by rw [List.getElem?_map, hz]; rfl
   rw [eM, List.getElem?_map] at h1
   obtain ⟨r, hr, e⟩ := Option.map_eq_some_iff.mp h1
   exact ⟨r, hr, (List.mem_filter.mp (List.mem_of_getElem? hr)).2, e.symm⟩
  refine ⟨pm, rfl, M, SqL.of g2, by omega, nd, TbOk.mono hT (s1.trans s2), fun n => numW ((wOf (L.map (·.2))).getD n (.other "" [])), fun n z hz => ⟨s2 _ _ (gM z (List.mem_of_getElem? hz)), ?_⟩, fun H3 r p b3 t3 hr0 pp ps => ?_⟩
  ·obtain ⟨r, hr, hw, e⟩ := at_ n z hz
   dsimp only
   rw [e, List.getD_eq_getElem?_getD, hr]
   exact zb1 hw
  ·have pn := zb2 hnu (T := wOf (L.map (·.2))) (fun r hr => by
    obtain ⟨h1, h2⟩ := List.mem_filter.mp hr
    obtain ⟨z, hz, rfl⟩ := List.mem_map.mp h1
    exact hnc z hz h2) (by rw [lT]; exact pp) ps
   have pl : ∀ n ∈ p, n < M.length := fun n hn => List.mem_range.mp (pp.mem_iff.mp hn)
   have e1 : (p.map fun n => ((M[n]?).map fun q => V.ref q.1).getD .non) = reft (p.map fun n => M.getD n (0, [])) := by
    unfold reft
    rw [List.map_map]
    refine List.map_congr_left fun n hn => ?_
    show _ = V.ref (M.getD n (0, [])).1
    rw [List.getD_eq_getElem?_getD, List.getElem?_eq_getElem (pl n hn)]
    rfl
   rw [e1]
   have k3 : ∀ z ∈ p.map (fun n => M.getD n (0, [])), z ∈ M := fun z hz => by
    obtain ⟨n, hn, rfl⟩ := List.mem_map.mp hz
    rw [List.getD_eq_getElem?_getD, List.getElem?_eq_getElem (pl n hn)]
    exact List.getElem_mem _
   have nP : ∀ b xs, H2 b = some (.tup xs) → b ≠ Pt_writes := fun b xs e z => by
    obtain ⟨q0, hq⟩ := (TbOk.mono hT (s1.trans s2)).some
    rw [z, hq] at e
    cases e
   refine q r _ _ za ⟨fun z hz => ?_, fun z hz => ?_⟩ ?_ (by rw [List.length_map, pp.length_eq, List.length_range]; omega) fun b o e nb => ?_
   ·have g := s2 _ _ (gM z (k3 z hz))
    have g3 := b3 _ _ g (nP _ _ g)
    rw [zc (fun e => by rw [e, hr0] at g3; cases g3)]
    exact g3
   ·obtain ⟨n, hn⟩ := List.getElem?_of_mem (k3 z hz)
    obtain ⟨r', hr', hw, e⟩ := at_ n z hn
    obtain ⟨t, h, l, nn, st, v, rfl⟩ := z5z hw
    rw [e]
    refine ⟨by show 5 ≤ 10; decide, fun x hx => ?_⟩
    simp only [wrow, List.mem_cons, List.not_mem_nil, or_false] at hx
    rcases hx with rfl | rfl | rfl | rfl | rfl <;> first | exact .inl ⟨_, rfl⟩ | exact .inr (.inl ⟨_, rfl⟩)
   ·rw [← pn, List.map_map, List.map_map]
    refine List.map_congr_left fun n hn => ?_
    show (M.getD n (0, [])).2 = wrow ((wOf (L.map (·.2))).getD n (.other "" []))
    rw [List.getD_eq_getElem?_getD, List.getElem?_eq_getElem (pl n hn), List.getD_eq_getElem?_getD]
    obtain ⟨r', hr', -, e⟩ := at_ n (M[n]'(pl n hn)) (List.getElem?_eq_getElem (pl n hn))
    rw [hr']
    exact e
   ·have := b3 _ _ (s2 _ _ (s1 _ _ e)) nb
    rw [zc (fun z => by rw [z, hr0] at this; cases this)]
    exact this
theorem z4x {r : Rw} (o : r.ok) (h : r.shortN) (p : Addr) : ∃ t : Int, (r.vals p)[1]? = some (V.int t) := by
 cases r with
 | other k vs =>
  obtain ⟨t, r, rfl⟩ := h
  exact ⟨t, rfl⟩
 | _ => exact ⟨_, rfl⟩
theorem RowAt.but1W {H H' : Hp} {a p : Addr} {r : Rw} {xs : List V} (h : RowAt H a r) (hp : H p = some (.lst xs)) (b : But1 p H H') : RowAt H' a r := by
 obtain ⟨o, q, h1, h2⟩ := h
 exact ⟨o, q, b _ _ h1 (fun e => by rw [e, hp] at h1; cases h1), fun k => b _ _ (h2 k) fun e => by have := h2 k; rw [e, hp] at this; cases this⟩
theorem z60 {H H' : Hp} {Pt p : Addr} {xs : List V} (t : tbW H Pt) (hp : H p = some (.lst xs)) (b : But1 p H H') : tbW H' Pt := by
 rcases t with z | ⟨c', z, z2⟩
 ·exact .inl (b _ _ z fun e => by rw [e, hp] at z; cases z)
 ·exact .inr ⟨c', b _ _ z (fun e => by rw [e, hp] at z; cases z), b _ _ z2 fun e => by rw [e, hp] at z2; cases z2⟩
def spLaw (ts : List Addr) (K : PySem.W.Frag) : Sp := fun vs H Q _ => ∃ (a : Addr) (ns : List Int), vs = [.ref a] ∧ SqL K H a (ns.map V.int) ∧ ns.length ≤ 63 ∧ (∀ t ∈ ts, H t = some (.tbl #[])) ∧ ∀ H', Q (.bl true) H'
theorem zc9 (F : Def K mg "law" z4m ["_law_script"]) (T : Txt K mg Pt_writes cd_writes) (G_writes : Has P w K mg base 3 "writes" ["log"] (z7q Pt_writes)) (G__law_at : Has P w K mg base 1 "_law_at" ["_law_script", "_law_k"] (spAt K)) (G__law_same : Has P w K mg base 4 "_law_same" ["_law_found", "_law_due"] (z1u 3)) (G__law_name : Has P w K mg base 1 "_law_name" ["_law_cell", "_law_k"] (z5m)) (G__law_log : Has P w K mg base 3 "_law_log" ["_law_script", "_law_first"] (zbc K)) (mt_writes : Pt_writes ∈ ts) : Has P w K mg base 5 "law" ["_law_script"] (spLaw ts K) := by
 refine F.ok sc_law (fun vs H Q E h => ?_) (fun f cdv A outer s H vs Q E hr h => ?_)
 ·obtain ⟨a, ns, rfl, _⟩ := h
  rfl
 ·obtain ⟨a, ns, rfl, ha, hns, hts, q⟩ := h
  have hu := hr.units0
  refine ⟨_, (@zb _ _ _ _ _ (@zq _ _ 1 _ _ _ _ sc_law.nd rfl (Or.inl rfl) (@z1f _ _ _ _ _ _ _ _ _ _ G__law_log (hr.mono (by decide)) rfl (@z0 _ _ _ _ _ (pv 0) (@z0 _ _ _ _ _ z7 z8 rfl) rfl) (by decide) rfl rfl) rfl (Or.inr rfl)) (@z2b _ _ _ _ _ (@z10 _ _ _ _ _ _ _ _ (@zl _ _ _ _ _ _ _ _ z11 (@z9 _ _ _ _ _ _ _ _ zm (@z9 _ _ _ _ _ _ _ _ zz (@z1f _ _ _ _ _ _ _ _ _ _ G__law_at (hr.mono (by decide)) rfl (@z0 _ _ _ _ _ (pv 0) (@z0 _ _ _ _ _ z7 z8 rfl) rfl) (by decide) rfl rfl) z7) z7) z7 (zj _)) (@zb _ _ _ _ _ (@zq _ _ 2 _ _ _ _ sc_law.nd rfl (Or.inl rfl) (@z1x _ _ _ _ z8) rfl (Or.inr rfl)) (@zb _ _ _ _ _ (@z3i _ _ _ _ _ _ _ _ PassesOwn.never rfl (@z1s _ _ _ _ _ _ rfl T.b_range (@z0 _ _ _ _ _ (@zd _ _ _ _ _ _ _ _ _ zy rfl T.b_len (by decide +kernel) (@z0 _ _ _ _ _ (pv 1) z8 rfl) (by decide) (by decide) rfl rfl) z8 rfl) rfl) (@z1n _ _ 3 _ sc_law.nd rfl (Or.inl rfl) (Or.inr rfl)) (@zb _ _ _ _ _ (@z3f _ _ _ _ (@z4c _ _ _ _ _ _ _ _ _ _ _ _ PySem.F.plainAttrs_list PySem.F.slot_list_append PySem.F.type_list_append z2o (pv 2) (@z0 _ _ _ _ _ (@zn _ _ _ _ _ _ _ ix_list (pv 1) (pv 3) (fun _ _ => rfl)) z8 rfl) rfl rfl rfl rfl rfl) rfl) (@zb _ _ _ _ _ (@zq _ _ 4 _ _ _ _ sc_law.nd rfl (Or.inl rfl) (@z1f _ _ _ _ _ _ _ _ _ _ G__law_name (hr.mono (by decide)) rfl (@z0 _ _ _ _ _ (@z1f _ _ _ _ _ _ _ _ _ _ G__law_at (hr.mono (by decide)) rfl (@z0 _ _ _ _ _ (pv 0) (@z0 _ _ _ _ _ z7 z8 rfl) rfl) (by decide) rfl rfl) (@z0 _ _ _ _ _ (@z9 _ _ _ _ _ _ _ _ zm (pv 3) z7) z8 rfl) rfl) (by decide) rfl rfl) rfl (Or.inr rfl)) (@zg _ _ _ (@z3f _ _ _ _ (@z4c _ _ _ _ _ _ _ _ _ _ _ _ PySem.F.plainAttrs_list PySem.F.slot_list_append PySem.F.type_list_append z2o (pv 2) (@z0 _ _ _ _ _ (@z1g _ _ _ _ _ (@z0 _ _ _ _ _ z18 (@z0 _ _ _ _ _ (pv 3) (@z0 _ _ _ _ _ (pv 4) (@z0 _ _ _ _ _ z18 (@z0 _ _ _ _ _ (@z9 _ _ _ _ _ _ _ _ zm (@zn _ _ _ _ _ _ _ ix_tup (@zn _ _ _ _ _ _ _ ix_list (pv 1) (pv 3) (fun _ _ => rfl)) z7 (fun _ _ => rfl)) z7) (@z0 _ _ _ _ _ (pv 4) (@z0 _ _ _ _ _ (@z9 _ _ _ _ _ _ _ _ z3j (@zd _ _ _ _ _ _ _ _ _ zy rfl T.b_len (by decide +kernel) (@z0 _ _ _ _ _ (pv 1) z8 rfl) (by decide) (by decide) rfl rfl) (pv 3)) z8 rfl) rfl) rfl) rfl) rfl) rfl) rfl)) z8 rfl) rfl rfl rfl rfl rfl) rfl)))) (by intro _; rfl)) (@zg _ _ _ (@zq _ _ 1 _ _ _ _ sc_law.nd rfl (Or.inl rfl) (pv 2) rfl (Or.inr rfl))))) zr) (@zb _ _ _ _ _ (@zq _ _ 5 _ _ _ _ sc_law.nd rfl (Or.inl rfl) (@z1x _ _ _ _ z8) rfl (Or.inr rfl)) (@zb _ _ _ _ _ (@z3i _ _ _ _ _ _ _ _ PassesOwn.never rfl (@z3g _ _ _ _ (@zd _ _ _ _ _ _ _ _ _ (z6o rfl) rfl T.b_sorted (by decide +kernel) (@z0 _ _ _ _ _ (@z67 _ _ _ _ _ _ _ _ _ (z9c rfl) rfl T.b_set (by decide +kernel) (@z0 _ _ _ _ _ (@z3k _ _ "_law_row" ([]) ([]) _ _ _ _ _ _ _ _ rfl ⟨rfl, by decide +kernel, by decide +kernel, rfl, z1l rfl, by decide +kernel, trivial⟩ (@z3g _ _ _ _ (pv 1)) (fun _ _ _ _ => (@z5s _ _ _ (@zl _ _ _ _ _ _ _ _ z11 (@zn _ _ _ _ _ _ _ (z3q (K := K)) (pv 0) z7 (fun _ _ => rfl)) z18 (zj _)))) (fun _ _ _ _ => (@zn _ _ _ _ _ _ _ (z3q (K := K)) (pv 0) z7 (fun _ _ => rfl))) (by intro _; rfl)) z8 rfl) (by decide) (by decide) rfl rfl) z8 rfl) (by decide) (by decide) rfl rfl)) (@z1n _ _ 6 _ sc_law.nd rfl (Or.inl rfl) (Or.inr rfl)) (@zg _ _ _ (@z3i _ _ _ _ _ _ _ _ PassesOwn.never rfl (@z3g _ _ _ _ (pv 1)) (@z1n _ _ 7 _ sc_law.nd rfl (Or.inl rfl) (Or.inr rfl)) (@zg _ _ _ (@z10 _ _ _ _ _ _ _ _ (PW.pt (@z3e _ _ _ _ _ _ _ (@zl _ _ _ _ _ _ _ _ z11 (@zn _ _ _ _ _ _ _ ix_tup (pv 7) z7 (fun _ _ => rfl)) z18 (zj _)) (@z4a _ _ _ _ (@zl _ _ _ _ _ _ _ _ z11 (@zn _ _ _ _ _ _ _ ix_tup (pv 7) z7 (fun _ _ => rfl)) (pv 6) (zj _))))) (@zg _ _ _ (@z3f _ _ _ _ (@z4c _ _ _ _ _ _ _ _ _ _ _ _ PySem.F.plainAttrs_list PySem.F.slot_list_append PySem.F.type_list_append z2o (pv 5) (@z0 _ _ _ _ _ (@z1g _ _ _ _ _ (@z0 _ _ _ _ _ (pv 6) (@z0 _ _ _ _ _ (@zn _ _ _ _ _ _ _ ix_tup (pv 7) z7 (fun _ _ => rfl)) (@z0 _ _ _ _ _ (@zn _ _ _ _ _ _ _ ix_tup (pv 7) z7 (fun _ _ => rfl)) (@z0 _ _ _ _ _ (@zn _ _ _ _ _ _ _ ix_tup (pv 7) z7 (fun _ _ => rfl)) (@z0 _ _ _ _ _ (@zn _ _ _ _ _ _ _ ix_tup (pv 7) z7 (fun _ _ => rfl)) z8 rfl) rfl) rfl) rfl) rfl)) z8 rfl) rfl rfl rfl rfl rfl) rfl)) zr)) (by intro _; rfl))) (by intro _; rfl)) (@zb _ _ _ _ _ (@zq _ _ 8 _ _ _ _ sc_law.nd rfl (Or.inl rfl) (@z67 _ _ _ _ _ _ _ _ _ z71 rfl T.b_list (by decide +kernel) (@z0 _ _ _ _ _ (pv 1) z8 rfl) (by decide) (by decide) rfl rfl) rfl (Or.inr rfl)) (@zg _ _ _ (@zv _ _ _ _ (@z1w _ _ _ _ _ _ _ (@z1f _ _ _ _ _ _ _ _ _ _ G__law_same (hr.mono (by decide)) rfl (@z0 _ _ _ _ _ (@z1f _ _ _ _ _ _ _ _ _ _ G_writes (hr.mono (by decide)) rfl (@z0 _ _ _ _ _ (pv 8) z8 rfl) (by decide) rfl rfl) (@z0 _ _ _ _ _ (pv 5) z8 rfl) rfl) (by decide) rfl rfl) (@z1v _ _ _ _ _ (@z1f _ _ _ _ _ _ _ _ _ _ G__law_same (hr.mono (by decide)) rfl (@z0 _ _ _ _ _ (pv 8) (@z0 _ _ _ _ _ (pv 1) z8 rfl) rfl) (by decide) rfl rfl)))))))))), ?_⟩
  walk_at "rd"
  refine ⟨a, ns, rfl, ha, hns, fun lg L H1 hL gL rL shL s1 => ?_⟩
  have t1 : tbW H1 Pt_writes := TbOk.mono (.inl (hts _ mt_writes)) s1
  refine z3p (fun σ H' => ∃ (lg' : Addr) (L2 : LL) (v2 v3 v4 : Option V), σ = [some (V.ref a), some (V.ref lg'), v2, v3, v4, none, none, none, none] ∧ L2.length ≤ 126 ∧ H' lg' = some (.lst (refl L2)) ∧ RowsAt H' L2 ∧ tbW H' Pt_writes) (fun Mid hM => ?_) ?_
  ·walk_at "rd"
   refine ⟨a, ns, 0, rfl, s1.seq ha, by omega, ?_⟩
   refine ⟨_, rfl, cdiv (by decide) (by decide), by decide, ite2 (fun c => ?_) (fun c => ?_)⟩
   ·refine ⟨Nat.zero_le _, fun pm hpm => ?_⟩
    have s2 := Same.upd (o := .lst []) hpm
    have g2 : upd H1 pm (.lst []) pm = some (.lst []) := za
    generalize upd H1 pm (.lst []) = H2 at s2 g2 ⊢
    have nlm : lg ≠ pm := fun e => by rw [e, hpm] at gL; cases gL
    refine ⟨_, .inl (SqL.of (s2 _ _ gL)), ⟨by rw [z14]; omega, by rw [z14]; omega⟩, ?_⟩
    rw [z14, Int.toNat_natCast]
    refine z2l (fun i σ H' => ∃ (M : LL) (v3 v4 : Option V), σ = [some (V.ref a), some (V.ref lg), some (V.ref pm), v3, v4, none, none, none, none] ∧ M.length = 2 * i ∧ H' pm = some (.lst (refl M)) ∧ RowsAt H' M ∧ But1 pm H2 H' ∧ tbW H' Pt_writes) ⟨[], _, _, rfl, rfl, g2, (fun z hz => by cases hz), fun b o e _ => e, TbOk.mono t1 s2⟩ ?_ ?_
    ·rintro Pv hP i σ H' hi ⟨M, v3, v4, rfl, lM, gM, rM, b3, t3⟩
     walk_at "rd"
     simp only [Int.zero_add]
     have b1 : ∀ b xs, H1 b = some (.lst xs) → H' b = some (.lst xs) := fun b xs e => b3 _ _ (s2 _ _ e) (zf e hpm)
     have hsa : ∀ H4, But1 pm H' H4 → SqL K H4 a (ns.map V.int) := fun H4 b4 => by
      rcases s1.seq ha with (z | ⟨o, z⟩) | z
      ·exact .inl (.inl (b4 _ _ (b3 _ _ (s2 _ _ z) (zf z hpm)) (zf z hpm)))
      ·exact .inl (.inr ⟨o, b4 _ _ (b3 _ _ (s2 _ _ z) (zf z hpm)) (zf z hpm)⟩)
      ·exact .inr z
     have hy : L[i]? = some L[i] := List.getElem?_eq_getElem hi
     generalize L[i] = y at hy
     have my := List.mem_of_getElem? hy
     have gy : (refl L)[i]? = some (.ref y.1) := by unfold refl; rw [List.getElem?_map, hy]; rfl
     have ry : RowAt H' y.1 y.2 := ((rL y my).mono s2).but1W g2 b3
     have gL' := b1 _ _ gL
     refine ⟨.inl ⟨_, SqL.of gM⟩, _, _, _, _, rfl, rfl, SqL.of gL', zi gy, ?_⟩
     have bu : ∀ o, But1 pm H' (upd H' pm o) := fun o b x e nb => by rw [zc nb]; exact e
     refine ⟨pm, _, _, rfl, rfl, gM, by rw [z14]; exact z36 (by omega), ?_⟩
     have g4 : upd H' pm (.lst (refl M ++ [V.ref y.1])) pm = some (.lst (refl (M ++ [y]))) := by rw [za]; simp [refl]
     have b4 := bu (.lst (refl M ++ [V.ref y.1]))
     generalize upd H' pm (.lst (refl M ++ [V.ref y.1])) = H4 at g4 b4 ⊢
     refine ⟨a, ns, 0, rfl, hsa _ b4, by omega, by decide, ns.getD 0 0, i % 3, by simp, by omega, fun x hx => ⟨.inl ⟨_, SqL.of g4⟩, ?_⟩⟩
     have gL4 := b4 _ _ gL' nlm
     have ry4 := ry.but1W gM b4
     obtain ⟨t, et⟩ := z4x ry.1 (shL y my) 0
     obtain ⟨ro, pr, hy1, -⟩ := id ry4
     obtain ⟨t, et⟩ := z4x ry.1 (shL y my) pr
     refine ⟨_, _, _, _, rfl, rfl, SqL.of gL4, zi gy, _, _, _, _, rfl, rfl, SqT.of hy1, zi (j := 1) et, _, rfl, by decide, _, .inl (SqL.of gL4), ze (by decide), fun p5 hp5 => ?_⟩
     have s5 := Same.upd (o := .tup [V.str "taken", V.int (i : Int), V.str x, V.str "q", V.int (t % 4), V.str x, V.int (((refl L).length : Int) - (i : Int))]) hp5
     have g5 : upd H4 p5 (.tup [V.str "taken", V.int (i : Int), V.str x, V.str "q", V.int (t % 4), V.str x, V.int (((refl L).length : Int) - (i : Int))]) p5 = some (.tup [V.str "taken", V.int (i : Int), V.str x, V.str "q", V.int (t % 4), V.str x, V.int (((refl L).length : Int) - (i : Int))]) := za
     generalize upd H4 p5 (.tup [V.str "taken", V.int (i : Int), V.str x, V.str "q", V.int (t % 4), V.str x, V.int (((refl L).length : Int) - (i : Int))]) = H5 at s5 g5 ⊢
     have g45 := s5 _ _ g4
     have b5 : But1 pm H' H5 := fun b o e nb => s5 _ _ (b4 _ _ e nb)
     refine ⟨pm, _, _, rfl, rfl, g45, by rw [z14, List.length_append]; exact z36 (by show M.length + 1 ≤ _; omega), hP _ _ _ ⟨(M ++ [y]) ++ [(p5, .taken i x "q" (t % 4) x (((refl L).length : Int) - (i : Int)))], _, _, rfl, ?_, by rw [za]; simp [refl], fun z hz => ?_, fun b o e nb => by rw [zc nb]; exact b5 _ _ (b3 _ _ e nb) nb, ?_⟩⟩
     ·rw [List.length_append, List.length_append, lM]
      show 2 * i + 1 + 1 = 2 * (i + 1)
      omega
     ·refine RowAt.upd (xs := refl (M ++ [y])) ?_ g45
      rcases List.mem_append.mp hz with hz | hz
      ·rcases List.mem_append.mp hz with hz | hz
       ·exact (rM z hz).but1W gM b5
       ·rw [List.mem_singleton.mp hz]
        exact ry.but1W gM b5
      ·rw [List.mem_singleton.mp hz]
       exact ⟨trivial, p5, g5, fun z => absurd z.symm k_gt⟩
     ·exact z60 (z60 t3 gM b5) g45 fun b o e nb => by rw [zc nb]; exact e
    ·rintro σ H' ⟨M, v3, v4, rfl, lM, gM, rM, b3, t3⟩
     walk_at "rd"
     exact hM _ _ ⟨pm, M, _, _, _, rfl, by omega, gM, rM, t3⟩
   ·exact hM _ _ ⟨lg, L, _, _, _, rfl, by omega, gL, rL, t1⟩
  ·rintro σ H2 ⟨lg', L2, v2, v3, v4, rfl, l126, g2, r2, t2⟩
   walk_at "rd"
   refine ⟨Nat.zero_le _, fun pd hpd => ?_⟩
   have s3 := Same.upd (o := .lst []) hpd
   have g3 : upd H2 pd (.lst []) pd = some (.lst []) := za
   generalize upd H2 pd (.lst []) = H3 at s3 g3 ⊢
   have g23 := s3 _ _ g2
   have nld : lg' ≠ pd := fun e => by rw [e, hpd] at g2; cases g2
   refine ⟨⟨_, SqL.of g23⟩, ?_⟩
   refine z3a (xs := refl L2) (by rw [z14]; exact ze (by omega)) (fun i acc H' => H' = H3 ∧ acc = ((wOf ((L2.take i).map (·.2))).map numW).map V.int) ⟨rfl, rfl⟩ ?_ ?_ ?_ ?_
   ·rintro i acc H' ⟨-, rfl⟩
    rw [List.length_map, List.length_map]
    refine Nat.le_trans (List.length_filter_le _ _) ?_
    rw [List.length_map, List.length_take]
    omega
   ·rintro i acc H' ⟨rfl, -⟩
    exact SqL.of g23
   ·rintro Nn i acc H' x hN hx hi ⟨rfl, rfl⟩
    obtain ⟨y, hy, rfl⟩ := z2k hx
    walk_at "rd"
    have tk : (L2.take (i + 1)).map (·.2) = (L2.take i).map (·.2) ++ [y.2] := by rw [List.take_add_one, hy]; simp
    obtain ⟨ro, pr, hy1, -⟩ := (r2 y (List.mem_of_getElem? hy)).mono s3
    refine ⟨_, _, _, _, rfl, rfl, SqT.of hy1, zi (j := 0) rfl, rfl, ?_⟩
    by_cases hk : y.2.kind = "taken"
    ·rw [if_pos (decide_eq_true (congrArg V.str hk))]
     obtain ⟨t, h, l, n, st, v, e⟩ := Rw.is_taken ro hk
     rw [e] at hy1
     refine ⟨_, _, _, _, rfl, rfl, SqT.of hy1, zi (j := 4) rfl, hN _ _ ⟨rfl, ?_⟩⟩
     rw [tk]
     unfold wOf
     rw [List.filter_append, e, show ([Rw.taken t h l n st v].filter isW) = [Rw.taken t h l n st v] from rfl]
     simp [numW]
    ·rw [if_neg (by simpa using hk)]
     refine hN _ _ ⟨rfl, ?_⟩
     rw [tk]
     unfold wOf
     rw [List.filter_append]
     simp [z7p hk]
   rintro acc H' ⟨rfl, rfl⟩ pn hpn
   rw [z14, List.take_length]
   have lW : (wOf (L2.map (·.2))).length ≤ 126 := Nat.le_trans (List.length_filter_le _ _) (by rw [List.length_map]; exact l126)
   generalize hT : wOf (L2.map (·.2)) = T2 at lW ⊢
   have s4 := Same.upd (o := .lst ((T2.map numW).map V.int)) hpn
   have g4 : upd H' pn (.lst ((T2.map numW).map V.int)) pn = some (.lst ((T2.map numW).map V.int)) := za
   generalize upd H' pn (.lst ((T2.map numW).map V.int)) = H4 at s4 g4 ⊢
   have lg4 : (gAll (T2.map numW)).length < 128 := Nat.lt_of_le_of_lt (z8f _) (by rw [List.length_map]; omega)
   refine ⟨pn, rfl, _, SqL.of g4, Nat.lt_of_le_of_lt (Nat.succ_le_succ (by rw [List.length_map]; exact lW)) (by decide), fun ds hds => ⟨_, za, z5i _, lg4, fun l5 ks hl5 pp ps => ⟨⟨_, SqL.of za⟩, ?_⟩⟩⟩
   have s5 := Same.upd (o := eso (intKind P w) ds (gAll (T2.map numW))) hds
   have s6 := Same.upd (o := .lst (ks.map V.int)) hl5
   have nl5 : l5 ≠ pd := fun e => by have z := s5 _ _ (s4 _ _ g3); rw [← e, hl5] at z; cases z
   have g6 : upd (upd H4 ds (eso (intKind P w) ds (gAll (T2.map numW)))) l5 (.lst (ks.map V.int)) l5 = some (.lst (ks.map V.int)) := za
   generalize upd (upd H4 ds (eso (intKind P w) ds (gAll (T2.map numW)))) l5 (.lst (ks.map V.int)) = H6 at s5 s6 g6 ⊢
   have s36 := s4.trans (s5.trans s6)
   have gd6 := s36 _ _ g3
   have gl6 := s36 _ _ g23
   have r6 := r2.mono (s3.trans s36)
   have t6 := TbOk.mono t2 (s3.trans s36)
   have hup : ks.Pairwise (· < ·) := (ps.and (pp.nodup_iff.mpr (z5i _))).imp fun {a b} h => by omega
   have lks : ks.length < 128 := by rw [pp.length_eq]; exact lg4
   have hcov : ∀ z ∈ L2, isW z.2 = true → numW z.2 ∈ ks := fun z hz hw => by
    rw [pp.mem_iff, zam, ← hT]
    exact List.mem_map_of_mem (List.mem_filter.mpr ⟨List.mem_map_of_mem hz, hw⟩)
   refine z5d (xs := ks.map V.int) (fun i σ H' => ∃ (M : TL) (v6 v7 : Option V), σ = [some (V.ref a), some (V.ref lg'), v2, v3, v4, some (V.ref pd), v6, v7, none] ∧ H' pd = some (.lst (reft M)) ∧ TupsAt H' M ∧ M.map (·.2) = (z4n (ks.take i) T2).map wrow ∧ M.length ≤ 126 * i ∧ But1 pd H6 H') ⟨[], _, _, rfl, gd6, ⟨(fun z hz => by cases hz), (fun z hz => by cases hz)⟩, rfl, Nat.zero_le _, fun b o e _ => e⟩ ?_ ?_ ?_
   ·rintro i σ H' - ⟨M, v6, v7, -, -, -, -, -, b6⟩
    exact SqL.of (b6 _ _ g6 nl5)
   ·rintro Pv hP i x σ H' hx ⟨M, v6, v7, rfl, gM, tM, eM, lM, b6⟩
    rw [List.getElem?_map] at hx
    obtain ⟨n, en, rfl⟩ := Option.map_eq_some_iff.mp hx
    have hi : i < ks.length := (List.getElem?_eq_some_iff.mp en).1
    walk_at "rd"
    refine ⟨⟨_, SqL.of (b6 _ _ gl6 nld)⟩, ?_⟩
    refine z5d (xs := refl L2) (fun j σ H' => ∃ (M : TL) (v7 : Option V), σ = [some (V.ref a), some (V.ref lg'), v2, v3, v4, some (V.ref pd), some (V.int n), v7, none] ∧ H' pd = some (.lst (reft M)) ∧ TupsAt H' M ∧ M.map (·.2) = (z4n (ks.take i) T2 ++ (wOf ((L2.take j).map (·.2))).filter fun r => decide (numW r = n)).map wrow ∧ M.length ≤ 126 * i + j ∧ But1 pd H6 H') ⟨M, _, rfl, gM, tM, by rw [eM]; simp [wOf], lM, b6⟩ ?_ ?_ ?_
    ·rintro j σ H7 - ⟨M, v7, -, -, -, -, -, b7⟩
     exact SqL.of (b7 _ _ gl6 nld)
    ·rintro Pw hPw j x σ H7 hx ⟨M, v7, rfl, gM, tM, eM, lM, b7⟩
     obtain ⟨y, hy, rfl⟩ := z2k hx
     have hj : j < L2.length := (List.getElem?_eq_some_iff.mp hy).1
     walk_at "rd"
     have tk : (L2.take (j + 1)).map (·.2) = (L2.take j).map (·.2) ++ [y.2] := by rw [List.take_add_one, hy]; simp
     obtain ⟨ro, pr, hy0, -⟩ := r6 y (List.mem_of_getElem? hy)
     have hy1 := b7 _ _ hy0 (fun e => by rw [e, gd6] at hy0; cases hy0)
     have no : (isW y.2 && decide (numW y.2 = n)) = false → Pw (j + 1) [some (V.ref a), some (V.ref lg'), v2, v3, v4, some (V.ref pd), some (V.int n), some (V.ref y.1), none] H7 := fun e => by
      refine hPw _ _ _ ⟨M, _, rfl, gM, tM, ?_, by omega, b7⟩
      rw [eM, tk]
      unfold wOf
      rw [List.filter_append, List.filter_append]
      cases ew : isW y.2 with
      | false => simp [ew]
      | true =>
       rw [ew, Bool.true_and] at e
       simp [ew, e]
     refine ⟨_, _, _, _, rfl, rfl, SqT.of hy1, zi (j := 0) rfl, rfl, ?_⟩
     by_cases hk : y.2.kind = "taken"
     rotate_left
     ·rw [if_neg (by simpa using hk)]
      exact no (by rw [z7p hk]; rfl)
     rw [if_pos (decide_eq_true (congrArg V.str hk))]
     obtain ⟨t, h, l, m, st, v, e⟩ := Rw.is_taken ro hk
     rw [e] at hy1 no tk
     refine ⟨_, _, _, _, rfl, rfl, SqT.of hy1, zi (j := 4) rfl, rfl, ?_⟩
     by_cases hm : m = n
     rotate_left
     ·rw [if_neg (by simpa using hm)]
      exact no (by simp [isW, numW, hm])
     rw [if_pos (decide_eq_true (congrArg V.int hm))]
     refine ⟨.inl ⟨_, SqL.of gM⟩, ?_⟩
     refine ⟨_, _, _, _, rfl, rfl, SqT.of hy1, zi (j := 2) rfl, ?_⟩
     refine ⟨_, _, _, _, rfl, rfl, SqT.of hy1, zi (j := 3) rfl, ?_⟩
     refine ⟨_, _, _, _, rfl, rfl, SqT.of hy1, zi (j := 5) rfl, ?_⟩
     refine ⟨_, _, _, _, rfl, rfl, SqT.of hy1, zi (j := 6) rfl, ze (by decide), fun pq hpq => ?_⟩
     have sq := Same.upd (o := .tup [V.int n, V.str h, V.str l, V.str st, V.int v]) hpq
     have gq : upd H7 pq (.tup [V.int n, V.str h, V.str l, V.str st, V.int v]) pq = some (.tup [V.int n, V.str h, V.str l, V.str st, V.int v]) := za
     generalize upd H7 pq (.tup [V.int n, V.str h, V.str l, V.str st, V.int v]) = H8 at sq gq ⊢
     have gM8 := sq _ _ gM
     have tM8 := tM.mono sq
     have nz : ∀ b xs, H8 b = some (.tup xs) → b ≠ pd := fun b xs e z => by rw [z, gM8] at e; cases e
     refine ⟨pd, _, _, rfl, rfl, gM8, by rw [z35]; exact ze (by show _ ≤ 1000000; omega), hPw _ _ _ ⟨M ++ [(pq, [V.int n, V.str h, V.str l, V.str st, V.int v])], _, rfl, by rw [za]; simp [reft], ⟨fun z hz => ?_, fun z hz => ?_⟩, ?_, by rw [List.length_append]; show _ + 1 ≤ _; omega, fun b o hb nb => by rw [zc nb]; exact sq _ _ (b7 _ _ hb nb)⟩⟩
     ·rcases List.mem_append.mp hz with hz | hz
      ·have := tM8.tu z hz
       rw [zc (nz _ _ this)]
       exact this
      ·rw [List.mem_singleton.mp hz, zc (nz _ _ gq)]
       exact gq
     ·rcases List.mem_append.mp hz with hz | hz
      ·exact tM8.sm z hz
      ·rw [List.mem_singleton.mp hz]
       refine ⟨by show 5 ≤ 10; decide, fun x hx => ?_⟩
       simp only [List.mem_cons, List.not_mem_nil, or_false] at hx
       rcases hx with rfl | rfl | rfl | rfl | rfl <;> first | exact .inl ⟨_, rfl⟩ | exact .inr (.inl ⟨_, rfl⟩)
     ·rw [List.map_append, eM, tk]
      unfold wOf
      rw [List.filter_append, List.filter_append]
      simp [isW, numW, hm, wrow]
    ·rintro σ H7 ⟨M, v7, rfl, gM, tM, eM, lM, b7⟩
     walk_at "rd"
     rw [z14] at lM
     refine hP _ _ _ ⟨M, _, _, rfl, gM, tM, ?_, by omega, b7⟩
     rw [eM, z14, List.take_length, hT, List.take_add_one, en]
     unfold z4n
     rw [List.flatMap_append]
     simp
   ·rintro σ H7 ⟨M, v6, v7, rfl, gM, tM, eM, lM, b7⟩
    rw [List.length_map, List.take_length] at eM
    walk_at "rd"
    have gl7 := b7 _ _ gl6 nld
    refine ⟨_, .inl (SqL.of gl7), fun ph hph => ?_⟩
    have s8 := Same.upd (o := .lst (refl L2)) hph
    have g8 : upd H7 ph (.lst (refl L2)) ph = some (.lst (refl L2)) := za
    generalize upd H7 ph (.lst (refl L2)) = H8 at s8 g8 ⊢
    have r8 : RowsAt H8 L2 := fun z hz => ((r6 z hz).but1W gd6 b7).mono s8
    have t8 : tbW H8 Pt_writes := TbOk.mono (z60 t6 gd6 b7) s8
    have nP : ∀ b xs, H8 b = some (.lst xs) → b ≠ Pt_writes := fun b xs e z => by
     obtain ⟨q0, hq⟩ := t8.some
     rw [z, hq] at e
     cases e
    have nT : ∀ b xs, H8 b = some (.tup xs) → b ≠ Pt_writes := fun b xs e z => by
     obtain ⟨q0, hq⟩ := t8.some
     rw [z, hq] at e
     cases e
    refine ⟨ph, L2, ks, rfl, g8, r8, l126, t8, hup, hcov, fun r M2 H9 g9 tM2 eM2 l2 b9 => ?_⟩
    have gd8 := s8 _ _ gM
    have gl8 := s8 _ _ gl7
    have gd9 := b9 _ _ gd8 (nP _ _ gd8)
    have gl9 := b9 _ _ gl8 (nP _ _ gl8)
    have gh9 := b9 _ _ g8 (nP _ _ g8)
    have tM9 : TupsAt H9 M := ⟨fun z hz => by have := s8 _ _ (tM.tu z hz); exact b9 _ _ this (nT _ _ this), tM.sm⟩
    have r9 : RowsAt H9 L2 := fun z hz => by
     obtain ⟨o, p, h1, h2⟩ := r8 z hz
     exact ⟨o, p, b9 _ _ h1 (nT _ _ h1), fun k => b9 _ _ (h2 k) (nT _ _ (h2 k))⟩
    rw [hT] at eM2
    refine ⟨_, _, rfl, z9l g9 gd9 tM2 tM9 (eM2.trans eM.symm) (by omega), fun HC sC => ⟨_, rfl, ?_⟩⟩
    rw [if_pos rfl]
    exact ⟨_, _, rfl, zac (sC _ _ gh9) (sC _ _ gl9) (r9.mono sC) (by omega), fun HD sD => q _⟩
def isG (q : Addr × Rw) : Bool := decide (q.2.kind = ("given" : Str))
theorem z61 (x : Int) {n : Nat} (h : 0 < n) : ∃ j : Nat, j < n ∧ x % (n : Int) = (j : Int) := by
 have h1 := Int.emod_nonneg x (show ((n : Nat) : Int) ≠ 0 by omega)
 have h2 := Int.emod_lt_of_pos x (show (0 : Int) < (n : Int) by omega)
 exact ⟨(x % (n : Int)).toNat, by omega, by omega⟩
def Givens (H : Hp) (G : LL) : Prop := ∀ q ∈ G, ∃ t h l sh n e p, H q.1 = some (.tup (Rw.vals p (.given t h l sh n e))) ∧ 0 ≤ n
theorem Givens.mono {H H' : Hp} {G : LL} (h : Givens H G) (s : Same H H') : Givens H' G := fun q hq => by
 obtain ⟨t, h, l, sh, n, e, p, g, h0⟩ := h q hq
 exact ⟨t, h, l, sh, n, e, p, s _ _ g, h0⟩
theorem z9n {m : Addr} {L : LL} {H : Hp} {σ : St} {QQ : VK} (hm : H m = some (.lst (refl L))) (hL : RowsAt H L) (hsn : ∀ z ∈ L, z.2.shortN) (h63 : L.length ≤ 63)
  (q : ∀ (G : LL) (pg : Addr) (H1 : Hp), Givens H1 G → H1 pg = some (.lst (refl G)) → Same H H1 → QQ (.ref pg) H1) :
  z26 (Itl K m) (z6t (tOp rEq (tOp (rIxT K) (tVar 0) (tC (V.int 0))) (tC (V.str (Str.ofString "given"))))) (tVar 0) [] σ H QQ := by
  refine z3a (xs := refl L) (by rw [z14]; exact ze (by omega)) (fun i acc H' => H' = H ∧ acc = refl ((L.take i).filter isG)) ⟨rfl, rfl⟩ ?_ ?_ ?_ ?_
  ·rintro i acc H' ⟨-, rfl⟩
   rw [z14]
   exact Nat.le_trans (List.length_filter_le _ _) (by rw [List.length_take]; omega)
  ·rintro i acc H' ⟨rfl, -⟩
   exact SqL.of hm
  ·rintro Nn i acc H' x hN hx hi ⟨rfl, rfl⟩
   obtain ⟨y, hy, rfl⟩ := z2k hx
   walk_at "rd"
   have stp := zab isG hy
   obtain ⟨ro, pr, hy1, hg1⟩ := hL _ (List.mem_of_getElem? hy)
   refine ⟨_, _, _, _, rfl, rfl, SqT.of hy1, zi (j := 0) rfl, rfl, ?_⟩
   by_cases hc : y.2.kind = "given"
   ·simp only [V.str.injEq, hc, decide_true, if_true]
    refine hN _ _ ⟨rfl, ?_⟩
    rw [stp]
    simp [hc, refl, isG]
   ·simp only [V.str.injEq, hc, decide_false, Bool.false_eq_true, if_false]
    refine hN _ _ ⟨rfl, ?_⟩
    rw [stp]
    simp [hc, isG]
  rintro acc H' ⟨rfl, rfl⟩ pg hpg
  rw [z14, List.take_length]
  refine q (L.filter isG) pg _ (fun q hq => ?_) za (Same.upd hpg)
  obtain ⟨h1, h2⟩ := List.mem_filter.mp hq
  obtain ⟨ro, p, h3, h4⟩ := hL q h1
  obtain ⟨t, h, l, sh, n, e, er⟩ := Rw.is_given ro (of_decide_eq_true h2)
  have h5 := hsn q h1
  rw [er] at h3 h5
  exact ⟨t, h, l, sh, n, e, p, Same.upd hpg _ _ h3, h5.2⟩
theorem z5n {G : LL} {pg : Addr} {H : Hp} {R : VK} (hG : Givens H G) (gg : H pg = some (.lst (refl G))) (hne : G ≠ []) (x : Int)
  (q : ∀ (a : Addr) t h l sh n e p, H a = some (.tup (Rw.vals p (.given t h l sh n e))) → 0 ≤ n → R (.ref a) H) : 0 < ((refl G).length : Int) ∧ rIxL K (V.ref pg) (V.int (x % ((refl G).length : Int))) H R := by
 have hl : 0 < (refl G).length := by rw [z14]; cases G with | nil => exact absurd rfl hne | cons a b => simp
 obtain ⟨j, hj, ej⟩ := z61 x hl
 refine ⟨by omega, ?_⟩
 rw [ej]
 have gx : (refl G)[j]? = some (refl G)[j] := List.getElem?_eq_getElem hj
 obtain ⟨y, hy, ey⟩ := z2k gx
 rw [ey] at gx
 obtain ⟨t, h, l, sh, n, e, p, g, h0⟩ := hG y (List.mem_of_getElem? hy)
 exact ⟨_, _, _, _, rfl, rfl, SqL.of gg, zi gx, q y.1 t h l sh n e p g h0⟩
theorem notE {G : LL} (h : G ≠ []) : (!(refl G).isEmpty) = true := by
 cases G with
 | nil => exact absurd rfl h
 | cons a b => rfl
theorem z7r : CPow 10 12 := ⟨by decide, by decide, by decide⟩
def z9o : Sp := fun vs H Q _ => ∃ (kind : Str) (rest : Int) (k : Nat) (m pl : Addr) (L : LL) (tick n : Int) (h l st : Str), vs = [.str kind, .int rest, .int k, .ref m, .ref pl] ∧ H m = some (.lst (refl L)) ∧ RowsAt H L ∧ (∀ z ∈ L, z.2.shortN) ∧ 0 ≤ n ∧ L.length ≤ 63 ∧ H pl = some (.tup [.int tick, .str h, .str l, .int n, .str st]) ∧ l.length ≤ 1000 ∧ ∀ (r : Addr) (rw' : Rw) (H' : Hp), RowAt H' r rw' → rw'.shortN → Same H H' → Q (.ref r) H'
theorem z5o (F : Def K mg "_law_log_row" z2j ["_law_kind", "_law_rest", "_law_k", "_law_made", "_law_place"]) (T : Txt K mg Pt_writes cd_writes) : Has P w K mg base 1 "_law_log_row" ["_law_kind", "_law_rest", "_law_k", "_law_made", "_law_place"] (z9o) := by
 refine F.ok sc__law_log_row (fun vs H Q E h => ?_) (fun f cdv A outer s H vs Q E hr h => ?_)
 ·obtain ⟨kind, rest, k, m, pl, L, tick, n, h, l, st, rfl, _⟩ := h
  rfl
 ·obtain ⟨kind, rest, k, m, pl, L, tick, n, h, l, st, rfl, hm, hL, hsn, hn, h63, hpl, hll, q⟩ := h
  have hu := hr.units0
  refine ⟨_, (@zb _ _ _ _ _ (@zbz _ _ _ _ _ _ (pv 4) (@zby _ _ _ _ _ _ rfl (@z2y _ _ _ _ _ (@z1n _ _ 5 _ sc__law_log_row.nd rfl (Or.inl rfl) (Or.inr rfl)) (@z2y _ _ _ _ _ (@z1n _ _ 6 _ sc__law_log_row.nd rfl (Or.inl rfl) (Or.inr rfl)) (@z2y _ _ _ _ _ (@z1n _ _ 7 _ sc__law_log_row.nd rfl (Or.inl rfl) (Or.inr rfl)) (@z2y _ _ _ _ _ (@z1n _ _ 8 _ sc__law_log_row.nd rfl (Or.inl rfl) (Or.inr rfl)) (@z2y _ _ _ _ _ (@z1n _ _ 9 _ sc__law_log_row.nd rfl (Or.inl rfl) (Or.inr rfl)) zbf rfl) rfl) rfl) rfl) rfl) rfl rfl) rfl rfl rfl) (@zb _ _ _ _ _ (@z5c _ _ "_law_row" ([]) ([]) _ _ _ _ _ _ _ _ 10 _ _ _ rfl ⟨rfl, by decide +kernel, by decide +kernel, rfl, z1l rfl, by decide +kernel, trivial⟩ sc__law_log_row.nd rfl (Or.inl rfl) (@z3g _ _ _ _ (pv 3)) (fun _ _ _ _ => (@z5s _ _ _ (@zl _ _ _ _ _ _ _ _ z11 (@zn _ _ _ _ _ _ _ (z3q (K := K)) (pv 0) z7 (fun _ _ => rfl)) z18 (zj _)))) (fun _ _ _ _ => (pv 0)) rfl (by intro _; rfl) (Or.inr rfl)) (@zb _ _ _ _ _ (@z10 _ _ _ _ _ _ _ _ (@zl _ _ _ _ _ _ _ _ z11 (pv 0) z18 (zj _)) (@zg _ _ _ (@zv _ _ _ _ (@z1g _ _ _ _ _ (@z0 _ _ _ _ _ (pv 0) (@z0 _ _ _ _ _ (pv 5) (@z0 _ _ _ _ _ (pv 6) (@z0 _ _ _ _ _ (pv 7) (@z0 _ _ _ _ _ (@z1o _ _ _ _ _ _ _ _ z11 (@z9 _ _ _ _ _ _ _ _ zm (@z9 _ _ _ _ _ _ _ _ zz (pv 1) z7) z7) z7 (zj _)) (@z0 _ _ _ _ _ (pv 8) (@z0 _ _ _ _ _ (@z9 _ _ _ _ _ _ _ _ z1c (@z9 _ _ _ _ _ _ _ _ z1c (pv 5) z7) (@z9 _ _ _ _ _ _ _ _ zm (@z9 _ _ _ _ _ _ _ _ zz (pv 1) z7) z7)) (@z0 _ _ _ _ _ (@z1g _ _ _ _ _ (@z0 _ _ _ _ _ z7 (@z0 _ _ _ _ _ z7 z8 rfl) rfl)) z8 rfl) rfl) rfl) rfl) rfl) rfl) rfl) rfl)))) zr) (@zb _ _ _ _ _ (@z10 _ _ _ _ _ _ _ _ (PW.pt (@z3e _ _ _ _ _ _ _ (@zl _ _ _ _ _ _ _ _ z11 (pv 0) z18 (zj _)) (@z3e _ _ _ _ _ _ _ (@zl _ _ _ _ _ _ _ _ (z75 hu) (pv 10) (@z1x _ _ _ _ z8) (zj _)) (@z4a _ _ _ _ (@zl _ _ _ _ _ _ _ _ zb8 (@z9 _ _ _ _ _ _ _ _ zm (pv 1) z7) z7 (zj _)))))) (@zb _ _ _ _ _ (@zq _ _ 11 _ _ _ _ sc__law_log_row.nd rfl (Or.inl rfl) (@zn _ _ _ _ _ _ _ ix_list (pv 10) (@z9 _ _ _ _ _ _ _ _ zm (@z9 _ _ _ _ _ _ _ _ z1c (@z9 _ _ _ _ _ _ _ _ zz (pv 1) z7) (pv 2)) (@zd _ _ _ _ _ _ _ _ _ zy rfl T.b_len (by decide +kernel) (@z0 _ _ _ _ _ (pv 10) z8 rfl) (by decide) (by decide) rfl rfl)) (fun _ _ => rfl)) rfl (Or.inr rfl)) (@zg _ _ _ (@zv _ _ _ _ (@z1g _ _ _ _ _ (@z0 _ _ _ _ _ (pv 0) (@z0 _ _ _ _ _ (@zn _ _ _ _ _ _ _ ix_list (@z1x _ _ _ _ (@z0 _ _ _ _ _ (pv 5) (@z0 _ _ _ _ _ (@z9 _ _ _ _ _ _ _ _ z3j (@zn _ _ _ _ _ _ _ ix_tup (pv 11) z7 (fun _ _ => rfl)) z7) z8 rfl) rfl)) (@z9 _ _ _ _ _ _ _ _ zm (pv 1) z7) (fun _ _ => rfl)) (@z0 _ _ _ _ _ (@zn _ _ _ _ _ _ _ ix_tup (pv 11) z7 (fun _ _ => rfl)) (@z0 _ _ _ _ _ (@zn _ _ _ _ _ _ _ ix_tup (pv 11) z7 (fun _ _ => rfl)) (@z0 _ _ _ _ _ (@zn _ _ _ _ _ _ _ ix_tup (pv 11) z7 (fun _ _ => rfl)) z8 rfl) rfl) rfl) rfl) rfl))))) zr) (@zb _ _ _ _ _ (@z10 _ _ _ _ _ _ _ _ (@zl _ _ _ _ _ _ _ _ z11 (pv 0) z18 (zj _)) (@zg _ _ _ (@zv _ _ _ _ (@z1g _ _ _ _ _ (@z0 _ _ _ _ _ (pv 0) (@z0 _ _ _ _ _ (pv 5) (@z0 _ _ _ _ _ (pv 6) (@z0 _ _ _ _ _ (pv 7) (@z0 _ _ _ _ _ (pv 8) z8 rfl) rfl) rfl) rfl) rfl)))) zr) (@zb _ _ _ _ _ (@z10 _ _ _ _ _ _ _ _ (PW.pt (@z3e _ _ _ _ _ _ _ (@zl _ _ _ _ _ _ _ _ z11 (pv 0) z18 (zj _)) (@z3e _ _ _ _ _ _ _ (@zl _ _ _ _ _ _ _ _ (z75 hu) (pv 10) (@z1x _ _ _ _ z8) (zj _)) (@z4a _ _ _ _ (@zl _ _ _ _ _ _ _ _ zb8 (@z9 _ _ _ _ _ _ _ _ zm (pv 1) z7) z7 (zj _)))))) (@zb _ _ _ _ _ (@zq _ _ 11 _ _ _ _ sc__law_log_row.nd rfl (Or.inl rfl) (@zn _ _ _ _ _ _ _ ix_list (pv 10) (@z9 _ _ _ _ _ _ _ _ zm (@z9 _ _ _ _ _ _ _ _ z1c (@z9 _ _ _ _ _ _ _ _ zz (pv 1) z7) (pv 2)) (@zd _ _ _ _ _ _ _ _ _ zy rfl T.b_len (by decide +kernel) (@z0 _ _ _ _ _ (pv 10) z8 rfl) (by decide) (by decide) rfl rfl)) (fun _ _ => rfl)) rfl (Or.inr rfl)) (@zg _ _ _ (@zv _ _ _ _ (@z1g _ _ _ _ _ (@z0 _ _ _ _ _ (pv 0) (@z0 _ _ _ _ _ (pv 5) (@z0 _ _ _ _ _ (@zn _ _ _ _ _ _ _ ix_tup (pv 11) z7 (fun _ _ => rfl)) (@z0 _ _ _ _ _ (@zn _ _ _ _ _ _ _ ix_tup (pv 11) z7 (fun _ _ => rfl)) (@z0 _ _ _ _ _ (@zn _ _ _ _ _ _ _ ix_tup (pv 11) z7 (fun _ _ => rfl)) (@z0 _ _ _ _ _ (pv 9) (@z0 _ _ _ _ _ (@z9 _ _ _ _ _ _ _ _ zm (pv 1) (@z9 _ _ _ _ _ _ _ _ z3y z7 z7)) z8 rfl) rfl) rfl) rfl) rfl) rfl) rfl))))) zr) (@zb _ _ _ _ _ (@z10 _ _ _ _ _ _ _ _ (@zl _ _ _ _ _ _ _ _ z11 (pv 0) z18 (zj _)) (@zg _ _ _ (@zv _ _ _ _ (@z1g _ _ _ _ _ (@z0 _ _ _ _ _ (pv 0) (@z0 _ _ _ _ _ (pv 5) (@z0 _ _ _ _ _ (pv 6) (@z0 _ _ _ _ _ (pv 7) (@z0 _ _ _ _ _ (pv 8) (@z0 _ _ _ _ _ (pv 9) (@z0 _ _ _ _ _ (@z9 _ _ _ _ _ _ _ _ zm (pv 1) (@z9 _ _ _ _ _ _ _ _ z3y z7 z7)) z8 rfl) rfl) rfl) rfl) rfl) rfl) rfl)))) zr) (@zb _ _ _ _ _ (@z10 _ _ _ _ _ _ _ _ (@zl _ _ _ _ _ _ _ _ z11 (pv 0) z18 (zj _)) (@zg _ _ _ (@zv _ _ _ _ (@z1g _ _ _ _ _ (@z0 _ _ _ _ _ (pv 0) (@z0 _ _ _ _ _ (pv 5) (@z0 _ _ _ _ _ (pv 6) (@z0 _ _ _ _ _ (pv 7) (@z0 _ _ _ _ _ (pv 8) (@z0 _ _ _ _ _ (pv 9) (@z0 _ _ _ _ _ (@z9 _ _ _ _ _ _ _ _ zm (pv 1) (@z9 _ _ _ _ _ _ _ _ z3y z7 z7)) (@z0 _ _ _ _ _ (@z9 _ _ _ _ _ _ _ _ zm (@z9 _ _ _ _ _ _ _ _ zz (pv 1) z7) z7) z8 rfl) rfl) rfl) rfl) rfl) rfl) rfl) rfl)))) zr) (@zb _ _ _ _ _ (@z10 _ _ _ _ _ _ _ _ (@zl _ _ _ _ _ _ _ _ z11 (pv 0) z18 (zj _)) (@zg _ _ _ (@zv _ _ _ _ (@z1g _ _ _ _ _ (@z0 _ _ _ _ _ (pv 0) (@z0 _ _ _ _ _ (pv 5) (@z0 _ _ _ _ _ (pv 6) (@z0 _ _ _ _ _ (pv 7) (@z0 _ _ _ _ _ (@z1o _ _ _ _ _ _ _ _ z11 (@z9 _ _ _ _ _ _ _ _ zm (pv 1) z7) z7 (zj _)) (@z0 _ _ _ _ _ (@z9 _ _ _ _ _ _ _ _ z1c z7 (@z9 _ _ _ _ _ _ _ _ zm (pv 1) z7)) z8 rfl) rfl) rfl) rfl) rfl) rfl)))) zr) (@zb _ _ _ _ _ (@z10 _ _ _ _ _ _ _ _ (@zl _ _ _ _ _ _ _ _ z11 (pv 0) z18 (zj _)) (@zg _ _ _ (@zv _ _ _ _ (@z1g _ _ _ _ _ (@z0 _ _ _ _ _ (pv 0) (@z0 _ _ _ _ _ (pv 5) (@z0 _ _ _ _ _ (pv 6) z8 rfl) rfl) rfl)))) zr) (@zg _ _ _ (@zv _ _ _ _ (@z1g _ _ _ _ _ (@z0 _ _ _ _ _ (pv 0) (@z0 _ _ _ _ _ (pv 5) (@z0 _ _ _ _ _ (@z9 _ _ _ _ _ _ _ _ z1c z7 (@z9 _ _ _ _ _ _ _ _ zm (pv 1) z7)) z8 rfl) rfl) rfl)))))))))))))), ?_⟩
  walk_at "rd"
  refine ⟨_, SqT.of hpl, rfl, _, _, rfl, _, _, rfl, _, _, rfl, _, _, rfl, _, _, rfl, rfl, ⟨_, SqL.of hm⟩, ?_⟩
  refine z9n hm hL hsn h63 fun G pg H1 hG gg sg => ?_
  by_cases k1 : kind = "given"
  ·subst k1
   simp only [decide_true, if_true]
   refine ⟨cdiv (by decide) (by decide), by decide, _, rfl, cdiv (by decide) (by decide), by decide, ze (by decide), fun p1 hp1 => ⟨ze (by decide), fun p2 hp2 => ?_⟩⟩
   exact q p2 (.given tick h l _ n _) _ ⟨trivial, p1, za, fun _ => by rw [zc (zf za hp2), za]⟩ ⟨hll, hn⟩ ((sg.trans (Same.upd hp1)).trans (Same.upd hp2))
  by_cases k2 : kind = "back"
  ·subst k2
   simp only [k1, decide_true, if_true, decide_false, Bool.false_eq_true, if_false]
   refine ⟨Nat.zero_le _, fun p1 hp1 => ⟨pg, rfl, _, SqL.of (Same.upd hp1 _ _ gg), SqL.of za, ?_⟩⟩
   have s1 := sg.trans (Same.upd (o := .lst []) hp1)
   have g1 := Same.upd (o := .lst []) hp1 _ _ gg
   have hG1 := hG.mono (Same.upd (o := .lst []) hp1)
   generalize upd H1 p1 (.lst []) = H2 at s1 g1 hG1 ⊢
   have other : ∀ p2, H2 p2 = none → Q (.ref p2) (upd H2 p2 (.tup [V.str "back", V.int tick, V.str h, V.str l, V.int n])) := fun p2 hp2 => by
    exact q p2 (.back tick h l n) _ ⟨trivial, p2, za, fun z => absurd z.symm k_gb⟩ trivial (s1.trans (Same.upd hp2))
   by_cases hne : G = []
   ·subst hne
    rw [if_neg (by show ¬ ((!([] : List V).isEmpty) = true); decide)]
    exact ⟨ze (by decide), other⟩
   rw [if_pos (notE hne)]
   refine ⟨by decide, ite2 (fun _ => ?_) (fun _ => ⟨ze (by decide), other⟩)⟩
   refine ⟨cdiv (by decide) (by decide), pg, rfl, _, .inl (SqL.of g1), ?_⟩
   refine z5n hG1 g1 hne _ fun a t' h' l' sh' n' e' p' ga h0' => ?_
   refine ⟨_, _, _, _, rfl, rfl, SqT.of ga, zi (j := 6) rfl, _, rfl, ze (by decide), fun p3 hp3 => ⟨by decide, ?_⟩⟩
   have s3 := s1.trans (Same.upd (o := .lst [V.int tick, V.int (e' - 1)]) hp3)
   have ga3 := Same.upd (o := .lst [V.int tick, V.int (e' - 1)]) hp3 _ _ ga
   have fin : ∀ x : Int, (fun x_2 H1 =>
                rIxT K (V.ref a) (V.int 2) H1 fun x_3 H1 =>
                 rIxT K (V.ref a) (V.int 3) H1 fun x_4 H1 =>
                  rIxT K (V.ref a) (V.int 5) H1 fun x H1 =>
                   5 ≤ sizeLine ∧
                    ∀ (p : Addr),
                     H1 p = none → Q (V.ref p) (upd H1 p (HO.tup [V.str "back", x_2, x_3, x_4, x]))) (V.int x) (upd H2 p3 (.lst [V.int tick, V.int (e' - 1)])) := fun x => by
    refine ⟨_, _, _, _, rfl, rfl, SqT.of ga3, zi (j := 2) rfl, ?_⟩
    refine ⟨_, _, _, _, rfl, rfl, SqT.of ga3, zi (j := 3) rfl, ?_⟩
    refine ⟨_, _, _, _, rfl, rfl, SqT.of ga3, zi (j := 5) rfl, ze (by decide), fun p4 hp4 => ?_⟩
    exact q p4 (.back x h' l' n') _ ⟨trivial, p4, za, fun z => absurd z.symm k_gb⟩ trivial (s3.trans (Same.upd hp4))
   obtain e2 | e2 : rest % 2 = ((0 : Nat) : Int) ∨ rest % 2 = ((1 : Nat) : Int) := by omega
   ·rw [e2]
    exact ⟨_, _, _, _, rfl, rfl, SqL.of za, zi rfl, fin _⟩
   ·rw [e2]
    exact ⟨_, _, _, _, rfl, rfl, SqL.of za, zi rfl, fin _⟩
  by_cases k3 : kind = "taken"
  ·subst k3
   simp only [k1, k2, decide_true, if_true, decide_false, Bool.false_eq_true, if_false]
   refine ⟨Nat.zero_le _, fun p1 hp1 => ⟨pg, rfl, _, SqL.of (Same.upd hp1 _ _ gg), SqL.of za, ?_⟩⟩
   have s1 := sg.trans (Same.upd (o := .lst []) hp1)
   have g1 := Same.upd (o := .lst []) hp1 _ _ gg
   have hG1 := hG.mono (Same.upd (o := .lst []) hp1)
   generalize upd H1 p1 (.lst []) = H2 at s1 g1 hG1 ⊢
   have c12 : CPow 10 12 := z7r
   have z12 : (0 : Int) < 10 ^ Int.toNat 12 := by decide
   by_cases hne : G = []
   ·subst hne
    rw [if_neg (by show ¬ ((!([] : List V).isEmpty) = true); decide)]
    exact ⟨c12, z12, ze (by decide), fun p2 hp2 => q p2 (.taken tick h l n st _) _ ⟨trivial, p2, za, fun z => absurd z.symm k_gt⟩ hn (s1.trans (Same.upd hp2))⟩
   rw [if_pos (notE hne)]
   refine ⟨by decide, ite2 (fun _ => ?_) (fun _ => ⟨c12, z12, ze (by decide), fun p2 hp2 => q p2 (.taken tick h l n st _) _ ⟨trivial, p2, za, fun z => absurd z.symm k_gt⟩ hn (s1.trans (Same.upd hp2))⟩)⟩
   refine ⟨cdiv (by decide) (by decide), pg, rfl, _, .inl (SqL.of g1), ?_⟩
   refine z5n hG1 g1 hne _ fun a t' h' l' sh' n' e' p' ga h0' => ?_
   refine ⟨_, _, _, _, rfl, rfl, SqT.of ga, zi (j := 2) rfl, ?_⟩
   refine ⟨_, _, _, _, rfl, rfl, SqT.of ga, zi (j := 3) rfl, ?_⟩
   refine ⟨_, _, _, _, rfl, rfl, SqT.of ga, zi (j := 5) rfl, c12, z12, ze (by decide), fun p4 hp4 => ?_⟩
   exact q p4 (.taken tick h' l' n' st _) _ ⟨trivial, p4, za, fun z => absurd z.symm k_gt⟩ h0' (s1.trans (Same.upd hp4))
  by_cases k4 : kind = "stale"
  ·subst k4
   simp only [k1, k2, k3, decide_true, if_true, decide_false, Bool.false_eq_true, if_false]
   exact ⟨z7r, by decide, cdiv (by decide) (by decide), by decide, ze (by decide), fun p2 hp2 => q p2 (.stale tick h l n st _ _) _ ⟨trivial, p2, za, fun z => absurd z.symm k_gs⟩ trivial (sg.trans (Same.upd hp2))⟩
  simp only [k1, k2, k3, k4, decide_false, Bool.false_eq_true, if_false]
  have pz : ∀ i : Int, z2v (.int i) := fun i => .inl ⟨_, rfl⟩
  have ps : ∀ i : Str, z2v (.str i) := fun i => .inr (.inl ⟨_, rfl⟩)
  have pb : ∀ i : Bool, z2v (.bl i) := fun i => .inr (.inr ⟨_, rfl⟩)
  refine ite2 (fun _ => ?_) (fun _ => ite2 (fun _ => ?_) (fun _ => ?_))
  ·refine ⟨by decide, by decide, ze (by decide), fun p2 hp2 => q p2 (.other kind [.int tick, .str h, .str l, .bl _, .int _]) _ ⟨⟨k1, k2, k3, k4, by show 5 ≤ 10; decide, fun x hx => ?_⟩, p2, za, fun z => absurd z k1⟩ ⟨_, _, rfl⟩ (sg.trans (Same.upd hp2))⟩
   simp only [List.mem_cons, List.not_mem_nil, or_false] at hx
   rcases hx with rfl | rfl | rfl | rfl | rfl <;> first | exact pz _ | exact ps _ | exact pb _
  ·refine ⟨ze (by decide), fun p2 hp2 => q p2 (.other kind [.int tick, .str h]) _ ⟨⟨k1, k2, k3, k4, by show 2 ≤ 10; decide, fun x hx => ?_⟩, p2, za, fun z => absurd z k1⟩ ⟨_, _, rfl⟩ (sg.trans (Same.upd hp2))⟩
   simp only [List.mem_cons, List.not_mem_nil, or_false] at hx
   rcases hx with rfl | rfl <;> first | exact pz _ | exact ps _
  ·refine ⟨by decide, ze (by decide), fun p2 hp2 => q p2 (.other kind [.int tick, .int _]) _ ⟨⟨k1, k2, k3, k4, by show 2 ≤ 10; decide, fun x hx => ?_⟩, p2, za, fun z => absurd z k1⟩ ⟨_, _, rfl⟩ (sg.trans (Same.upd hp2))⟩
   simp only [List.mem_cons, List.not_mem_nil, or_false] at hx
   rcases hx with rfl | rfl <;> first | exact pz _ | exact ps _
theorem z3w {zs : List Str} {n : Nat} (hl : zs.length = n) (h : 0 < n) (x : Int) : ∃ (j : Nat) (z : Str), x % (n : Int) = (j : Int) ∧ (zs.map V.str)[j]? = some (.str z) ∧ z ∈ zs := by
 obtain ⟨j, hj, ej⟩ := z61 x h
 refine ⟨j, zs[j], ej, ?_, List.getElem_mem _⟩
 rw [List.getElem?_map, List.getElem?_eq_getElem (by omega)]
 rfl
theorem z7s (xs : List Int) {n : Nat} (hl : xs.length = n) (h : 0 < n) (x : Int) : ∃ (j : Nat) (z : Int), x % (n : Int) = (j : Int) ∧ (xs.map V.int)[j]? = some (.int z) := by
 obtain ⟨j, hj, ej⟩ := z61 x h
 refine ⟨j, xs[j], ej, ?_⟩
 rw [List.getElem?_map, List.getElem?_eq_getElem (by omega)]
 rfl
def z8p (K : PySem.W.Frag) : TS := (tSeq (tAsg (tOp (rIxL K) (tVar 0) (tVar 6)) (z1r 7)) (tSeq (tAsg (tOp (rIxL K) (tLst (z13 (tC (V.str (Str.ofString "given"))) (z13 (tC (V.str (Str.ofString "taken"))) (z13 (tC (V.str (Str.ofString "given"))) (z13 (tC (V.str (Str.ofString "back"))) (z13 (tC (V.str (Str.ofString "taken"))) (z13 (tC (V.str (Str.ofString "stale"))) (z13 (tC (V.str (Str.ofString "given"))) (z13 (tC (V.str (Str.ofString "ask"))) (z13 (tC (V.str (Str.ofString "pause"))) (z13 (tC (V.str (Str.ofString "fall"))) tNil))))))))))) (tOp (rI (fun (_ : Int) (j : Int) => 0 < j) fun i j => V.int (i % j)) (tVar 7) (tC (V.int 10)))) (z1r 8)) (tSeq (tAsg (tOp (rI CDiv fun i j => V.int (i / j)) (tVar 7) (tC (V.int 10))) (z1r 9)) (tSeq (tAsg (tOp (rIxL K) (tLst (z13 (tOp (rI CDiv fun i j => V.int (i / j)) (tVar 6) (tC (V.int 2))) (z13 (tOp (rI (fun (_ : Int) (j : Int) => 0 < j) fun i j => V.int (i % j)) (tOp (rI0 fun i j => V.int (i + j)) (tVar 9) (tVar 6)) (tC (V.int 20))) (z13 (tOp (rI (fun (_ : Int) (j : Int) => 0 < j) fun i j => V.int (i % j)) (tOp (rI CDiv fun i j => V.int (i / j)) (tVar 9) (tC (V.int 7))) (tOp (rI CPow fun i j => V.int (i ^ j.toNat)) (tC (V.int 10)) (tC (V.int 11)))) tNil)))) (tOp (rI (fun (_ : Int) (j : Int) => 0 < j) fun i j => V.int (i % j)) (tVar 6) (tC (V.int 3)))) (z1r 10)) (tSeq (tAsg (tOp (rIxL K) (tLst (z13 (tOp (rI CDiv fun i j => V.int (i / j)) (tVar 6) (tC (V.int 3))) (z13 (tOp (rI (fun (_ : Int) (j : Int) => 0 < j) fun i j => V.int (i % j)) (tOp (rI CDiv fun i j => V.int (i / j)) (tVar 9) (tC (V.int 12))) (tC (V.int 5))) (z13 (tOp (rI (fun (_ : Int) (j : Int) => 0 < j) fun i j => V.int (i % j)) (tOp (rI CDiv fun i j => V.int (i / j)) (tVar 9) (tC (V.int 12))) (tC (V.int 2))) (z13 (tOp (rI (fun (_ : Int) (j : Int) => 0 < j) fun i j => V.int (i % j)) (tOp (rI CDiv fun i j => V.int (i / j)) (tVar 9) (tC (V.int 12))) (tOp (rI CPow fun i j => V.int (i ^ j.toNat)) (tC (V.int 10)) (tC (V.int 12)))) tNil))))) (tOp (rI (fun (_ : Int) (j : Int) => 0 < j) fun i j => V.int (i % j)) (tOp (rI0 fun i j => V.int (i + j)) (tVar 9) (tOp (rI CDiv fun i j => V.int (i / j)) (tVar 6) (tC (V.int 7)))) (tC (V.int 4)))) (z1r 11)) (tSeq (tAsg (tOp (rIxL K) (tVar 2) (tOp (rI (fun (_ : Int) (j : Int) => 0 < j) fun i j => V.int (i % j)) (tOp (rI0 fun i j => V.int (i + j)) (tVar 9) (tOp (rI CDiv fun i j => V.int (i / j)) (tVar 6) (tC (V.int 2)))) (tC (V.int 3)))) (z1r 12)) (tSeq (tAsg (tOp (rIxL K) (tVar 3) (tOp (rI (fun (_ : Int) (j : Int) => 0 < j) fun i j => V.int (i % j)) (tOp (rI0 fun i j => V.int (i + j)) (tOp (rI CDiv fun i j => V.int (i / j)) (tVar 9) (tC (V.int 3))) (tOp (rI CDiv fun i j => V.int (i / j)) (tVar 6) (tC (V.int 5)))) (tC (V.int 4)))) (z1r 13)) (tSeq (tAsg (tTup (z13 (tVar 10) (z13 (tVar 12) (z13 (tVar 13) (z13 (tVar 11) (z13 (tOp (rIxL K) (tVar 4) (tOp (rI (fun (_ : Int) (j : Int) => 0 < j) fun i j => V.int (i % j)) (tOp (rI CDiv fun i j => V.int (i / j)) (tVar 9) (tC (V.int 2))) (tC (V.int 2)))) tNil)))))) (z1r 14)) (z6s (tBM K "list" z8c (tVar 5) (z13 (z57 z9o [] E0 (z13 (tVar 8) (z13 (tVar 9) (z13 (tVar 6) (z13 (tVar 5) (z13 (tVar 14) tNil)))))) tNil)))))))))))
theorem zb3 {a p hs ls ss : Addr} {ns : List Int} {zs lz sz : List Str} {H0 : Hp} {D : Ends} (ha : SqL K H0 a (ns.map V.int)) (hns : ns.length ≤ 63) (h1 : H0 hs = some (.lst (zs.map V.str))) (h2 : H0 ls = some (.lst (lz.map V.str))) (h3 : H0 ss = some (.lst (sz.map V.str)))
  (l1 : zs.length = 3) (l2 : lz.length = 4) (l3 : sz.length = 2) (hp : H0 p = none) (hlz : ∀ z ∈ lz, z.length ≤ 200)
  (q : ∀ (L : LL) (H' : Hp) v6 v7 v8 v9 v10 v11 v12 v13 v14, L.length ≤ 63 → H' p = some (.lst (refl L)) → RowsAt H' L → (∀ z ∈ L, z.2.shortN) → Same H0 H' → D.nx [some (V.ref a), some (V.int 3), some (V.ref hs), some (V.ref ls), some (V.ref ss), some (V.ref p), v6, v7, v8, v9, v10, v11, v12, v13, v14] H') :
  z6u (Itr 3 ((ns.length : Int) - 3).toNat) (z1r 6) (z8p K) D [some (V.ref a), some (V.int 3), some (V.ref hs), some (V.ref ls), some (V.ref ss), some (V.ref p), none, none, none, none, none, none, none, none, none] (upd H0 p (.lst [])) := by
 refine z2l (fun i σ H' => ∃ (L : LL) (v6 v7 v8 v9 v10 v11 v12 v13 v14 : Option V), σ = [some (V.ref a), some (V.int 3), some (V.ref hs), some (V.ref ls), some (V.ref ss), some (V.ref p), v6, v7, v8, v9, v10, v11, v12, v13, v14] ∧ L.length = i ∧ H' p = some (.lst (refl L)) ∧ RowsAt H' L ∧ (∀ z ∈ L, z.2.shortN) ∧ Same H0 H') ⟨[], _, _, _, _, _, _, _, _, _, rfl, rfl, za, (fun q hq => by cases hq), (fun q hq => by cases hq), Same.upd hp⟩ ?_ ?_
 ·rintro Pv hP i σ H' hi ⟨L, v6, v7, v8, v9, v10, v11, v12, v13, v14, rfl, hL, gp, rL, shL, s1⟩
  unfold z8p
  walk_at "rd"
  have h3i : 3 + i < ns.length := by omega
  have gi : (ns.map V.int)[3 + i]? = some (.int ns[3 + i]) := by rw [List.getElem?_map, List.getElem?_eq_getElem h3i]; rfl
  have e3 : (3 : Int) + (i : Int) = ((3 + i : Nat) : Int) := by omega
  generalize ns[3 + i] = c at gi
  refine ⟨_, _, _, _, rfl, rfl, s1.seq ha, (by rw [e3]; exact zi gi), ze (by decide), fun p1 hp1 => ⟨_, rfl, by decide, ?_⟩⟩
  obtain ⟨j1, z1, ej1, gz1, -⟩ : ∃ (j : Nat) (z : Str), c % 10 = (j : Int) ∧ ((["given", "taken", "given", "back", "taken", "stale", "given", "ask", "pause", "fall"] : List Str).map V.str)[j]? = some (.str z) ∧ z ∈ (["given", "taken", "given", "back", "taken", "stale", "given", "ask", "pause", "fall"] : List Str) := z3w (n := 10) (zs := ["given", "taken", "given", "back", "taken", "stale", "given", "ask", "pause", "fall"]) rfl (by decide) c
  refine ⟨_, _, _, _, rfl, rfl, SqL.of za, (by rw [ej1]; exact zi gz1), ?_⟩
  have s2 := s1.trans (Same.upd (o := .lst ((["given", "taken", "given", "back", "taken", "stale", "given", "ask", "pause", "fall"] : List Str).map V.str)) hp1)
  have gp2 := Same.upd (o := .lst ((["given", "taken", "given", "back", "taken", "stale", "given", "ask", "pause", "fall"] : List Str).map V.str)) hp1 _ _ gp
  have rL2 := rL.mono (Same.upd (o := .lst ((["given", "taken", "given", "back", "taken", "stale", "given", "ask", "pause", "fall"] : List Str).map V.str)) hp1)
  simp only [List.map_cons, List.map_nil] at s2 gp2 rL2
  generalize upd H' p1 _ = H2 at s2 gp2 rL2 ⊢
  refine ⟨_, rfl, cdiv (by decide) (by decide), cdiv (by decide) (by decide), by decide, cdiv (by decide) (by decide), ⟨by decide, by decide, by decide⟩, by decide, ze (by decide), fun p2 hp2 => ⟨by decide, ?_⟩⟩
  obtain ⟨j2, z2, ej2, gz2⟩ := z7s [(3 + (i : Int)) / 2, (c / 10 + (3 + (i : Int))) % 20, c / 10 / 7 % 10 ^ Int.toNat 11] (n := 3) rfl (by decide) (3 + (i : Int))
  refine ⟨_, _, _, _, rfl, rfl, SqL.of za, (show atI _ ((3 + (i : Int)) % ((3 : Nat) : Int)) = some (V.int z2) by rw [ej2]; exact zi gz2), ?_⟩
  have gp3 := Same.upd (o := .lst [V.int ((3 + (i : Int)) / 2), V.int ((c / 10 + (3 + (i : Int))) % 20), V.int (c / 10 / 7 % 10 ^ Int.toNat 11)]) hp2 _ _ gp2
  have rL3 := rL2.mono (Same.upd (o := .lst [V.int ((3 + (i : Int)) / 2), V.int ((c / 10 + (3 + (i : Int))) % 20), V.int (c / 10 / 7 % 10 ^ Int.toNat 11)]) hp2)
  have s3 := s2.trans (Same.upd (o := .lst [V.int ((3 + (i : Int)) / 2), V.int ((c / 10 + (3 + (i : Int))) % 20), V.int (c / 10 / 7 % 10 ^ Int.toNat 11)]) hp2)
  generalize upd H2 p2 _ = H3 at s3 gp3 rL3 ⊢
  refine ⟨cdiv (by decide) (by decide), cdiv (by decide) (by decide), by decide, cdiv (by decide) (by decide), by decide, cdiv (by decide) (by decide), z7r, by decide, ze (by decide), fun p3 hp3 => ⟨cdiv (by decide) (by decide), by decide, ?_⟩⟩
  obtain ⟨j3, z3, ej3, gz3⟩ := z7s [(3 + (i : Int)) / 3, c / 10 / 12 % 5, c / 10 / 12 % 2, c / 10 / 12 % 10 ^ Int.toNat 12] (n := 4) rfl (by decide) (c / 10 + (3 + (i : Int)) / 7)
  have nn3 : 0 ≤ z3 := by
   have h3 : j3 < 4 := by omega
   have p12 : (0 : Int) < 10 ^ Int.toNat 12 := by decide
   have m3 := Int.emod_nonneg (c / 10 / 12) (show (10 ^ Int.toNat 12 : Int) ≠ 0 by omega)
   have m1 := Int.emod_nonneg (c / 10 / 12) (show (5 : Int) ≠ 0 by decide)
   have m2 := Int.emod_nonneg (c / 10 / 12) (show (2 : Int) ≠ 0 by decide)
   have m0 : 0 ≤ (3 + (i : Int)) / 3 := by omega
   match j3, h3, gz3 with
   | 0, _, g => cases g; exact m0
   | 1, _, g => cases g; exact m1
   | 2, _, g => cases g; exact m2
   | 3, _, g => cases g; exact m3
  refine ⟨_, _, _, _, rfl, rfl, SqL.of za, (show atI _ ((c / 10 + (3 + (i : Int)) / 7) % ((4 : Nat) : Int)) = some (V.int z3) by rw [ej3]; exact zi gz3), ?_⟩
  have gp4 := Same.upd (o := .lst [V.int ((3 + (i : Int)) / 3), V.int (c / 10 / 12 % 5), V.int (c / 10 / 12 % 2), V.int (c / 10 / 12 % 10 ^ Int.toNat 12)]) hp3 _ _ gp3
  have rL4 := rL3.mono (Same.upd (o := .lst [V.int ((3 + (i : Int)) / 3), V.int (c / 10 / 12 % 5), V.int (c / 10 / 12 % 2), V.int (c / 10 / 12 % 10 ^ Int.toNat 12)]) hp3)
  have s4 := s3.trans (Same.upd (o := .lst [V.int ((3 + (i : Int)) / 3), V.int (c / 10 / 12 % 5), V.int (c / 10 / 12 % 2), V.int (c / 10 / 12 % 10 ^ Int.toNat 12)]) hp3)
  generalize upd H3 p3 _ = H4 at s4 gp4 rL4 ⊢
  obtain ⟨j4, z4, ej4, gz4, -⟩ := z3w l1 (by decide) (c / 10 + (3 + (i : Int)) / 2)
  refine ⟨cdiv (by decide) (by decide), by decide, _, _, _, _, rfl, rfl, SqL.of (s4 _ _ h1), (show atI _ ((c / 10 + (3 + (i : Int)) / 2) % ((3 : Nat) : Int)) = some (V.str z4) by rw [ej4]; exact zi gz4), ?_⟩
  obtain ⟨j5, z5, ej5, gz5, mz5⟩ := z3w l2 (by decide) (c / 10 / 3 + (3 + (i : Int)) / 5)
  refine ⟨cdiv (by decide) (by decide), cdiv (by decide) (by decide), by decide, _, _, _, _, rfl, rfl, SqL.of (s4 _ _ h2), (show atI _ ((c / 10 / 3 + (3 + (i : Int)) / 5) % ((4 : Nat) : Int)) = some (V.str z5) by rw [ej5]; exact zi gz5), ?_⟩
  obtain ⟨j6, z6, ej6, gz6, -⟩ := z3w l3 (by decide) (c / 10 / 2)
  refine ⟨cdiv (by decide) (by decide), by decide, _, _, _, _, rfl, rfl, SqL.of (s4 _ _ h3), (show atI _ ((c / 10 / 2) % ((2 : Nat) : Int)) = some (V.str z6) by rw [ej6]; exact zi gz6), ze (by decide), fun p6 hp6 => ?_⟩
  have s6 := s4.trans (Same.upd (o := .tup [V.int z2, V.str z4, V.str z5, V.int z3, V.str z6]) hp6)
  have gp6 := Same.upd (o := .tup [V.int z2, V.str z4, V.str z5, V.int z3, V.str z6]) hp6 _ _ gp4
  have rL6 := rL4.mono (Same.upd (o := .tup [V.int z2, V.str z4, V.str z5, V.int z3, V.str z6]) hp6)
  have g6 : upd H4 p6 (.tup [V.int z2, V.str z4, V.str z5, V.int z3, V.str z6]) p6 = some (.tup [V.int z2, V.str z4, V.str z5, V.int z3, V.str z6]) := za
  generalize upd H4 p6 (.tup [V.int z2, V.str z4, V.str z5, V.int z3, V.str z6]) = H6 at s6 gp6 rL6 g6 ⊢
  refine ⟨.inl ⟨_, SqL.of gp6⟩, z1, c / 10, 3 + i, p, p6, L, z2, z3, z4, z5, z6, by rw [e3], gp6, rL6, shL, nn3, by omega, g6, Nat.le_trans (hlz z5 mz5) (by decide), fun r rw' H7 hr7 hs7 s7 => ?_⟩
  refine ⟨_, _, _, rfl, rfl, s7 _ _ gp6, by rw [z14]; exact z36 (by omega), hP _ _ _ ⟨L ++ [(r, rw')], _, _, _, _, _, _, _, _, _, rfl, by simp [hL], by rw [za]; simp [refl], fun z hz => ?_, fun z hz => ?_, fun b o hb => ?_⟩⟩
  ·rcases List.mem_append.mp hz with hz | hz
   ·exact ((rL6.mono s7) z hz).upd (s7 _ _ gp6)
   ·rcases List.mem_cons.mp hz with rfl | hz
    ·exact hr7.upd (s7 _ _ gp6)
    ·cases hz
  ·rcases List.mem_append.mp hz with hz | hz
   ·exact shL z hz
   ·rcases List.mem_cons.mp hz with rfl | hz
    ·exact hs7
    ·cases hz
  ·have nb : b ≠ p := zf hb hp
   rw [zc nb]
   exact (s6.trans s7) _ _ hb
 ·rintro σ H' ⟨L, v6, v7, v8, v9, v10, v11, v12, v13, v14, rfl, hL, gp, rL, shL, s1⟩
  exact q L H' _ _ _ _ _ _ _ _ _ (by omega) gp rL shL s1
theorem z86 (F : Def K mg "_law_log" z3v ["_law_script", "_law_first"]) (T : Txt K mg Pt_writes cd_writes) (G__law_at : Has P w K mg base 1 "_law_at" ["_law_script", "_law_k"] (spAt K)) (G__law_names : Has P w K mg base 2 "_law_names" ["_law_cell", "_law_many"] (z8m)) (G__law_locks : Has P w K mg base 2 "_law_locks" ["_law_cell", "_law_words", "_law_many"] (z8n)) (G__law_log_row : Has P w K mg base 1 "_law_log_row" ["_law_kind", "_law_rest", "_law_k", "_law_made", "_law_place"] (z9o)) : Has P w K mg base 3 "_law_log" ["_law_script", "_law_first"] (zbc K) := by
 refine F.ok sc__law_log (fun vs H Q E h => ?_) (fun f cdv A outer s H vs Q E hr h => ?_)
 ·obtain ⟨a, ns, rfl, _⟩ := h
  rfl
 ·obtain ⟨a, ns, rfl, ha, hns, q⟩ := h
  have hu := hr.units0
  refine ⟨_, (@zb _ _ _ _ _ (@zq _ _ 2 _ _ _ _ sc__law_log.nd rfl (Or.inl rfl) (@z1f _ _ _ _ _ _ _ _ _ _ G__law_names (hr.mono (by decide)) rfl (@z0 _ _ _ _ _ (@z1f _ _ _ _ _ _ _ _ _ _ G__law_at (hr.mono (by decide)) rfl (@z0 _ _ _ _ _ (pv 0) (@z0 _ _ _ _ _ z7 z8 rfl) rfl) (by decide) rfl rfl) (@z0 _ _ _ _ _ z7 z8 rfl) rfl) (by decide) rfl rfl) rfl (Or.inr rfl)) (@zb _ _ _ _ _ (@zq _ _ 3 _ _ _ _ sc__law_log.nd rfl (Or.inl rfl) (@z1f _ _ _ _ _ _ _ _ _ _ G__law_locks (hr.mono (by decide)) rfl (@z0 _ _ _ _ _ (@z1f _ _ _ _ _ _ _ _ _ _ G__law_at (hr.mono (by decide)) rfl (@z0 _ _ _ _ _ (pv 0) (@z0 _ _ _ _ _ z7 z8 rfl) rfl) (by decide) rfl rfl) (@z0 _ _ _ _ _ (@z1f _ _ _ _ _ _ _ _ _ _ G__law_at (hr.mono (by decide)) rfl (@z0 _ _ _ _ _ (pv 0) (@z0 _ _ _ _ _ z7 z8 rfl) rfl) (by decide) rfl rfl) (@z0 _ _ _ _ _ z7 z8 rfl) rfl) rfl) (by decide) rfl rfl) rfl (Or.inr rfl)) (@zb _ _ _ _ _ (@zq _ _ 4 _ _ _ _ sc__law_log.nd rfl (Or.inl rfl) (@z1f _ _ _ _ _ _ _ _ _ _ G__law_names (hr.mono (by decide)) rfl (@z0 _ _ _ _ _ (@z1f _ _ _ _ _ _ _ _ _ _ G__law_at (hr.mono (by decide)) rfl (@z0 _ _ _ _ _ (pv 0) (@z0 _ _ _ _ _ z7 z8 rfl) rfl) (by decide) rfl rfl) (@z0 _ _ _ _ _ z7 z8 rfl) rfl) (by decide) rfl rfl) rfl (Or.inr rfl)) (@zb _ _ _ _ _ (@zq _ _ 5 _ _ _ _ sc__law_log.nd rfl (Or.inl rfl) (@z1x _ _ _ _ z8) rfl (Or.inr rfl)) (@zb _ _ _ _ _ (@z3i _ _ _ _ _ _ _ _ PassesOwn.never rfl (@z9r _ _ _ _ _ _ _ rfl T.b_range (@z0 _ _ _ _ _ (pv 1) (@z0 _ _ _ _ _ (@zd _ _ _ _ _ _ _ _ _ zy rfl T.b_len (by decide +kernel) (@z0 _ _ _ _ _ (pv 0) z8 rfl) (by decide) (by decide) rfl rfl) z8 rfl) rfl) rfl rfl) (@z1n _ _ 6 _ sc__law_log.nd rfl (Or.inl rfl) (Or.inr rfl)) (@zb _ _ _ _ _ (@zq _ _ 7 _ _ _ _ sc__law_log.nd rfl (Or.inl rfl) (@zn _ _ _ _ _ _ _ ix_list (pv 0) (pv 6) (fun _ _ => rfl)) rfl (Or.inr rfl)) (@zb _ _ _ _ _ (@zq _ _ 8 _ _ _ _ sc__law_log.nd rfl (Or.inl rfl) (@zn _ _ _ _ _ _ _ ix_list (@zbq _ _ [.str "given", .str "taken", .str "given", .str "back", .str "taken", .str "stale", .str "given", .str "ask", .str "pause", .str "fall"] (by kernel_rfl)) (@z9 _ _ _ _ _ _ _ _ zm (pv 7) z7) (fun _ _ => rfl)) rfl (Or.inr rfl)) (@zb _ _ _ _ _ (@zq _ _ 9 _ _ _ _ sc__law_log.nd rfl (Or.inl rfl) (@z9 _ _ _ _ _ _ _ _ zz (pv 7) z7) rfl (Or.inr rfl)) (@zb _ _ _ _ _ (@zq _ _ 10 _ _ _ _ sc__law_log.nd rfl (Or.inl rfl) (@zn _ _ _ _ _ _ _ ix_list (@z1x _ _ _ _ (@z0 _ _ _ _ _ (@z9 _ _ _ _ _ _ _ _ zz (pv 6) z7) (@z0 _ _ _ _ _ (@z9 _ _ _ _ _ _ _ _ zm (@z9 _ _ _ _ _ _ _ _ z1c (pv 9) (pv 6)) z7) (@z0 _ _ _ _ _ (@z9 _ _ _ _ _ _ _ _ zm (@z9 _ _ _ _ _ _ _ _ zz (pv 9) z7) (@z9 _ _ _ _ _ _ _ _ z3y z7 z7)) z8 rfl) rfl) rfl)) (@z9 _ _ _ _ _ _ _ _ zm (pv 6) z7) (fun _ _ => rfl)) rfl (Or.inr rfl)) (@zb _ _ _ _ _ (@zq _ _ 11 _ _ _ _ sc__law_log.nd rfl (Or.inl rfl) (@zn _ _ _ _ _ _ _ ix_list (@z1x _ _ _ _ (@z0 _ _ _ _ _ (@z9 _ _ _ _ _ _ _ _ zz (pv 6) z7) (@z0 _ _ _ _ _ (@z9 _ _ _ _ _ _ _ _ zm (@z9 _ _ _ _ _ _ _ _ zz (pv 9) z7) z7) (@z0 _ _ _ _ _ (@z9 _ _ _ _ _ _ _ _ zm (@z9 _ _ _ _ _ _ _ _ zz (pv 9) z7) z7) (@z0 _ _ _ _ _ (@z9 _ _ _ _ _ _ _ _ zm (@z9 _ _ _ _ _ _ _ _ zz (pv 9) z7) (@z9 _ _ _ _ _ _ _ _ z3y z7 z7)) z8 rfl) rfl) rfl) rfl)) (@z9 _ _ _ _ _ _ _ _ zm (@z9 _ _ _ _ _ _ _ _ z1c (pv 9) (@z9 _ _ _ _ _ _ _ _ zz (pv 6) z7)) z7) (fun _ _ => rfl)) rfl (Or.inr rfl)) (@zb _ _ _ _ _ (@zq _ _ 12 _ _ _ _ sc__law_log.nd rfl (Or.inl rfl) (@zn _ _ _ _ _ _ _ ix_list (pv 2) (@z9 _ _ _ _ _ _ _ _ zm (@z9 _ _ _ _ _ _ _ _ z1c (pv 9) (@z9 _ _ _ _ _ _ _ _ zz (pv 6) z7)) z7) (fun _ _ => rfl)) rfl (Or.inr rfl)) (@zb _ _ _ _ _ (@zq _ _ 13 _ _ _ _ sc__law_log.nd rfl (Or.inl rfl) (@zn _ _ _ _ _ _ _ ix_list (pv 3) (@z9 _ _ _ _ _ _ _ _ zm (@z9 _ _ _ _ _ _ _ _ z1c (@z9 _ _ _ _ _ _ _ _ zz (pv 9) z7) (@z9 _ _ _ _ _ _ _ _ zz (pv 6) z7)) z7) (fun _ _ => rfl)) rfl (Or.inr rfl)) (@zb _ _ _ _ _ (@zq _ _ 14 _ _ _ _ sc__law_log.nd rfl (Or.inl rfl) (@z1g _ _ _ _ _ (@z0 _ _ _ _ _ (pv 10) (@z0 _ _ _ _ _ (pv 12) (@z0 _ _ _ _ _ (pv 13) (@z0 _ _ _ _ _ (pv 11) (@z0 _ _ _ _ _ (@zn _ _ _ _ _ _ _ ix_list (pv 4) (@z9 _ _ _ _ _ _ _ _ zm (@z9 _ _ _ _ _ _ _ _ zz (pv 9) z7) z7) (fun _ _ => rfl)) z8 rfl) rfl) rfl) rfl) rfl)) rfl (Or.inr rfl)) (@zg _ _ _ (@z3f _ _ _ _ (@z4c _ _ _ _ _ _ _ _ _ _ _ _ PySem.F.plainAttrs_list PySem.F.slot_list_append PySem.F.type_list_append z2o (pv 5) (@z0 _ _ _ _ _ (@z1f _ _ _ _ _ _ _ _ _ _ G__law_log_row (hr.mono (by decide)) rfl (@z0 _ _ _ _ _ (pv 8) (@z0 _ _ _ _ _ (pv 9) (@z0 _ _ _ _ _ (pv 6) (@z0 _ _ _ _ _ (pv 5) (@z0 _ _ _ _ _ (pv 14) z8 rfl) rfl) rfl) rfl) rfl) (by decide) rfl rfl) z8 rfl) rfl rfl rfl rfl rfl) rfl)))))))))) (by intro _; rfl)) (@zg _ _ _ (@zv _ _ _ _ (pv 5)))))))), ?_⟩
  walk_at "rd"
  refine ⟨a, ns, 0, rfl, ha, by omega, ?_⟩
  refine ⟨_, 3, rfl, by decide, fun hs zs H1 l1 _ _ h1 s1 => ?_⟩
  refine ⟨a, ns, 1, rfl, s1.seq ha, by omega, a, ns, 2, rfl, s1.seq ha, by omega, ?_⟩
  refine ⟨_, _, 4, rfl, by decide, fun ls lz H2 l2 hlz _ h2 s2 => ?_⟩
  refine ⟨a, ns, 2, rfl, (s1.trans s2).seq ha, by omega, ?_⟩
  refine ⟨_, 2, rfl, by decide, fun ss sz H3 l3 _ _ h3 s3 => ?_⟩
  have s13 := (s1.trans s2).trans s3
  refine ⟨Nat.zero_le _, fun p hp => ⟨_, .inl ((Same.upd hp).seq (s13.seq ha)), 3, _, ⟨rfl, rfl⟩, ⟨by decide, by decide, by rw [List.length_map]; omega, by rw [List.length_map]; omega⟩, ?_⟩⟩
  rw [List.length_map]
  refine zb3 (s13.seq ha) hns ((s2.trans s3) _ _ h1) (s3 _ _ h2) h3 l1 l2 l3 hp hlz fun L H' v6 v7 v8 v9 v10 v11 v12 v13 v14 hL gL rL shL sL => ?_
  walk_at "rd"
  exact q p L H' hL gL rL shL (s13.trans sL)
end
theorem all_mk {l : PySem.W.OpenLaw} {w : World} {K : PySem.W.Frag} {h : Heap} {mg : Str → Option Value} {fa : Addr} (X : K.In h) (G : h.Ns mainGlobals mg) (hfa : mg "law" = some (.ref fa))
  {Pt_writes : Addr}
  {cd_writes : Addr}
  {ts : List Addr}
  (y_b_all : PySem.W.nsIn K mainGlobals "all" = some none)
  (y_b_bool : PySem.W.nsIn K mainGlobals "bool" = some none)
  (y_b_int : PySem.W.nsIn K mainGlobals "int" = some none)
  (y_b_isinstance : PySem.W.nsIn K mainGlobals "isinstance" = some none)
  (y_b_len : PySem.W.nsIn K mainGlobals "len" = some none)
  (y_b_list : PySem.W.nsIn K mainGlobals "list" = some none)
  (y_b_min : PySem.W.nsIn K mainGlobals "min" = some none)
  (y_b_range : PySem.W.nsIn K mainGlobals "range" = some none)
  (y_b_set : PySem.W.nsIn K mainGlobals "set" = some none)
  (y_b_sorted : PySem.W.nsIn K mainGlobals "sorted" = some none)
  (y_b_str : PySem.W.nsIn K mainGlobals "str" = some none)
  (y_b_tuple : PySem.W.nsIn K mainGlobals "tuple" = some none)
  {f0 : Addr} {d0 : FuncData}
  (a0 : W.nsIn K mainGlobals "write_in" = some (some (.ref f0)))
  (F0 : Fun K "write_in" "write_in" z3u f0 d0)
  {f1 : Addr} {od1 an1 : Option Addr} {sl1 : Array (Option Value)} {oc1 kV1 dc1 pm1 cd1 ct1 : Value}
  (a1 : W.nsIn K mainGlobals "writes" = some (some (.ref f1)))
  (l1 : K.lookup f1 = some ⟨oc1, od1, .func (PySem.W.fnOf "writes" "writes" (z22 z21) (z1d z21) (zh z21) .none kV1 dc1 pm1 an1 cd1 ct1), sl1⟩) (c1 : PySem.W.codeIn K cd1 "writes" = true) (k1 : PySem.W.keepIn K (.ref f1) = true)
  {f2 : Addr} {d2 : FuncData}
  (a2 : W.nsIn K mainGlobals "_law_at" = some (some (.ref f2)))
  (F2 : Fun K "_law_at" "_law_at" z47 f2 d2)
  {f3 : Addr} {d3 : FuncData}
  (a3 : W.nsIn K mainGlobals "_law_same" = some (some (.ref f3)))
  (F3 : Fun K "_law_same" "_law_same" z1m f3 d3)
  {f4 : Addr} {d4 : FuncData}
  (a4 : W.nsIn K mainGlobals "_law_name" = some (some (.ref f4)))
  (F4 : Fun K "_law_name" "_law_name" z3b f4 d4)
  {f5 : Addr} {d5 : FuncData}
  (a5 : W.nsIn K mainGlobals "_law_names" = some (some (.ref f5)))
  (F5 : Fun K "_law_names" "_law_names" z33 f5 d5)
  {f6 : Addr} {d6 : FuncData}
  (a6 : W.nsIn K mainGlobals "_law_locks" = some (some (.ref f6)))
  (F6 : Fun K "_law_locks" "_law_locks" z34 f6 d6)
  {f7 : Addr} {d7 : FuncData}
  (a7 : W.nsIn K mainGlobals "_law_log_row" = some (some (.ref f7)))
  (F7 : Fun K "_law_log_row" "_law_log_row" z2j f7 d7)
  {f8 : Addr} {d8 : FuncData}
  (a8 : W.nsIn K mainGlobals "_law_log" = some (some (.ref f8)))
  (F8 : Fun K "_law_log" "_law_log" z3v f8 d8)
  {f9 : Addr} {d9 : FuncData}
  (a9 : W.nsIn K mainGlobals "law" = some (some (.ref f9)))
  (F9 : Fun K "law" "law" z4m f9 d9)
  {vs_writes : Array Value} {od_writes : Option Addr} {sl_writes : Array (Option Value)} (y_cu_writes : cd1 = Value.ref cd_writes) (y_cg_writes : K.lookup cd_writes = some ⟨.type "code", od_writes, .fields vs_writes, sl_writes⟩) (y_cw_writes : vs_writes[11]? = some (.ref Pt_writes)) (y_cz_writes : z53 vs_writes = true) (y_cn_writes : (cd_writes != Pt_writes) = true) (y_ck_writes : K.lookup Pt_writes = none)
  (y_ts : ts = [Pt_writes])
  : (∀ t ∈ ts, (∃ c, PySem.W.codeHdIn K c t = true) ∧ K.lookup t = none) ∧ ∃ fd : FuncData, (∀ (s : Shared) (v : Value), BindsTo s fd ⟨[v], []⟩ [("_law_script", v)]) ∧ ∀ base : Heap, K.In base → base.Ns mainGlobals mg → (∀ t ∈ ts, base.BuiltinsAt mg t) → FnOk l.prog w K mg base CX0 5 fa fd ["_law_script"] (spLaw ts K) := by
 have e := hfa.symm.trans (PySem.W.mg_of X G a9)
 cases e
 subst y_cu_writes
 have T : Txt K mg Pt_writes cd_writes := ⟨trivial, PySem.W.mg_none_of X G y_b_all, PySem.W.mg_none_of X G y_b_bool, PySem.W.mg_none_of X G y_b_int, PySem.W.mg_none_of X G y_b_isinstance, PySem.W.mg_none_of X G y_b_len, PySem.W.mg_none_of X G y_b_list, PySem.W.mg_none_of X G y_b_min, PySem.W.mg_none_of X G y_b_range, PySem.W.mg_none_of X G y_b_set, PySem.W.mg_none_of X G y_b_sorted, PySem.W.mg_none_of X G y_b_str, PySem.W.mg_none_of X G y_b_tuple, (za8 y_cg_writes y_cw_writes y_cz_writes y_cn_writes)⟩
 obtain ⟨_, _, kV, dc, pm, an, cd, ct, _, rfl, _, _⟩ := id F9.ex
 have F1 := fun_mk (st := z21) l1 c1 k1
 have D1 : DefC K mg "writes" z21 ["log"] cd_writes := ⟨_, _, _, _, _, _, _, _, _, l1, c1, k1, PySem.W.mg_of X G a1, F1.binds fun _ _ _ _ _ _ us hl => match us, hl with | [_], _ => rfl⟩
 have D3 : Def K mg "_law_same" z1m ["_law_found", "_law_due"] := ⟨_, _, F3, W.mg_of X G a3, F3.binds fun _ _ _ _ _ _ us hl => match us, hl with | [_, _], _ => rfl⟩
 refine ⟨fun t ht => ?_, W.fnOf "law" "law" (z22 z4m) (z1d z4m) (zh z4m) .none kV dc pm an cd ct, fun s v => .of_eq rfl, fun base _ _ BA => ?_⟩
 ·rw [y_ts] at ht
  simp only [List.mem_cons, List.not_mem_nil, or_false] at ht
  rcases ht with rfl
  ·exact ⟨⟨_, T.hd_writes⟩, y_ck_writes⟩
 have mt_writes : Pt_writes ∈ ts := by rw [y_ts]; simp
 have G_write_in := z85 (P := l.prog) (w := w) (base := base) ⟨_, _, F0, W.mg_of X G a0, F0.binds fun _ _ _ _ _ _ us hl => match us, hl with | [_], _ => rfl⟩ T
 have G_writes := zae (P := l.prog) (w := w) (base := base) D1 T G_write_in (BA _ mt_writes)
 have G__law_at := z9m (P := l.prog) (w := w) (base := base) ⟨_, _, F2, W.mg_of X G a2, F2.binds fun _ _ _ _ _ _ us hl => match us, hl with | [_, _], _ => rfl⟩ T
 have G_same0 := zay (P := l.prog) (w := w) (base := base) D3 T (za1 D3)
 have G_same1 := z54 (P := l.prog) (w := w) (base := base) D3 T G_same0
 have G_same2 := zaz (P := l.prog) (w := w) (base := base) D3 T G_same1
 have G_same3 := zb0 (P := l.prog) (w := w) (base := base) D3 T G_same2
 have G__law_same : Has l.prog w K mg base 4 "_law_same" ["_law_found", "_law_due"] (z1u 3) := G_same3
 have G__law_name := z7o (P := l.prog) (w := w) (base := base) ⟨_, _, F4, W.mg_of X G a4, F4.binds fun _ _ _ _ _ _ us hl => match us, hl with | [_, _], _ => rfl⟩ T
 have G__law_names := z6q (P := l.prog) (w := w) (base := base) ⟨_, _, F5, W.mg_of X G a5, F5.binds fun _ _ _ _ _ _ us hl => match us, hl with | [_, _], _ => rfl⟩ T G__law_name
 have G__law_locks := z6r (P := l.prog) (w := w) (base := base) ⟨_, _, F6, W.mg_of X G a6, F6.binds fun _ _ _ _ _ _ us hl => match us, hl with | [_, _, _], _ => rfl⟩ T G__law_name
 have G__law_log_row := z5o (P := l.prog) (w := w) (base := base) ⟨_, _, F7, W.mg_of X G a7, F7.binds fun _ _ _ _ _ _ us hl => match us, hl with | [_, _, _, _, _], _ => rfl⟩ T
 have G__law_log := z86 (P := l.prog) (w := w) (base := base) ⟨_, _, F8, W.mg_of X G a8, F8.binds fun _ _ _ _ _ _ us hl => match us, hl with | [_, _], _ => rfl⟩ T G__law_at G__law_names G__law_locks G__law_log_row
 have G_law := zc9 (P := l.prog) (w := w) (base := base) ⟨_, _, F9, W.mg_of X G a9, F9.binds fun _ _ _ _ _ _ us hl => match us, hl with | [_], _ => rfl⟩ T G_writes G__law_at G__law_same G__law_name G__law_log mt_writes
 exact Has.at G_law (PySem.W.mg_of X G a9) F9
end Fg
open PySem PySem.W PyProof.Rows
set_option maxRecDepth 100000 in
set_option maxHeartbeats 0 in
theorem PySem.Challenge.cw_fencegate_k30_writes_holds : PySem.Challenge.rw_fencegate_k30_writes.Holds := by
 w_on; o_law; k_head; (case hw => w_witness2)
 k_fill
 refine L2.walk_ofT (l := PySem.Challenge.rw_fencegate_k30_writes) (n := 63) (k := 5) (x := "_law_script") (sp := fun ts K => Fg.spLaw ts K) rfl (by decide) rfl ⟨rfl, by decide, by decide⟩ (fun w h Y => ⟨PySem.W.km_in_of Y, PySem.W.km_tabs_of Y⟩) ?F (fun K H a ns hl hO hS => ⟨a, ns, rfl, hS, hl, hO.tab, fun _ => rfl⟩)
 case F =>
  intro w mg fa h KX G hmg
  refine' Fg.all_mk KX G hmg ?y_b_all ?y_b_bool ?y_b_int ?y_b_isinstance ?y_b_len ?y_b_list ?y_b_min ?y_b_range ?y_b_set ?y_b_sorted ?y_b_str ?y_b_tuple ?a0 ?F0 ?a1 ?l1 ?c1 ?k1 ?a2 ?F2 ?a3 ?F3 ?a4 ?F4 ?a5 ?F5 ?a6 ?F6 ?a7 ?F7 ?a8 ?F8 ?a9 ?F9 ?y_cu_writes ?y_cg_writes ?y_cw_writes ?y_cz_writes ?y_cn_writes ?y_ck_writes ?y_ts
  (case y_b_all => k_is)
  (case y_b_bool => k_is)
  (case y_b_int => k_is)
  (case y_b_isinstance => k_is)
  (case y_b_len => k_is)
  (case y_b_list => k_is)
  (case y_b_min => k_is)
  (case y_b_range => k_is)
  (case y_b_set => k_is)
  (case y_b_sorted => k_is)
  (case y_b_str => k_is)
  (case y_b_tuple => k_is)
  (case a0 => k_is)
  (case F0 => (apply L2.fun_mk; k_is; k_is; k_is))
  (case a1 => k_is)
  (case l1 => k_is)
  (case c1 => k_is)
  (case k1 => k_is)
  (case a2 => k_is)
  (case F2 => (apply L2.fun_mk; k_is; k_is; k_is))
  (case a3 => k_is)
  (case F3 => (apply L2.fun_mk; k_is; k_is; k_is))
  (case a4 => k_is)
  (case F4 => (apply L2.fun_mk; k_is; k_is; k_is))
  (case a5 => k_is)
  (case F5 => (apply L2.fun_mk; k_is; k_is; k_is))
  (case a6 => k_is)
  (case F6 => (apply L2.fun_mk; k_is; k_is; k_is))
  (case a7 => k_is)
  (case F7 => (apply L2.fun_mk; k_is; k_is; k_is))
  (case a8 => k_is)
  (case F8 => (apply L2.fun_mk; k_is; k_is; k_is))
  (case a9 => k_is)
  (case F9 => (apply L2.fun_mk; k_is; k_is; k_is))
  (case y_cu_writes => exact rfl)
  (case y_cg_writes => k_is)
  (case y_cw_writes => exact rfl)
  (case y_cz_writes => kernel_rfl)
  (case y_cn_writes => kernel_rfl)
  (case y_ck_writes => kernel_rfl)
  (case y_ts => exact rfl)
