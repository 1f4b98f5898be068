import PyProof.Rows.All
import Wide.All
import OpenK.AllK
import Wide.FinOn
import PyProof.EqAt
import PyProof.EqKinds
import PyProof.TupleCall
import KE.BitLaws
import Open.SpecLaws
import KE.OsHead
import KE.OsGo
import KE.KNestM
import KE.KLam
import KE.KSortKeyAny
import KE.KMinKey
import PySem.Challenge.RW_housenumbers_s01_answers
set_option Elab.async false
set_option linter.all false
set_option maxRecDepth 100000
set_option maxHeartbeats 2000000
namespace L2
open PySem PySem.Spec PyProof.Rows
abbrev Key := Sum Int Str
def keyIs : Key -> Value -> Bool
 | .inl k, v => Value.isInt k v
 | .inr x, v => Value.isStrOf x v
def keyH (w : World) : Key -> Int
 | .inl k => hashInt k
 | .inr x => hashStr w x
theorem keyIs_shape : ∀ {k : Key} {v : Value}, keyIs k v = true -> (∃ i t, k = Sum.inl i /\ v = Value.int i t) ∨ (∃ x t, k = Sum.inr x /\ v = Value.str x t)
 | .inl i, v, h => by
  obtain ⟨t, e⟩ := Value.isInt_shape (k := i) (v := v) h
  exact .inl ⟨i, t, rfl, e⟩
 | .inr x, v, h => by
  obtain ⟨t, e⟩ := Value.isStrOf_shape (x := x) (v := v) h
  exact .inr ⟨x, t, rfl, e⟩
theorem key_ll (a b : Int) : decide ((Sum.inl a : Key) = Sum.inl b) = (a == b) := by
 by_cases e : a = b
 ·subst e; simp
 ·have h : ¬ (Sum.inl a : Key) = Sum.inl b := fun q => e (Sum.inl.inj q)
  rw [decide_eq_false h]
  exact (beq_eq_false_iff_ne.mpr e).symm
theorem key_rr (a b : Str) : decide ((Sum.inr a : Key) = Sum.inr b) = decide (a = b) := by
 by_cases e : a = b
 ·subst e; simp
 ·have h : ¬ (Sum.inr a : Key) = Sum.inr b := fun q => e (Sum.inr.inj q)
  rw [decide_eq_false h, decide_eq_false e]
theorem key_lr (a : Int) (b : Str) : decide ((Sum.inl a : Key) = Sum.inr b) = false := decide_eq_false (fun q => nomatch q)
theorem key_rl (a : Str) (b : Int) : decide ((Sum.inr a : Key) = Sum.inl b) = false := decide_eq_false (fun q => nomatch q)
def mixKind (prog : Program) (w : World) : PySem.KeyKind prog w Key where
 is := keyIs
 hash := keyH w
 inj := fun v a b ha hb => by
  rcases keyIs_shape ha with ⟨i, t, rfl, rfl⟩ | ⟨x, t, rfl, rfl⟩
  ·rcases keyIs_shape hb with ⟨j, u, rfl, e⟩ | ⟨y, u, rfl, e⟩
   ·injection e with e1 _; rw [e1]
   ·exact nomatch e
  ·rcases keyIs_shape hb with ⟨j, u, rfl, e⟩ | ⟨y, u, rfl, e⟩
   ·exact nomatch e
   ·injection e with e1 _; rw [e1]
 byValue := fun k v h => by
  rcases keyIs_shape h with ⟨i, t, rfl, rfl⟩ | ⟨x, t, rfl, rfl⟩ <;> rfl
 pyHash := fun hv h => by
  rcases keyIs_shape hv with ⟨i, t, rfl, rfl⟩ | ⟨x, t, rfl, rfl⟩
  ·exact wpAny_pyHash_int h
  ·exact wpAny_pyHash_str h
 eqBool := fun hu hv h => by
  rcases keyIs_shape hu with ⟨i, t, rfl, rfl⟩ | ⟨x, t, rfl, rfl⟩
  ·rcases keyIs_shape hv with ⟨j, u, rfl, rfl⟩ | ⟨y, u, rfl, rfl⟩
   ·rw [key_ll] at h; exact wpAny_eqBool_int h
   ·rw [key_lr] at h; exact SeqAt.EqAt.int_str i t y u _ _ _ _ h
  ·rcases keyIs_shape hv with ⟨j, u, rfl, rfl⟩ | ⟨y, u, rfl, rfl⟩
   ·rw [key_rl] at h; exact SeqAt.EqAt.str_int x t j u _ _ _ _ h
   ·rw [key_rr] at h; exact wpAny_eqBool_str h
 «strs» := fun k x t v h => by
  rcases keyIs_shape h with ⟨i, u, rfl, e⟩ | ⟨y, u, rfl, e⟩
  ·exact nomatch e
  ·injection e with e1 _
   subst e1
   cases v <;> rfl
inductive V where
 | non | bl (b : Bool) | int (i : Int) | str (x : Str) | byt (b : Array UInt8) | flt (b : UInt64) | ref (a : Addr) | ty (n : String)
 deriving DecidableEq
def RelV : V -> Value -> Prop
 | .non, u => u = Value.none
 | .bl b, u => u = Value.bool b
 | .int i, u => ∃ t, u = Value.int i t
 | .str x, u => ∃ t, u = Value.str x t
 | .byt b, u => ∃ t, u = Value.bytes b t
 | .flt b, u => ∃ t, u = Value.float b t
 | .ref a, u => u = Value.ref a
 | .ty n, u => u = Value.type n
abbrev Vals : List V -> List Value -> Prop := Paired RelV
theorem Vals.length {xs : List V} {us : List Value} (r : Vals xs us) : xs.length = us.length := Paired.length r
theorem Vals.get : ∀ {xs : List V} {us : List Value} {i : Nat} {x : V}, Vals xs us -> xs[i]? = some x -> ∃ u, us[i]? = some u /\ RelV x u
 | _, _, _, _, .nil, e => by simp at e
 | _, _, 0, _, .cons r _, e => by simp at e; subst e; exact ⟨_, rfl, r⟩
 | _, _, i + 1, x, .cons _ t, e => by
  obtain ⟨u, h1, h2⟩ := Vals.get (i := i) (x := x) t (by simpa using e)
  exact ⟨u, by simpa using h1, h2⟩
theorem Vals.set {x : V} {u : Value} (r : RelV x u) : ∀ {xs : List V} {us : List Value} (i : Nat), Vals xs us -> Vals (xs.set i x) (us.set i u)
 | _, _, _, .nil => .nil
 | _, _, 0, .cons _ t => .cons r t
 | _, _, i + 1, .cons q t => .cons q (Vals.set r i t)
theorem Vals.append : ∀ {xs ys : List V} {us ws : List Value}, Vals xs us -> Vals ys ws -> Vals (xs ++ ys) (us ++ ws)
 | _, _, _, _, .nil, s => s
 | _, _, _, _, .cons r t, s => .cons r (Vals.append t s)
theorem Vals.take : ∀ {xs : List V} {us : List Value} (n : Nat), Vals xs us -> Vals (xs.take n) (us.take n)
 | _, _, 0, _ => .nil
 | _, _, _ + 1, .nil => .nil
 | _, _, n + 1, .cons r t => .cons r (Vals.take n t)
theorem Vals.drop : ∀ {xs : List V} {us : List Value} (n : Nat), Vals xs us -> Vals (xs.drop n) (us.drop n)
 | _, _, 0, r => r
 | _, _, _ + 1, .nil => .nil
 | _, _, n + 1, .cons _ t => Vals.drop n t
def RelO : Option V -> Option Value -> Prop
 | some v, some u => RelV v u
 | none, none => True
 | _, _ => False
def KV {κ : Type} : List (κ × V) -> List (κ × Value) -> Prop := Paired fun (p : κ × V) (q : κ × Value) => p.1 = q.1 /\ RelV p.2 q.2
def kV : Key -> V
 | .inl i => .int i
 | .inr x => .str x
inductive HO where
 | lst (xs : List V)
 | tup (xs : List V)
 | dK (kvs : List (Key × V)) | dT (kvs : List (List Key × V))
 | set (S : Int -> Bool) (n : Nat)
 | ins (C dx : Addr) (fs : List (Str × V))
 | own (x : Addr)
 | xd (fs : List (Str × V))
 | met (f x : Addr)
 | rng (lo hi : Int)
 | frz (o : Obj) (u : HO)
 | tbl (ps : Array Value)
 | ext (φ : Heap -> Prop)
abbrev Hp := Addr -> Option HO
def upd (H : Hp) (a : Addr) (o : HO) : Hp := fun b => if b = a then some o else H b
theorem upd_same {H : Hp} {a : Addr} {o : HO} : upd H a o a = some o := by unfold upd; rw [if_pos rfl]
theorem upd_ne {H : Hp} {a b : Addr} {o : HO} (h : b ≠ a) : upd H a o b = H b := by unfold upd; rw [if_neg h]
theorem ne_of {H : Hp} {a b : Addr} {o u : HO} (h : H a = some o) (h' : H b = some u) (d : o ≠ u) : a ≠ b := by
 intro e; subst e; rw [h] at h'; exact d (Option.some.inj h')
theorem ne_of_none {H : Hp} {a b : Addr} {o : HO} (h : H a = some o) (h' : H b = none) : a ≠ b := by
 intro e; subst e; rw [h] at h'; cases h'
section
variable (P : Program) (w : World)
def ObjOk (H : Hp) (h : Heap) (a : Addr) : HO -> Prop
 | .lst xs => xs.length <= sizeLine /\ ∃ (its : List Value) (n : Nat), Vals xs its /\ h.get? a = some { cls := .type "list", data := .seq its.toArray n }
 | .tup xs => xs.length <= sizeLine /\ ∃ its : List Value, Vals xs its /\ IsTup h a its.toArray
 | .dK kvs => kvs.length <= sizeLine /\ (a == sysModules) = false /\ ∃ vs, KV kvs vs /\ h.DictOf (mixKind P w) a vs
 | .dT kvs => kvs.length <= sizeLine /\ (a == sysModules) = false /\ ∃ xs : List (List Key × Addr × Value),
   Paired (fun (p : List Key × V) (q : List Key × Addr × Value) => p.1 = q.1 /\ H q.2.1 = some (.tup (p.1.map kV)) /\ RelV p.2 q.2.2) kvs xs /\
   ∃ o es ep, h.get? a = some o /\ o.ExactDict /\ o.data = .dict es ep /\ es.toList = xs.map (entryOfKey (tupleKind (mixKind P w))) /\ (xs.map (·.1)).Nodup
 | .set S n => h.SetOf (intKind P w) a S n
 | .ins C dx fs => H dx = some (.own a) /\ fs.length <= 1000 /\ dx ≠ a /\ h.get? a = some (PySem.W.instObj C dx) /\
   ∃ mA, h.Ns1 dx mA /\ (∀ f, RelO (fs.lookup f) (mA f)) /\ PySem.Within mA (fs.map (·.1))
 | .own _ => ∃ o, h.get? a = some o
 | .xd fs => ∃ mA, h.Ns1 a mA /\ ∀ f, RelO (fs.lookup f) (mA f)
 | .rng lo hi => ∃ t u v, h.get? a = some { cls := .type "range", data := .fields #[.int lo t, .int hi u, .int 1 v] }
 | .frz o u => h.get? a = some o /\ ObjOk H h a u
 | .tbl ps => h.get? a = some { cls := .none, data := .fields ps }
 | .met f x => h.get? a = some (PySem.W.methodObj (.ref f) (.ref x))
 | .ext φ => φ h /\ (∃ o, h.get? a = some o) /\ ∀ h1 h2 : Heap, φ h1 -> (∀ o, h1.get? a = some o -> h2.get? a = some o) -> φ h2
def HOk (H : Hp) (h : Heap) : Prop := ∀ a o, H a = some o -> ObjOk P w H h a o
end
section
variable {P : Program} {w : World} {H H' : Hp} {h h' : Heap} {a : Addr} {o : HO}
theorem ObjOk.lt (x : ObjOk P w H h a o) : a < h.objs.size := by
 cases o with
 | lst xs => obtain ⟨_, _, _, _, e⟩ := x; exact Heap.lt_size e
 | tup xs => obtain ⟨_, _, _, p⟩ := x; exact p.lt
 | dK kvs => obtain ⟨_, _, _, _, o, _, _, e, _⟩ := x; exact Heap.lt_size e
 | dT kvs => obtain ⟨_, _, _, _, o, _, _, e, _⟩ := x; exact Heap.lt_size e
 | set S n => obtain ⟨o, _, _, _, e, _⟩ := x; exact Heap.lt_size e
 | ins C dx fs => obtain ⟨_, _, _, e, _⟩ := x; exact Heap.lt_size e
 | own y => obtain ⟨_, e⟩ := x; exact Heap.lt_size e
 | xd fs => obtain ⟨_, ⟨_, _, _, e, _⟩, _⟩ := x; exact Heap.lt_size e
 | rng lo hi => obtain ⟨_, _, _, e⟩ := x; exact Heap.lt_size e
 | frz ob u => obtain ⟨e, _⟩ := x; exact Heap.lt_size e
 | tbl ps => exact Heap.lt_size (show h.get? a = some _ from x)
 | met f y => exact Heap.lt_size (show h.get? a = some _ from x)
 | ext φ => obtain ⟨_, ⟨_, e⟩, _⟩ := x; exact Heap.lt_size e
theorem Paired.mapP {α β : Type} {F G : α -> β -> Prop} : ∀ {l₁ : List α} {l₂ : List β}, Paired F l₁ l₂ -> (∀ a b, F a b -> G a b) -> Paired G l₁ l₂
 | _, _, .nil, _ => .nil
 | _, _, .cons r t, f => .cons (f _ _ r) (Paired.mapP t f)
theorem ObjOk.stay (x : ObjOk P w H h a o) (k : ∀ b u, (b = a ∨ H b = some (.own a)) -> h.get? b = some u -> h'.get? b = some u)
  (ho : ∀ b, H b = some (.own a) -> H' b = some (.own a)) (ht : ∀ b xs, H b = some (.tup xs) -> H' b = some (.tup xs)) : ObjOk P w H' h' a o := by
 induction o with
 | lst xs => obtain ⟨z, its, n, r, e⟩ := x; exact ⟨z, its, n, r, k _ _ (.inl rfl) e⟩
 | tup xs => obtain ⟨z, its, r, ob, e, c⟩ := x; exact ⟨z, its, r, ob, k _ _ (.inl rfl) e, c⟩
 | dK kvs => obtain ⟨z, y, vs, r, ob, es, ep, e, c⟩ := x; exact ⟨z, y, vs, r, ob, es, ep, k _ _ (.inl rfl) e, c⟩
 | dT kvs =>
  obtain ⟨z, y, xs, r, ob, es, ep, e, c⟩ := x
  exact ⟨z, y, xs, Paired.mapP r fun p q z => ⟨z.1, ht _ _ z.2.1, z.2.2⟩, ob, es, ep, k _ _ (.inl rfl) e, c⟩
 | set S n => obtain ⟨ob, es, ep, t, e, c⟩ := x; exact ⟨ob, es, ep, t, k _ _ (.inl rfl) e, c⟩
 | ins C dx fs =>
  obtain ⟨d, z, ne, e, mA, ⟨od, es, ep, e2, c⟩, r⟩ := x
  exact ⟨ho _ d, z, ne, k _ _ (.inl rfl) e, mA, ⟨od, es, ep, k _ _ (.inr d) e2, c⟩, r⟩
 | own y => obtain ⟨ob, e⟩ := x; exact ⟨ob, k _ _ (.inl rfl) e⟩
 | xd fs => obtain ⟨mA, ⟨od, es, ep, e, c⟩, r⟩ := x; exact ⟨mA, ⟨od, es, ep, k _ _ (.inl rfl) e, c⟩, r⟩
 | rng lo hi => obtain ⟨t, u, v, e⟩ := x; exact ⟨t, u, v, k _ _ (.inl rfl) e⟩
 | frz ob u ih => obtain ⟨e, q⟩ := x; exact ⟨k _ _ (.inl rfl) e, ih q⟩
 | tbl ps =>
  have e : h.get? a = some { cls := .none, data := .fields ps } := x
  show h'.get? a = some { cls := .none, data := .fields ps }
  exact k a _ (.inl rfl) e
 | met f y =>
  have e : h.get? a = some (PySem.W.methodObj (.ref f) (.ref y)) := x
  show h'.get? a = some (PySem.W.methodObj (.ref f) (.ref y))
  exact k a _ (.inl rfl) e
 | ext φ => obtain ⟨p, ⟨o, e⟩, st⟩ := x; exact ⟨st _ _ p fun o q => k _ _ (.inl rfl) q, ⟨o, k _ _ (.inl rfl) e⟩, st⟩
theorem HOk.lt (x : HOk P w H h) (e : H a = some o) : a < h.objs.size := (x a o e).lt
theorem HOk.fresh (x : HOk P w H h) (e : h.objs.size <= a) : H a = none := by
 cases q : H a with
 | none => rfl
 | some u => exact absurd (Nat.lt_of_lt_of_le (x.lt q) e) (Nat.lt_irrefl _)
theorem HOk.kept (x : HOk P w H h) (k : ∀ b u, h.get? b = some u -> h'.get? b = some u) : HOk P w H h' := fun a o e =>
 (x a o e).stay (fun b u _ q => k b u q) (fun _ q => q) fun _ _ q => q
theorem HOk.laid (x : HOk P w H h) (k : ∀ b u, h.get? b = some u -> h'.get? b = some u) (hp : h.objs.size <= a) (new : ObjOk P w (upd H a o) h' a o) : HOk P w (upd H a o) h' := fun b u e => by
 have hn := x.fresh hp
 by_cases hb : b = a
 ·subst hb; rw [upd_same] at e; cases e; exact new
 ·rw [upd_ne hb] at e
  exact (x b u e).stay (fun c v _ q => k c v q) (fun c q => by rw [upd_ne (ne_of_none q hn)]; exact q) fun c xs q => by rw [upd_ne (ne_of_none q hn)]; exact q
end
def Rd (H : Hp) (a : Addr) (u : HO) : Prop := H a = some u ∨ ∃ o, H a = some (.frz o u)
theorem Rd.ok {P : Program} {w : World} {H : Hp} {h : Heap} {a : Addr} {u : HO} (r : Rd H a u) (x : HOk P w H h) : ObjOk P w H h a u := by
 rcases r with r | ⟨o, r⟩
 ·exact x a u r
 ·obtain ⟨_, q⟩ := x a _ r
  exact q
def Mut : Option HO -> Prop
 | some (.lst _) => True
 | some (.dK _) => True
 | some (.dT _) => True
 | some (.set _ _) => True
 | some (.ins _ _ _) => True
 | some (.ext _) => True
 | _ => False
section
variable {P : Program} {w : World} {H : Hp} {h h' : Heap} {x e : Addr} {o' : HO}
theorem HOk.write (ok : HOk P w H h) (mu : Mut (H x)) (he : e = x ∨ H e = some (.own x)) (k : ∀ b u, b ≠ e -> h.get? b = some u -> h'.get? b = some u) (heo : ∃ u, h'.get? e = some u)
  (new : ObjOk P w (upd H x o') h' x o') : HOk P w (upd H x o') h' := fun b u q => by
 have nown : ∀ c y, H c = some (.own y) -> c ≠ x := fun c y r z => by subst z; rw [r] at mu; exact mu
 have ntup : ∀ c xs, H c = some (.tup xs) -> c ≠ x := fun c xs r z => by subst z; rw [r] at mu; exact mu
 by_cases hb : b = x
 ·subst hb; rw [upd_same] at q; cases q; exact new
 ·rw [upd_ne hb] at q
  by_cases hbe : b = e
  ·have q' : H b = some (.own x) := by
    rcases he with z | z
    ·exact absurd (hbe.trans z) hb
    ·rw [hbe]; exact z
   rw [q] at q'; cases q'
   obtain ⟨v, hv⟩ := heo
   exact ⟨v, by rw [hbe]; exact hv⟩
  ·refine (ok b u q).stay (fun c v hc r => k c v ?_ r) (fun c r => by rw [upd_ne (nown c b r)]; exact r) fun c xs r => by rw [upd_ne (ntup c xs r)]; exact r
   rcases hc with rfl | hc
   ·exact hbe
   ·rintro rfl
    rcases he with z | z
    ·exact nown c b hc z
    ·rw [hc] at z; cases z; exact hb rfl
end
structure Un (fs ex : List Addr) (H H' : Hp) (h h' : Heap) : Prop where
 keep : ∀ b o, h.get? b = some o -> H b = none -> b ∉ fs -> b ∉ ex -> h'.get? b = some o
 slot : ∀ b o, h.get? b = some o -> H b = none -> b ∈ fs -> b ∉ ex -> ∃ sl, h'.get? b = some { o with slots := sl }
 free : ∀ b o, h.get? b = some o -> H b = none -> b ∉ ex -> H' b = none
 there : ∀ b o, h.get? b = some o -> b ∉ ex -> ∃ o', h'.get? b = some o'
 tups : ∀ b xs, H b = some (.tup xs) -> H' b = some (.tup xs)
 frzs : ∀ b o u, H b = some (.frz o u) -> H' b = some (.frz o u)
 tbls : ∀ b ps, H b = some (.tbl ps) -> ∃ more, H' b = some (.tbl (ps ++ more))
section
variable {fs fs' ex ex' : List Addr} {H H1 H2 : Hp} {h h1 h2 h' : Heap} {a x e : Addr} {o : HO}
theorem Un.any (u : Un fs ex H H1 h h1) {b : Addr} {ob : Obj} (q : h.get? b = some ob) (n : H b = none) (hx : b ∉ ex) : ∃ sl, h1.get? b = some { ob with slots := sl } := by
 by_cases hb : b ∈ fs
 ·exact u.slot b ob q n hb hx
 ·exact ⟨ob.slots, u.keep b ob q n hb hx⟩
theorem Un.kept (k : ∀ b u, h.get? b = some u -> h'.get? b = some u) : Un fs ex H H h h' :=
 ⟨fun b ob q _ _ _ => k b ob q, fun b ob q _ _ _ => ⟨ob.slots, k b ob q⟩, fun _ _ _ n _ => n, fun b ob q _ => ⟨ob, k b ob q⟩, fun _ _ q => q, fun _ _ _ q => q, fun _ ps q => ⟨#[], by rw [q]; simp⟩⟩
theorem Un.refl : Un fs ex H H h h := Un.kept fun _ _ q => q
theorem Un.laid (k : ∀ b u, h.get? b = some u -> h'.get? b = some u) (hp : h.objs.size <= a) (hn : H a = none) : Un fs ex H (upd H a o) h h' where
 keep := fun b u q _ _ _ => k b u q
 slot := fun b u q _ _ _ => ⟨u.slots, k b u q⟩
 free := fun b u q n _ => by rw [upd_ne (Nat.ne_of_lt (Nat.lt_of_lt_of_le (Heap.lt_size q) hp))]; exact n
 there := fun b u q _ => ⟨u, k b u q⟩
 tups := fun b xs q => by rw [upd_ne (ne_of_none q hn)]; exact q
 frzs := fun b u xs q => by rw [upd_ne (ne_of_none q hn)]; exact q
 tbls := fun b ps q => ⟨#[], by rw [upd_ne (ne_of_none q hn), q]; simp⟩
theorem Un.write (mu : Mut (H x)) (he : e = x ∨ H e = some (.own x)) (k : ∀ b u, b ≠ e -> h.get? b = some u -> h'.get? b = some u) (heo : ∃ u, h'.get? e = some u) : Un fs ex H (upd H x o) h h' := by
 have hx : ∀ b, H b = none -> b ≠ x := fun b n z => by subst z; rw [n] at mu; exact mu
 have hb : ∀ b, H b = none -> b ≠ e := fun b n z => by
  subst z
  rcases he with r | r
  ·exact hx b n r
  ·rw [n] at r; cases r
 have hm : ∀ b u, H b = some u -> ¬ Mut (some u) -> b ≠ x := fun b u q nm z => by subst z; rw [q] at mu; exact nm mu
 refine ⟨fun b u q n _ _ => k b u (hb b n) q, fun b u q n _ _ => ⟨u.slots, k b u (hb b n) q⟩, fun b u q n _ => by rw [upd_ne (hx b n)]; exact n, fun b u q _ => ?_,
  fun b xs q => by rw [upd_ne (hm b _ q fun z => z)]; exact q, fun b u xs q => by rw [upd_ne (hm b _ q fun z => z)]; exact q, fun b ps q => ⟨#[], by rw [upd_ne (hm b _ q fun z => z), q]; simp⟩⟩
 by_cases hbe : b = e
 ·subst hbe; exact heo
 ·exact ⟨u, k b u hbe q⟩
end
def trk (h : Heap) (H : Hp) : List Addr := (List.range h.objs.size).filter fun a => (H a).isSome
def hidT (h : Heap) (H : Hp) : Heap := PySem.W.hideAll h (trk h H)
theorem hidT_size (h : Heap) (H : Hp) : (hidT h H).objs.size = h.objs.size := PySem.W.hideAll_size _ _
theorem hidT_get {h : Heap} {H : Hp} {b : Addr} {o : Obj} (e : h.get? b = some o) (n : H b = none) : (hidT h H).get? b = some o :=
 PySem.W.hideAll_get _ e fun hm => by
  have q : (H b).isSome = true := (List.mem_filter.mp hm).2
  rw [n] at q; simp at q
theorem of_hidT {h : Heap} {H : Hp} {b : Addr} {o : Obj} (e : (hidT h H).get? b = some o) : h.get? b = some o /\ H b = none := by
 have e' : h.get? b = some o := PySem.W.of_hideAll (trk h H) e
 refine ⟨e', ?_⟩
 cases q : H b with
 | none => rfl
 | some x =>
  have hm : b ∈ trk h H := List.mem_filter.mpr ⟨List.mem_range.mpr (Heap.lt_size e'), by simp [q]⟩
  have z : (hidT h H).get? b = none := PySem.W.hideAll_none (trk h H) hm
  rw [z] at e; cases e
structure Mod (K : PySem.W.Frag) (mg : Str -> Option Value) (base : Heap) : Prop where
 kin : K.In base
 glob : base.Ns mainGlobals mg
 blt : ∃ mb, base.Ns builtinsNs mb /\ ∀ x : Str, x ≠ "__name__" -> mb x = bootBuiltins x
 nolimit : base.NoLimit
structure Cx where
 prog : Program
 w : World
 K : PySem.W.Frag
 mg : Str -> Option Value
 base : Heap
 A : Around
 N : List Str
 s_0 : Shared
 H_0 : Hp
 env : Env
 outer : List Env
 stack : List Env
 ex : List Addr
 fn : Str -> Bool
 calm : Bool
 pn : List (Addr × Obj)
 xe : Value -> Shared -> Prop
def frs (l : List Env) : List Addr := l.filterMap (·.frame)
abbrev Cx.fs (X : Cx) : List Addr := frs X.outer
def Vis (sc : Scope) (x : Str) : Prop := sc.names.lookup x = some .local ∨ sc.names.lookup x = some .cell ∨ sc.names.lookup x = some .free
def Loc (sc : Scope) (x : Str) : Prop := sc.names.lookup x = some .local ∨ sc.names.lookup x = some .cell
def Look (env : Env) (h : Heap) (m : Str -> Option Value) (x : Str) (u : Value) : Prop :=
 (env.kindOf x = some .local /\ m x = some u) ∨ ((env.kindOf x = some .cell ∨ env.kindOf x = some .free) /\ ∃ c, env.cells.lookup x = some c /\ h.IsCell c (some u))
structure Cx.Ok (X : Cx) : Prop where
 mod : Mod X.K X.mg X.base
 kind : X.env.scope.kind = .function
 glob : X.env.globals = mainGlobals
 blt : X.env.builtins = builtinsNs
 above : X.s_0.heap.objs.size <= X.env.locals
 inj : ∀ x y c, X.env.cells.lookup x = some c -> X.env.cells.lookup y = some c -> x = y
 has : ∀ x, (X.env.kindOf x = some .cell ∨ X.env.kindOf x = some .free) -> ∃ c, X.env.cells.lookup x = some c
 cab : ∀ x c, X.fn x = true -> X.env.cells.lookup x = some c -> X.s_0.heap.objs.size <= c
 hd : X.calm = true -> X.A.handled = none
 frames : X.A.frames = some X.stack
 stk : X.stack = X.outer ∨ (X.stack = X.env :: X.outer /\ X.env.frame = some X.env.locals)
 exf : ∀ b ∈ X.ex, b ≠ X.env.locals /\ ∀ x c, X.env.cells.lookup x = some c -> c ≠ b
 bs : ∀ b o, X.base.get? b = some o -> X.s_0.heap.get? b = some o /\ X.H_0 b = none
 bsz : X.base.objs.size <= X.s_0.heap.objs.size
 noex : ∀ b o, X.base.get? b = some o -> b ∉ X.ex
 exfs : ∀ b ∈ X.ex, b ∉ X.fs
 funs : X.s_0.heap.FunFrames X.base X.outer
 frf : ∀ b ∈ X.fs, X.H_0 b = none
structure Inv (X : Cx) (pins : List (Addr × Obj)) (σ : List (Option V)) (H : Hp) (s : Shared) : Prop where
 ok : X.Ok
 os : s.os = X.s_0.os
 bare : AllBare s.gens
 base : Un X.fs X.ex X.H_0 H X.s_0.heap s.heap
 loc : ∃ m, s.heap.Ns X.env.locals m /\ ∀ (i : Nat) (x : Str) (v : V), X.N[i]? = some x -> σ[i]? = some (some v) -> Vis X.env.scope x -> ∃ u, RelV v u /\ Look X.env s.heap m x u
 cell : ∀ x c, X.env.cells.lookup x = some c -> ∃ v, s.heap.IsCell c v
 free : H X.env.locals = none
 freeC : ∀ x c, X.env.cells.lookup x = some c -> H c = none
 pin : ∀ p ∈ X.pn ++ pins, s.heap.get? p.1 = some p.2 /\ H p.1 = none /\ p.1 ≠ X.env.locals /\ p.1 ∉ X.fs /\ ∀ v, p.2.data ≠ .cell v
 hok : HOk X.prog X.w H s.heap
 len : σ.length = X.N.length
section
variable {X : Cx} {pins : List (Addr × Obj)} {σ : List (Option V)} {H H' : Hp} {s : Shared} {h' : Heap}
theorem Cx.Ok.nofr (ok : X.Ok) {b : Addr} {o : Obj} (e : X.base.get? b = some o) : b ∉ X.fs := fun hb => by
 have := (ok.funs.mem hb).1
 rw [e] at this; cases this
theorem Inv.bs (I : Inv X pins σ H s) : ∀ b o, X.base.get? b = some o -> s.heap.get? b = some o /\ H b = none := fun b o e =>
 ⟨I.base.keep b o (I.ok.bs b o e).1 (I.ok.bs b o e).2 (I.ok.nofr e) (I.ok.noex b o e), I.base.free b o (I.ok.bs b o e).1 (I.ok.bs b o e).2 (I.ok.noex b o e)⟩
theorem Inv.bk (I : Inv X pins σ H s) : ∀ b o, X.base.get? b = some o -> s.heap.get? b = some o := fun b o e => (I.bs b o e).1
theorem Inv.mod (I : Inv X pins σ H s) : Mod X.K X.mg X.base := I.ok.mod
theorem Inv.kIn (I : Inv X pins σ H s) : X.K.In s.heap := I.ok.mod.kin.keeps I.bk
theorem Inv.nolimit (I : Inv X pins σ H s) : s.heap.NoLimit := I.ok.mod.nolimit.keeps I.bk
theorem Inv.lt (I : Inv X pins σ H s) : X.env.locals < s.heap.objs.size := let ⟨_, hn, _⟩ := I.loc; hn.lt
theorem Inv.sz (I : Inv X pins σ H s) : X.s_0.heap.objs.size <= s.heap.objs.size := Nat.le_trans I.ok.above (Nat.le_of_lt I.lt)
theorem Inv.nofs (I : Inv X pins σ H s) {a : Addr} (h : s.heap.objs.size <= a) : a ∉ X.fs := fun hb => by
 obtain ⟨_, o, ho, _⟩ := I.ok.funs.mem hb
 exact absurd (Nat.lt_of_lt_of_le (Heap.lt_size ho) (Nat.le_trans I.sz h)) (Nat.lt_irrefl _)
theorem Inv.cne (I : Inv X pins σ H s) : ∀ x c, X.env.cells.lookup x = some c -> c ≠ X.env.locals := fun x c e z => by
 obtain ⟨v, o, ho, hd⟩ := I.cell x c e
 obtain ⟨m, ⟨o', es, ep, ho', hd', _⟩, _⟩ := I.loc
 rw [z, ho'] at ho; cases ho; rw [hd'] at hd; cases hd
theorem Inv.funs (I : Inv X pins σ H s) : s.heap.FunFrames X.base X.outer := by
 have all : ∀ (l : List Env), (∀ b ∈ frs l, b ∈ X.fs) -> X.s_0.heap.FunFrames X.base l -> s.heap.FunFrames X.base l := by
  intro l
  induction l with
  | nil => intro _ _; trivial
  | cons env r ih =>
   intro hs hl
   obtain ⟨hk, ⟨L, o, hf, hn, ho, hd⟩, hr⟩ := hl
   have hL : L ∈ X.fs := hs L (by unfold frs; rw [List.filterMap_cons, hf]; exact List.mem_cons_self)
   obtain ⟨sl, e⟩ := I.base.slot L o ho (I.ok.frf L hL) hL fun z => I.ok.exfs L z hL
   exact ⟨hk, ⟨L, _, hf, hn, e, hd⟩, ih (fun b hb => hs b (by unfold frs; rw [List.filterMap_cons, hf]; exact List.mem_cons_of_mem _ hb)) hr⟩
 exact all X.outer (fun _ hb => hb) I.ok.funs
theorem Inv.stack (I : Inv X pins σ H s) : s.heap.FunFrames X.base X.stack := by
 rcases I.ok.stk with e | ⟨e, hf⟩
 ·rw [e]; exact I.funs
 ·rw [e]
  obtain ⟨m, hn, _⟩ := I.loc
  refine .cons (by rw [I.ok.kind]; decide) hf hn ?_ I.funs
  exact Heap.get?_none_of_le (Nat.le_trans I.ok.bsz I.ok.above)
theorem Inv.stkSub (I : Inv X pins σ H s) : ∀ b ∈ frs X.stack, b ∈ X.env.locals :: X.fs := fun b hb => by
 rcases I.ok.stk with e | ⟨e, hf⟩
 ·rw [e] at hb; exact List.mem_cons_of_mem _ hb
 ·rw [e] at hb
  unfold frs at hb
  rw [List.filterMap_cons, hf] at hb
  exact hb
theorem Inv.stkFree (I : Inv X pins σ H s) : ∀ b ∈ frs X.stack, H b = none := fun b hb => by
 rcases List.mem_cons.mp (I.stkSub b hb) with e | hb
 ·rw [e]; exact I.free
 ·obtain ⟨_, o, ho, _⟩ := I.ok.funs.mem hb
  exact I.base.free b o ho (I.ok.frf b hb) fun z => I.ok.exfs b z hb
theorem Inv.step {g' : Array GenState} {t' : Nat} {d' : Drawn} {ch : List Addr} (I : Inv X pins σ H s)
  (hch : ∀ b ∈ ch, (b ∈ X.ex ∨ X.s_0.heap.objs.size <= b) /\ b ≠ X.env.locals /\ (∀ x c, X.env.cells.lookup x = some c -> c ≠ b) /\ ∀ p ∈ X.pn ++ pins, p.1 ≠ b)
  (keep : ∀ b o, b ≠ X.env.locals -> b ∉ X.fs -> b ∉ ch -> s.heap.get? b = some o -> H b = none -> h'.get? b = some o)
  (slot : ∀ b o, b ≠ X.env.locals -> b ∈ X.fs -> b ∉ ch -> s.heap.get? b = some o -> H b = none -> ∃ sl, h'.get? b = some { o with slots := sl }) (free : ∀ b o, b ∉ ch -> s.heap.get? b = some o -> H b = none -> H' b = none)
  (there : ∀ b o, b ∉ ch -> s.heap.get? b = some o -> ∃ o', h'.get? b = some o')
  (tups : ∀ b xs, H b = some (.tup xs) -> H' b = some (.tup xs)) (frzs : ∀ b o u, H b = some (.frz o u) -> H' b = some (.frz o u)) (tbls : ∀ b ps, H b = some (.tbl ps) -> ∃ more, H' b = some (.tbl (ps ++ more)))
  (ns : ∀ m, s.heap.Ns X.env.locals m -> h'.Ns X.env.locals m) (hok : HOk X.prog X.w H' h') (hg : AllBare g') :
  Inv X pins σ H' { s with heap := h', gens := g', drawn := d', toks := t' } := by
 have neL : ∀ b o, X.s_0.heap.get? b = some o -> b ≠ X.env.locals := fun b o e => Nat.ne_of_lt (Nat.lt_of_lt_of_le (Heap.lt_size e) I.ok.above)
 have neC : ∀ b o, X.s_0.heap.get? b = some o -> b ∉ X.ex -> b ∉ ch := fun b o e hx hb => by
  rcases (hch b hb).1 with z | z
  ·exact hx z
  ·exact absurd (Nat.lt_of_lt_of_le (Heap.lt_size e) z) (Nat.lt_irrefl _)
 have cellK : ∀ x c, X.env.cells.lookup x = some c -> ∀ v, s.heap.IsCell c v -> h'.IsCell c v := fun x c e v ⟨o, ho, hd⟩ => by
  have nch : c ∉ ch := fun z => (hch c z).2.2.1 x c e rfl
  by_cases hc : c ∈ X.fs
  ·obtain ⟨sl, q⟩ := slot c o (I.cne x c e) hc nch ho (I.freeC x c e)
   exact ⟨_, q, hd⟩
  ·exact ⟨o, keep c o (I.cne x c e) hc nch ho (I.freeC x c e), hd⟩
 refine ⟨I.ok, I.os, hg, ⟨fun b o e n hb hx => ?_, fun b o e n hb hx => ?_, fun b o e n hx => ?_, fun b o e hx => ?_, fun b xs e => tups b xs (I.base.tups b xs e), fun b o xs e => frzs b o xs (I.base.frzs b o xs e), fun b ps e => ?_⟩, ?_, fun x c e => ?_, ?_, fun x c e => ?_, fun p hp => ?_, hok, I.len⟩
 ·exact keep b o (neL b o e) hb (neC b o e hx) (I.base.keep b o e n hb hx) (I.base.free b o e n hx)
 ·obtain ⟨sl, e1⟩ := I.base.slot b o e n hb hx
  obtain ⟨sl', e2⟩ := slot b _ (neL b o e) hb (neC b o e hx) e1 (I.base.free b o e n hx)
  exact ⟨sl', e2⟩
 ·obtain ⟨o', e1⟩ := I.base.there b o e hx
  exact free b o' (neC b o e hx) e1 (I.base.free b o e n hx)
 ·obtain ⟨o', e1⟩ := I.base.there b o e hx
  exact there b o' (neC b o e hx) e1
 ·obtain ⟨m1, e1⟩ := I.base.tbls b ps e
  obtain ⟨m2, e2⟩ := tbls b _ e1
  exact ⟨m1 ++ m2, by rw [e2, Array.append_assoc]⟩
 ·obtain ⟨m, hn, hl⟩ := I.loc
  refine ⟨m, ns m hn, fun i x v e1 e2 e3 => ?_⟩
  obtain ⟨u, r, l⟩ := hl i x v e1 e2 e3
  refine ⟨u, r, ?_⟩
  rcases l with l | ⟨k, c, e, z⟩
  ·exact .inl l
  ·exact .inr ⟨k, c, e, cellK x c e _ z⟩
 ·obtain ⟨v, z⟩ := I.cell x c e
  exact ⟨v, cellK x c e v z⟩
 ·obtain ⟨m, ⟨o, _, _, ho, _⟩, _⟩ := I.loc
  exact free _ o (fun z => (hch _ z).2.1 rfl) ho I.free
 ·obtain ⟨v, o, ho, hd⟩ := I.cell x c e
  exact free c o (fun z => (hch c z).2.2.1 x c e rfl) ho (I.freeC x c e)
 ·obtain ⟨e, n, ne, nf, d⟩ := I.pin p hp
  have nch : p.1 ∉ ch := fun z => (hch p.1 z).2.2.2 p hp rfl
  exact ⟨keep p.1 p.2 ne nf nch e n, free p.1 p.2 nch e n, ne, nf, d⟩
theorem Inv.un {t' : Nat} (I : Inv X pins σ H s) (u : Un X.fs [] H H' s.heap h') (hok : HOk X.prog X.w H' h') : Inv X pins σ H' { s with heap := h', toks := t' } := by
 obtain ⟨m, ⟨o, es, ep, ho, r⟩, _⟩ := id I.loc
 obtain ⟨sl, hL⟩ := u.any ho I.free (by simp)
 exact I.step (g' := s.gens) (d' := s.drawn) (ch := []) (fun _ z => nomatch z) (fun b o _ hb _ e n => u.keep b o e n hb (by simp)) (fun b o _ hb _ e n => u.slot b o e n hb (by simp)) (fun b o _ e n => u.free b o e n (by simp)) (fun b o _ e => u.there b o e (by simp)) u.tups u.frzs u.tbls (fun m' hm => by
  obtain ⟨o', es', ep', ho', r'⟩ := hm
  rw [ho] at ho'; cases ho'
  exact ⟨_, es', ep', hL, r'⟩) hok I.bare
theorem Inv.call {g' : Array GenState} {t' : Nat} {d' : Drawn} {ch : List Addr} (I : Inv X pins σ H s) (u : Un (frs X.stack) ch H H' s.heap h') (hok : HOk X.prog X.w H' h') (hg : AllBare g')
  (hch : ∀ b ∈ ch, (b ∈ X.ex ∨ X.s_0.heap.objs.size <= b) /\ b ≠ X.env.locals /\ (∀ x c, X.env.cells.lookup x = some c -> c ≠ b) /\ ∀ p ∈ X.pn ++ pins, p.1 ≠ b) :
  Inv X pins σ H' { s with heap := h', gens := g', drawn := d', toks := t' } := by
 obtain ⟨m, ⟨o, es, ep, ho, r⟩, _⟩ := id I.loc
 obtain ⟨sl, hL⟩ := u.any ho I.free fun z => (hch _ z).2.1 rfl
 exact I.step (ch := ch) hch (fun b o hL hb hc e n => u.keep b o e n (fun z => (List.mem_cons.mp (I.stkSub b z)).elim hL hb) hc) (fun b o _ _ hc e n => u.any e n hc) (fun b o hc e n => u.free b o e n hc) (fun b o hc e => u.there b o e hc) u.tups u.frzs u.tbls (fun m' hm => by
  obtain ⟨o', es', ep', ho', r'⟩ := hm
  rw [ho] at ho'; cases ho'
  exact ⟨_, es', ep', hL, r'⟩) hok hg
theorem Inv.turned {t' : Nat} {it : Addr} (I : Inv X pins σ H s) (k : ∀ b o, b ≠ it -> s.heap.get? b = some o -> h'.get? b = some o) (hn : H it = none) (hL : it ≠ X.env.locals)
  (h1 : it ∈ X.ex ∨ X.s_0.heap.objs.size <= it) (h2 : ∀ x c, X.env.cells.lookup x = some c -> c ≠ it) (h3 : ∀ p ∈ X.pn ++ pins, p.1 ≠ it) : Inv X pins σ H { s with heap := h', toks := t' } := by
 have nit : ∀ b u, H b = some u -> b ≠ it := fun b u e z => by rw [z, hn] at e; cases e
 refine I.step (g' := s.gens) (d' := s.drawn) (ch := [it]) (fun b hb => ?_) (fun b o _ _ hc e _ => k b o (fun z => hc (by simp [z])) e) (fun b o _ _ hc e _ => ⟨o.slots, k b o (fun z => hc (by simp [z])) e⟩) (fun _ _ _ _ n => n)
  (fun b o hc e => ⟨o, k b o (fun z => hc (by simp [z])) e⟩) (fun _ _ e => e) (fun _ _ _ e => e) (fun b ps e => ⟨#[], by rw [e]; simp⟩) (fun m hm => ?_) (fun b u e => ?_) I.bare
 ·have e : b = it := by simpa using hb
  subst e
  exact ⟨h1, hL, h2, h3⟩
 ·obtain ⟨o, es, ep, ho, r⟩ := hm
  exact ⟨o, es, ep, k _ o (Ne.symm hL) ho, r⟩
 ·refine (I.hok b u e).stay (fun c v hc q => k c v ?_ q) (fun _ q => q) fun _ _ q => q
  rcases hc with z | z
  ·rw [z]; exact nit b u e
  ·exact nit c _ z
theorem Inv.tok (I : Inv X pins σ H s) (t : Nat) : Inv X pins σ H { s with toks := t } := I.un (h' := s.heap) (t' := t) Un.refl I.hok
theorem Inv.kept {t' : Nat} (I : Inv X pins σ H s) (k : ∀ b u, s.heap.get? b = some u -> h'.get? b = some u) : Inv X pins σ H { s with heap := h', toks := t' } := I.un (Un.kept k) (I.hok.kept k)
theorem Inv.laid {a : Addr} {o : HO} {t' : Nat} (I : Inv X pins σ H s) (k : ∀ b u, s.heap.get? b = some u -> h'.get? b = some u) (hp : s.heap.objs.size <= a) (new : ObjOk X.prog X.w (upd H a o) h' a o) :
  Inv X pins σ (upd H a o) { s with heap := h', toks := t' } := I.un (Un.laid k hp (I.hok.fresh hp)) (I.hok.laid k hp new)
theorem Inv.write {x e : Addr} {o : HO} {t' : Nat} (I : Inv X pins σ H s) (mu : Mut (H x)) (he : e = x ∨ H e = some (.own x)) (k : ∀ b u, b ≠ e -> s.heap.get? b = some u -> h'.get? b = some u) (heo : ∃ u, h'.get? e = some u)
  (new : ObjOk X.prog X.w (upd H x o) h' x o) : Inv X pins σ (upd H x o) { s with heap := h', toks := t' } := I.un (Un.write mu he k heo) (I.hok.write mu he k heo new)
theorem Inv.weak {σ' : List (Option V)} (I : Inv X pins σ H s) (hl : σ'.length = σ.length) (w : ∀ (i : Nat) v, σ'[i]? = some (some v) -> σ[i]? = some (some v)) : Inv X pins σ' H s :=
 ⟨I.ok, I.os, I.bare, I.base, let ⟨m, hn, hl'⟩ := I.loc; ⟨m, hn, fun i x v e1 e2 e3 => hl' i x v e1 (w i v e2) e3⟩, I.cell, I.free, I.freeC, I.pin, I.hok, hl.trans I.len⟩
theorem Inv.pins_of {pins' : List (Addr × Obj)} (I : Inv X pins σ H s) (h : ∀ p ∈ pins', s.heap.get? p.1 = some p.2 /\ H p.1 = none /\ p.1 ≠ X.env.locals /\ p.1 ∉ X.fs /\ ∀ v, p.2.data ≠ .cell v) : Inv X pins' σ H s :=
 ⟨I.ok, I.os, I.bare, I.base, I.loc, I.cell, I.free, I.freeC, fun p hp => (List.mem_append.mp hp).elim (fun z => I.pin p (List.mem_append_left _ z)) (h p), I.hok, I.len⟩
theorem nodup_ix {N : List Str} (hN : N.Nodup) {i j : Nat} {x : Str} (a : N[i]? = some x) (b : N[j]? = some x) : i = j := by
 obtain ⟨h1, e1⟩ := List.getElem?_eq_some_iff.mp a
 obtain ⟨h2, e2⟩ := List.getElem?_eq_some_iff.mp b
 exact (List.getElem_inj hN).mp (e1.trans e2.symm)
theorem store_ok2 {M : Model} {A : Around} {E : Value -> Shared -> Prop} {i : Nat} {x : Str} {v : V} {u : Value} {Q : Unit -> Shared -> Prop} (I : Inv X pins σ H s) (hN : X.N.Nodup) (hi : X.N[i]? = some x) (hx : Loc X.env.scope x) (r : RelV v u)
  (h : ∀ s', Inv X pins (σ.set i (some v)) H s' -> (∃ a, Heap.SameBut a s.heap s'.heap /\ (a = X.env.locals ∨ X.env.cells.lookup x = some a)) -> Q () s') (hf : X.fn x = true ∨ X.env.scope.names.lookup x = some .local := by first | exact .inl rfl | exact .inr rfl | assumption) : wpAny M A (storeName X.env x u) Q E s := by
 obtain ⟨m, hn, hl⟩ := id I.loc
 have hcls : (X.env.scope.kind == .class || (X.env.scope.kind == .module && X.env.locals != X.env.globals)) = false := by rw [I.ok.kind]; rfl
 have hiσ : i < σ.length := by rw [I.len]; exact (List.getElem?_eq_some_iff.mp hi).1
 have cne := I.cne
 have tracked : ∀ {a : Addr} {h' : Heap}, (∃ o, s.heap.get? a = some o /\ H a = none) -> Heap.SameBut a s.heap h' -> HOk X.prog X.w H h' := fun {a h'} ha hs b ob e => by
  obtain ⟨_, _, hfree⟩ := ha
  refine (I.hok b ob e).stay (fun c w' hc q => (hs.2 c ?_).trans q) (fun _ q => q) fun _ _ q => q
  rintro rfl
  rcases hc with rfl | hc
  ·rw [hfree] at e; cases e
  ·rw [hfree] at hc; cases hc
 rcases hx with hk | hk
 ·refine wpAny_storeName_local hk hn (fun h' hn' hs => ?_) hcls
  obtain ⟨oL, _, _, hoL, _⟩ := id hn
  refine h _ ⟨I.ok, I.os, I.bare, ⟨fun b o e n hb hx => ?_, fun b o e n hb hx => ?_, I.base.free, fun b o e hx => ?_, I.base.tups, I.base.frzs, I.base.tbls⟩, ⟨_, hn', fun j y v' e1 e2 e3 => ?_⟩, fun y c e => ?_, I.free, I.freeC, fun p hp => ?_, tracked ⟨oL, hoL, I.free⟩ hs, by simpa using I.len⟩ ⟨_, hs, .inl rfl⟩
  ·exact (hs.2 b (Nat.ne_of_lt (Nat.lt_of_lt_of_le (Heap.lt_size e) I.ok.above))).trans (I.base.keep b o e n hb hx)
  ·obtain ⟨sl, e1⟩ := I.base.slot b o e n hb hx
   exact ⟨sl, (hs.2 b (Nat.ne_of_lt (Nat.lt_of_lt_of_le (Heap.lt_size e) I.ok.above))).trans e1⟩
  ·obtain ⟨o', e1⟩ := I.base.there b o e hx
   exact ⟨o', (hs.2 b (Nat.ne_of_lt (Nat.lt_of_lt_of_le (Heap.lt_size e) I.ok.above))).trans e1⟩
  ·by_cases hj : j = i
   ·subst hj
    rw [hi] at e1; cases e1
    rw [List.getElem?_set_self hiσ] at e2
    cases e2
    exact ⟨u, r, .inl ⟨hk, by simp⟩⟩
   ·rw [List.getElem?_set_ne (Ne.symm hj)] at e2
    obtain ⟨u', r', q⟩ := hl j y v' e1 e2 e3
    refine ⟨u', r', ?_⟩
    rcases q with ⟨k, e⟩ | ⟨k, c, e, z⟩
    ·refine .inl ⟨k, ?_⟩
     have : y ≠ x := fun e => hj (nodup_ix hN e1 (e ▸ hi))
     simp [this, e]
    ·exact .inr ⟨k, c, e, z.sameBut hs (cne y c e)⟩
  ·obtain ⟨w', z⟩ := I.cell y c e
   exact ⟨w', z.sameBut hs (cne y c e)⟩
  ·obtain ⟨e, n, ne, nf, d⟩ := I.pin p hp
   exact ⟨(hs.2 p.1 ne).trans e, n, ne, nf, d⟩
 ·have hfn : X.fn x = true := by
   rcases hf with z | z
   ·exact z
   ·rw [z] at hk; cases hk
  obtain ⟨c, hc⟩ := I.ok.has x (.inl hk)
  obtain ⟨w', z⟩ := I.cell x c hc
  refine wpAny_storeName_cell I.ok.kind hk hc z (fun h' hc' hs => ?_)
  obtain ⟨oc, hoc, hocd⟩ := id z
  refine h { s with heap := h' } ⟨I.ok, I.os, I.bare, ⟨fun b o e n hb hx => ?_, fun b o e n hb hx => ?_, I.base.free, fun b o e hx => ?_, I.base.tups, I.base.frzs, I.base.tbls⟩, ⟨m, hn.sameBut hs (Ne.symm (cne x c hc)), fun j y v' e1 e2 e3 => ?_⟩, fun y c' e => ?_, I.free, I.freeC, fun p hp => ?_, tracked ⟨oc, hoc, I.freeC x c hc⟩ hs, by simpa using I.len⟩ ⟨c, hs, .inr hc⟩
  ·exact (hs.2 b (Nat.ne_of_lt (Nat.lt_of_lt_of_le (Heap.lt_size e) (I.ok.cab x c hfn hc)))).trans (I.base.keep b o e n hb hx)
  ·obtain ⟨sl, e1⟩ := I.base.slot b o e n hb hx
   exact ⟨sl, (hs.2 b (Nat.ne_of_lt (Nat.lt_of_lt_of_le (Heap.lt_size e) (I.ok.cab x c hfn hc)))).trans e1⟩
  ·obtain ⟨o', e1⟩ := I.base.there b o e hx
   exact ⟨o', (hs.2 b (Nat.ne_of_lt (Nat.lt_of_lt_of_le (Heap.lt_size e) (I.ok.cab x c hfn hc)))).trans e1⟩
  ·by_cases hj : j = i
   ·subst hj
    rw [hi] at e1; cases e1
    rw [List.getElem?_set_self hiσ] at e2
    cases e2
    exact ⟨u, r, .inr ⟨.inl hk, c, hc, hc'⟩⟩
   ·rw [List.getElem?_set_ne (Ne.symm hj)] at e2
    obtain ⟨u', r', q⟩ := hl j y v' e1 e2 e3
    refine ⟨u', r', ?_⟩
    rcases q with q | ⟨k, c', e, z'⟩
    ·exact .inl q
    ·refine .inr ⟨k, c', e, z'.sameBut hs ?_⟩
     rintro rfl
     exact hj (nodup_ix hN e1 (I.ok.inj _ _ _ e hc ▸ hi))
  ·by_cases hcc : c' = c
   ·subst hcc; exact ⟨_, hc'⟩
   ·obtain ⟨w2, z2⟩ := I.cell y c' e
    exact ⟨w2, z2.sameBut hs hcc⟩
  ·obtain ⟨e, n, ne, nf, d⟩ := I.pin p hp
   refine ⟨(hs.2 p.1 ?_).trans e, n, ne, nf, d⟩
   intro q
   rw [q, hoc] at e
   have q' : oc = p.2 := Option.some.inj e
   exact d w' (by rw [<- q']; exact hocd)
theorem store_ok {M : Model} {A : Around} {E : Value -> Shared -> Prop} {i : Nat} {x : Str} {v : V} {u : Value} {Q : Unit -> Shared -> Prop} (I : Inv X pins σ H s) (hN : X.N.Nodup) (hi : X.N[i]? = some x) (hx : Loc X.env.scope x) (r : RelV v u)
  (h : ∀ s', Inv X pins (σ.set i (some v)) H s' -> Q () s') (hf : X.fn x = true ∨ X.env.scope.names.lookup x = some .local := by first | exact .inl rfl | exact .inr rfl | assumption) : wpAny M A (storeName X.env x u) Q E s :=
 store_ok2 I hN hi hx r (fun s' I' _ => h s' I') hf
theorem Inv.call' {s' : Shared} {ch : List Addr} (I : Inv X pins σ H s) (ho : s'.os = s.os) (u : Un (frs X.stack) ch H H' s.heap s'.heap) (hok : HOk X.prog X.w H' s'.heap) (hg : AllBare s'.gens)
  (hch : ∀ b ∈ ch, (b ∈ X.ex ∨ X.s_0.heap.objs.size <= b) /\ b ≠ X.env.locals /\ (∀ x c, X.env.cells.lookup x = some c -> c ≠ b) /\ ∀ p ∈ X.pn ++ pins, p.1 ≠ b) : Inv X pins σ H' s' := by
 obtain ⟨h', g', d', t', o'⟩ := s'
 have e : o' = s.os := ho
 subst e
 exact I.call (g' := g') (t' := t') (d' := d') u hok hg hch
end
abbrev XK := Value -> Option Addr -> Hp -> Prop
abbrev St := List (Option V)
abbrev VK := V -> Hp -> Prop
abbrev TE := St -> Hp -> VK -> Prop
abbrev TT := St -> Hp -> (Bool -> Hp -> Prop) -> Prop
abbrev TA := St -> Hp -> (List V -> Hp -> Prop) -> Prop
structure Ends where
 nx : St -> Hp -> Prop
 rt : VK
 bk : St -> Hp -> Prop := fun _ _ => False
 ct : St -> Hp -> Prop := fun _ _ => False
abbrev TS := Ends -> St -> Hp -> Prop
def EP (X : Cx) (pins : List (Addr × Obj)) (σ : St) (Q : VK) (u : Value) (s' : Shared) : Prop := ∃ v H', Inv X pins σ H' s' /\ RelV v u /\ Q v H'
def TP (X : Cx) (pins : List (Addr × Obj)) (σ : St) (Q : Bool -> Hp -> Prop) (b : Bool) (s' : Shared) : Prop := ∃ H', Inv X pins σ H' s' /\ Q b H'
def AP (X : Cx) (pins : List (Addr × Obj)) (σ : St) (Q : List V -> Hp -> Prop) (us : List Value) (s' : Shared) : Prop := ∃ vs H', Inv X pins σ H' s' /\ Vals vs us /\ Q vs H'
def SP (X : Cx) (pins : List (Addr × Obj)) (D : Ends) (f : Flow) (s' : Shared) : Prop :=
 match f with
 | .next => ∃ σ' H', Inv X pins σ' H' s' /\ D.nx σ' H'
 | .brk => ∃ σ' H', Inv X pins σ' H' s' /\ D.bk σ' H'
 | .cont => ∃ σ' H', Inv X pins σ' H' s' /\ D.ct σ' H'
 | .ret u => ∃ v σ' H', Inv X pins σ' H' s' /\ RelV v u /\ D.rt v H'
def PE (X : Cx) (e : Expr) (t : TE) : Prop :=
 ∀ (pins : List (Addr × Obj)) (s : Shared) (σ : St) (H : Hp) (Q : VK), Inv X pins σ H s -> t σ H Q -> wpAny (model X.prog X.w) X.A (eval e X.env) (EP X pins σ Q) X.xe s
def PT (X : Cx) (e : Expr) (t : TT) : Prop :=
 ∀ (pins : List (Addr × Obj)) (s : Shared) (σ : St) (H : Hp) (Q : Bool -> Hp -> Prop), Inv X pins σ H s -> t σ H Q -> wpAny (model X.prog X.w) X.A (isTrue e X.env (eval e X.env)) (TP X pins σ Q) X.xe s
def PW (X : Cx) (e : Expr) (t : TT) : Prop :=
 ∀ (whole : Sem Value) (pins : List (Addr × Obj)) (s : Shared) (σ : St) (H : Hp) (Q : Bool -> Hp -> Prop), Inv X pins σ H s -> t σ H Q -> wpAny (model X.prog X.w) X.A (isTrue e X.env whole) (TP X pins σ Q) X.xe s
theorem PW.pt {X : Cx} {e : Expr} {t : TT} (h : PW X e t) : PT X e t := h _
def PA (X : Cx) (es : List Expr) (t : TA) : Prop :=
 ∀ (pos : Pos) (pins : List (Addr × Obj)) (s : Shared) (σ : St) (H : Hp) (Q : List V -> Hp -> Prop), Inv X pins σ H s -> t σ H Q -> wpAny (model X.prog X.w) X.A (spliced (backTo pos (starEach es X.env))) (AP X pins σ Q) X.xe s
def PS (X : Cx) (st : Stmt) (t : TS) : Prop :=
 ∀ (pins : List (Addr × Obj)) (s : Shared) (σ : St) (H : Hp) (D : Ends), Inv X pins σ H s -> t D σ H -> wpAny (model X.prog X.w) X.A (exec st X.env) (SP X pins D) X.xe s
def PSs (X : Cx) (st : List Stmt) (t : TS) : Prop :=
 ∀ (pins : List (Addr × Obj)) (s : Shared) (σ : St) (H : Hp) (D : Ends), Inv X pins σ H s -> t D σ H -> wpAny (model X.prog X.w) X.A (execs st X.env) (SP X pins D) X.xe s
theorem thn {α : Type} {t : Sem α} {Q Q' : α -> Shared -> Prop} {M : Model} {A : Around} {E : Value -> Shared -> Prop} {s : Shared} (h : wpAny M A t Q E s) (hQ : ∀ a s, Q a s -> Q' a s) : wpAny M A t Q' E s := wpAny_mono h hQ fun _ _ x => x
section
variable {X : Cx}
def tVar (i : Nat) : TE := fun σ H Q => ∃ v, σ[i]? = some (some v) /\ Q v H
def tC (v : V) : TE := fun _ H Q => Q v H
theorem pe_var {i : Nat} {x : Str} {pos : Pos} (hN : X.N[i]? = some x) (hv : Vis X.env.scope x) (hd : (x == ("__debug__" : Str)) = false := by decide) (hcd : (x == ("__classdict__" : Str)) = false := by decide) : PE X (.Name x pos) (tVar i) := by
 intro pins s σ H Q I h
 obtain ⟨v, e, h⟩ := h
 obtain ⟨m, hn, hl⟩ := I.loc
 obtain ⟨u, r, l⟩ := hl i x v hN e hv
 have fin : EP X pins σ Q u s := ⟨v, H, I, r, h⟩
 rcases l with ⟨hk, hm⟩ | ⟨hk, c, hc, hcell⟩
 ·exact wpAny_Name (wpAny_loadName_local I.ok.kind hk hn hm fin) hd
 ·rcases hk with hk | hk
  ·exact wpAny_Name (wpAny_loadName_cell I.ok.kind hk hc hcell fin) hd
  ·exact wpAny_Name (wpAny_loadName_free I.ok.kind hk hc hcell fin hcd) hd
theorem pe_int {i j pos} : PE X (.Constant (.int i) j pos) (tC (.int i)) := fun _ _ _ H _ I h => wpAny_Constant_int ⟨.int i, H, I.tok _, ⟨_, rfl⟩, h⟩
theorem pe_bl {b j pos} : PE X (.Constant (.bool b) j pos) (tC (.bl b)) := fun _ _ _ H _ I h => Constant_bool ⟨.bl b, H, I, rfl, h⟩
theorem pe_non {j pos} : PE X (.Constant .none j pos) (tC .non) := fun _ _ _ H _ I h => Constant_none ⟨.non, H, I, rfl, h⟩
def Gl (X : Cx) (x : Str) : Prop := X.env.kindOf x = some .globalImplicit
theorem ld_glob {E : Value -> Shared -> Prop} {pins : List (Addr × Obj)} {s : Shared} {σ : St} {H : Hp} {x : Str} {u : Value} {pos : Pos} {Q : Value -> Shared -> Prop} (I : Inv X pins σ H s) (hg : Gl X x) (hm : X.mg x = some u) (h : Q u s)
  (hd : (x == ("__debug__" : Str)) = false := by decide) : wpAny (model X.prog X.w) X.A (eval (.Name x pos) X.env) Q E s :=
 Calls.Name_function_global I.ok.kind hg (Calls.loadGlobal_global (by rw [I.ok.glob]; exact I.mod.glob.keeps I.bk) hm h) hd
theorem ld_blt {E : Value -> Shared -> Prop} {pins : List (Addr × Obj)} {s : Shared} {σ : St} {H : Hp} {x : Str} {u : Value} {pos : Pos} {Q : Value -> Shared -> Prop} (I : Inv X pins σ H s) (hg : Gl X x) (hm : X.mg x = none) (hv : bootBuiltins x = some u) (h : Q u s)
  (hn : x ≠ "__name__" := by decide) (hd : (x == ("__debug__" : Str)) = false := by decide) : wpAny (model X.prog X.w) X.A (eval (.Name x pos) X.env) Q E s := by
 obtain ⟨mb, h1, h2⟩ := I.mod.blt
 exact Calls.Name_function_global I.ok.kind hg (Calls.loadGlobal_builtin (by rw [I.ok.glob]; exact I.mod.glob.keeps I.bk) hm (by rw [I.ok.blt]; exact h1.keeps I.bk) ((h2 x hn).trans hv) h) hd
theorem pe_glob {x : Str} {v : V} {u : Value} {pos : Pos} (hg : Gl X x) (hm : X.mg x = some u) (r : RelV v u) (hd : (x == ("__debug__" : Str)) = false := by decide) : PE X (.Name x pos) (tC v) :=
 fun _ _ _ H _ I h => ld_glob I hg hm ⟨v, H, I, r, h⟩ hd
variable {a b : Expr} {ta tb : TE} {pos : Pos}
def PC (X : Cx) (op : CmpOp) (a b : Expr) (t : TE) : Prop :=
 ∀ (pins : List (Addr × Obj)) (s : Shared) (σ : St) (H : Hp) (Q : VK), Inv X pins σ H s -> t σ H Q ->
  wpAny (model X.prog X.w) X.A (eval a X.env) (fun v s₁ => wpAny (model X.prog X.w) X.A (eval b X.env) (fun u s₂ => wpAny (model X.prog X.w) X.A (compareOp op v u) (EP X pins σ Q) X.xe s₂) X.xe s₁) X.xe s
theorem nobehind (b : Expr) {op : CmpOp} (h : op ≠ .In) (h2 : op ≠ .NotIn) : behindInMarks op b = false := by
 have e1 : (op == CmpOp.In) = false := by cases op <;> first | rfl | exact absurd rfl h
 have e2 : (op == CmpOp.NotIn) = false := by cases op <;> first | rfl | exact absurd rfl h2
 cases b <;> simp [behindInMarks, e1, e2]
def tIsN (ta : TE) : TE := fun σ H Q => ta σ H fun x H1 => Q (.bl (decide (x = .non))) H1
def tNotN (ta : TE) : TE := fun σ H Q => ta σ H fun x H1 => Q (.bl (!decide (x = .non))) H1
theorem RelV.none_iff {x : V} {v : Value} (r : RelV x v) : (v == Value.none) = decide (x = .non) := by
 cases x with
 | non => cases r; rfl
 | bl _ => cases r; rfl
 | int _ => obtain ⟨t, rfl⟩ := r; rfl
 | str _ => obtain ⟨t, rfl⟩ := r; rfl
 | byt _ => obtain ⟨t, rfl⟩ := r; rfl
 | flt _ => obtain ⟨t, rfl⟩ := r; rfl
 | ref _ => cases r; rfl
 | ty _ => cases r; rfl
theorem pc_isN {j pos'} (ha : PE X a ta) : PC X .Is a (.Constant .none j pos') (tIsN ta) := by
 intro pins s σ H Q I h
 refine thn (ha pins s σ H _ I h) fun v s1 ⟨x, H1, I1, r1, q1⟩ => ?_
 exact Constant_none (is_none_gen ⟨.bl _, H1, I1, by rw [r1.none_iff]; rfl, q1⟩)
theorem pc_notN {j pos'} (ha : PE X a ta) : PC X .IsNot a (.Constant .none j pos') (tNotN ta) := by
 intro pins s σ H Q I h
 refine thn (ha pins s σ H _ I h) fun v s1 ⟨x, H1, I1, r1, q1⟩ => ?_
 exact Constant_none (isnot_none_gen ⟨.bl _, H1, I1, by rw [r1.none_iff]; rfl, q1⟩)
def tB (t : TE) : TT := fun σ H Q => t σ H fun x H1 => ∃ c, x = .bl c /\ Q c H1
theorem pe_cmp {op : CmpOp} {t : TE} (h : PC X op a b t) (h1 : behindInMarks op b = false := by first | exact nobehind _ (by decide) (by decide) | rfl) : PE X (.Compare a [op] [b] pos) t := fun pins s σ H Q I hw => wpAny_Compare1 (h pins s σ H Q I hw) h1
theorem pt_cmp {op : CmpOp} {t : TE} (h : PC X op a b t) (h1 : behindInMarks op b = false := by first | exact nobehind _ (by decide) (by decide) | rfl) : PT X (.Compare a [op] [b] pos) (tB t) := by
 intro pins s σ H Q I hw
 refine wpAny_isTrue_Compare1 (thn (h pins s σ H _ I hw) fun v s1 h1 => thn h1 fun u s2 h2 => thn h2 fun c s3 ⟨x, H1, I1, r1, q1⟩ => ?_) h1
 obtain ⟨d, rfl, q⟩ := q1
 cases r1
 exact wpAny_truthy_bool ⟨H1, I1, q⟩
theorem pt_val {e : Expr} {t : TE} (h : PE X e t) (he : ∀ whole, isTrue e X.env whole = (do let v <- whole; standAt e.pos; holding [v] (truthy v)) := by intro _; rfl) : PT X e (tB t) := by
 intro pins s σ H Q I hw
 refine isTrue_plain (thn (h pins s σ H _ I hw) fun v s1 ⟨x, H1, I1, r1, q1⟩ => ?_) (he _)
 obtain ⟨d, rfl, q⟩ := q1
 cases r1
 exact wpAny_truthy_bool ⟨H1, I1, q⟩
variable {tA tB' : TT} {rest : List Expr}
def tAnd (t u : TT) : TT := fun σ H Q => t σ H fun c H1 => if c = true then u σ H1 Q else Q false H1
def tOr (t u : TT) : TT := fun σ H Q => t σ H fun c H1 => if c = true then Q true H1 else u σ H1 Q
def tNot (t : TT) : TT := fun σ H Q => t σ H fun c H1 => Q (!c) H1
theorem pw_and1 (ha : PT X a tA) : PW X (.BoolOp .And [a] pos) tA := by
 intro wh pins s σ H Q I h
 refine isTrue_and (thn (ha pins s σ H Q I h) fun c s1 e => ?_)
 cases c with
 | true => exact isTrue_and_nil e
 | false => exact e
theorem pw_or1 (ha : PT X a tA) : PW X (.BoolOp .Or [a] pos) tA := by
 intro wh pins s σ H Q I h
 refine isTrue_or (thn (ha pins s σ H Q I h) fun c s1 e => ?_)
 cases c with
 | false => exact isTrue_or_nil e
 | true => exact e
theorem pw_and (ha : PT X a tA) (hb : PW X (.BoolOp .And (b :: rest) pos) tB') : PW X (.BoolOp .And (a :: b :: rest) pos) (tAnd tA tB') := by
 intro wh pins s σ H Q I h
 refine isTrue_and (thn (ha pins s σ H _ I h) fun c s1 ⟨H1, I1, q1⟩ => ?_)
 cases c with
 | true => exact hb wh pins s1 σ H1 Q I1 q1
 | false => exact ⟨H1, I1, q1⟩
theorem pw_or (ha : PT X a tA) (hb : PW X (.BoolOp .Or (b :: rest) pos) tB') : PW X (.BoolOp .Or (a :: b :: rest) pos) (tOr tA tB') := by
 intro wh pins s σ H Q I h
 refine isTrue_or (thn (ha pins s σ H _ I h) fun c s1 ⟨H1, I1, q1⟩ => ?_)
 cases c with
 | true => exact ⟨H1, I1, q1⟩
 | false => exact hb wh pins s1 σ H1 Q I1 q1
theorem pt_not (ha : PT X a tA) : PT X (.UnaryOp .Not a pos) (tNot tA) := by
 intro pins s σ H Q I h
 exact isTrue_not (ha pins s σ H (fun c H1 => Q (!c) H1) I h)
def tAndV (ta tb : TE) : TE := fun σ H Q => ta σ H fun x H1 => ∃ c, x = .bl c /\ if c = true then tb σ H1 Q else Q (.bl false) H1
def tOrV (ta tb : TE) : TE := fun σ H Q => ta σ H fun x H1 => ∃ c, x = .bl c /\ if c = true then Q (.bl true) H1 else tb σ H1 Q
theorem pe_one {op} {t : TE} (h : PE X a t) : PE X (.BoolOp op [a] pos) t := fun pins s σ H Q I hw => BoolOp_one (h pins s σ H Q I hw)
theorem pe_and (ha : PE X a ta) (hb : PE X (.BoolOp .And (b :: rest) pos) tb) : PE X (.BoolOp .And (a :: b :: rest) pos) (tAndV ta tb) := by
 intro pins s σ H Q I h
 refine BoolOp_and (thn (ha pins s σ H _ I h) fun v s1 ⟨x, H1, I1, r1, q1⟩ => ?_)
 obtain ⟨c, rfl, q1⟩ := q1
 cases r1
 refine wpAny_truthy_bool ?_
 cases c with
 | true => exact hb pins s1 σ H1 Q I1 q1
 | false => exact ⟨.bl false, H1, I1, rfl, q1⟩
theorem pe_or (ha : PE X a ta) (hb : PE X (.BoolOp .Or (b :: rest) pos) tb) : PE X (.BoolOp .Or (a :: b :: rest) pos) (tOrV ta tb) := by
 intro pins s σ H Q I h
 refine BoolOp_or (thn (ha pins s σ H _ I h) fun v s1 ⟨x, H1, I1, r1, q1⟩ => ?_)
 obtain ⟨c, rfl, q1⟩ := q1
 cases r1
 refine wpAny_truthy_bool ?_
 cases c with
 | false => exact hb pins s1 σ H1 Q I1 q1
 | true => exact ⟨.bl true, H1, I1, rfl, q1⟩
end
def SqL (K : PySem.W.Frag) (H : Hp) (a : Addr) (xs : List V) : Prop :=
 Rd H a (.lst xs) ∨
  ∃ (o : Obj) (its : Array Value) (n : Nat), K.lookup a = some o /\ o.cls = .type "list" /\ o.dict = none /\ o.data = .seq its n /\ its.size <= sizeLine /\ Vals xs its.toList
def SqT (K : PySem.W.Frag) (H : Hp) (a : Addr) (xs : List V) : Prop :=
 Rd H a (.tup xs) ∨
  ∃ (o : Obj) (its : Array Value) (n : Nat), K.lookup a = some o /\ o.cls = .type "tuple" /\ o.data = .seq its n /\ its.size <= sizeLine /\ Vals xs its.toList
def absV : Value -> Option V
 | .none => some .non
 | .bool b => some (.bl b)
 | .int i _ => some (.int i)
 | .str x _ => some (.str x)
 | .bytes b _ => some (.byt b)
 | .float b _ => some (.flt b)
 | .ref a => some (.ref a)
 | .type n => some (.ty n)
 | _ => none
theorem RelV.abs {x : V} {u : Value} (r : RelV x u) : absV u = some x := by
 cases x with
 | non => cases r; rfl
 | bl _ => cases r; rfl
 | int _ => obtain ⟨t, rfl⟩ := r; rfl
 | str _ => obtain ⟨t, rfl⟩ := r; rfl
 | byt _ => obtain ⟨t, rfl⟩ := r; rfl
 | flt _ => obtain ⟨t, rfl⟩ := r; rfl
 | ref _ => cases r; rfl
 | ty _ => cases r; rfl
theorem RelV.inj {x y : V} {u : Value} (r : RelV x u) (q : RelV y u) : x = y := Option.some.inj (r.abs.symm.trans q.abs)
theorem Vals.inj : ∀ {xs ys : List V} {us : List Value}, Vals xs us -> Vals ys us -> xs = ys
 | _, _, _, .nil, .nil => rfl
 | _, _, _, .cons r t, .cons r' t' => by rw [r.inj r', Vals.inj t t']
section
variable {X : Cx} {pins : List (Addr × Obj)} {σ : St} {H : Hp} {s : Shared} {a : Addr} {xs ys : List V}
theorem SqL.of {K : PySem.W.Frag} (h : H a = some (.lst xs)) : SqL K H a xs := .inl (.inl h)
theorem Inv.list (I : Inv X pins σ H s) (h : SqL X.K H a xs) : ∃ its : List Value, Vals xs its /\ PlainL s.heap a its.toArray /\ xs.length <= sizeLine := by
 rcases h with h | ⟨o, its, n, hk, hc, hd, hs, hz, r⟩
 ·obtain ⟨z, its, n, r, e⟩ := h.ok I.hok
  exact ⟨its, r, ⟨_, n, e, rfl, rfl, rfl⟩, z⟩
 ·refine ⟨its.toList, r, ⟨o, n, I.kIn a o hk, hc, hd, by simpa using hs⟩, ?_⟩
  have e := r.length
  simp only [Array.length_toList] at e
  omega
theorem Inv.tuple (I : Inv X pins σ H s) (h : SqT X.K H a xs) : ∃ its : List Value, Vals xs its /\ IsTup s.heap a its.toArray /\ xs.length <= sizeLine := by
 rcases h with h | ⟨o, its, n, hk, hc, hs, hz, r⟩
 ·obtain ⟨z, its, r, p⟩ := h.ok I.hok
  exact ⟨its, r, p, z⟩
 ·refine ⟨its.toList, r, ⟨o, I.kIn a o hk, hc, n, by simpa using hs⟩, ?_⟩
  have e := r.length
  simp only [Array.length_toList] at e
  omega
theorem Inv.list_inj (I : Inv X pins σ H s) (h : SqL X.K H a xs) (h' : SqL X.K H a ys) : xs = ys := by
 obtain ⟨its, r, ⟨o, n, e, _, _, d⟩, _⟩ := I.list h
 obtain ⟨its', r', ⟨o', n', e', _, _, d'⟩, _⟩ := I.list h'
 rw [e] at e'; cases e'
 rw [d] at d'
 injection d' with d1 _
 have : its = its' := by simpa using congrArg Array.toList d1
 subst this
 exact r.inj r'
end
abbrev Cx.wish (X : Cx) (E : Value -> Shared -> Prop) : Cx := { X with xe := E }
abbrev Cx.nox (X : Cx) : Cx := X.wish fun _ _ => False
theorem Cx.Ok.wish {X : Cx} (ok : X.Ok) (E : Value -> Shared -> Prop) : (X.wish E).Ok :=
 ⟨ok.mod, ok.kind, ok.glob, ok.blt, ok.above, ok.inj, ok.has, ok.cab, ok.hd, ok.frames, ok.stk, ok.exf, ok.bs, ok.bsz, ok.noex, ok.exfs, ok.funs, ok.frf⟩
theorem Cx.Ok.unwish {X : Cx} {E : Value -> Shared -> Prop} (ok : (X.wish E).Ok) : X.Ok :=
 ⟨ok.mod, ok.kind, ok.glob, ok.blt, ok.above, ok.inj, ok.has, ok.cab, ok.hd, ok.frames, ok.stk, ok.exf, ok.bs, ok.bsz, ok.noex, ok.exfs, ok.funs, ok.frf⟩
section
variable {X : Cx} {pins : List (Addr × Obj)} {σ : St} {H : Hp} {s : Shared} {E : Value -> Shared -> Prop}
theorem Inv.wish (I : Inv X pins σ H s) (E : Value -> Shared -> Prop) : Inv (X.wish E) pins σ H s := ⟨I.ok.wish E, I.os, I.bare, I.base, I.loc, I.cell, I.free, I.freeC, I.pin, I.hok, I.len⟩
theorem Inv.unwish (I : Inv (X.wish E) pins σ H s) : Inv X pins σ H s := ⟨I.ok.unwish, I.os, I.bare, I.base, I.loc, I.cell, I.free, I.freeC, I.pin, I.hok, I.len⟩
theorem SP.unwish {D : Ends} {f : Flow} {s' : Shared} (h : SP (X.wish E) pins D f s') : SP X pins D f s' := by
 cases f with
 | next => obtain ⟨σ', H', I, q⟩ := h; exact ⟨σ', H', I.unwish, q⟩
 | brk => obtain ⟨σ', H', I, q⟩ := h; exact ⟨σ', H', I.unwish, q⟩
 | cont => obtain ⟨σ', H', I, q⟩ := h; exact ⟨σ', H', I.unwish, q⟩
 | ret u => obtain ⟨v, σ', H', I, r, q⟩ := h; exact ⟨v, σ', H', I.unwish, r, q⟩
theorem PSs.nox {st : List Stmt} {t : TS} (h : PSs X.nox st t) : PSs X st t := fun pins s σ H D I hw =>
 wpAny_mono (h pins s σ H D (I.wish _) hw) (fun _ _ q => q.unwish) fun _ _ z => False.elim z
end
section
variable {X : Cx} {st : Stmt} {rest : List Stmt} {t u : TS} {e : Expr} {te : TE} {pos : Pos}
def tNext : TS := fun D σ H => D.nx σ H
def tSeq (t u : TS) : TS := fun D σ H => t { D with nx := u D } σ H
theorem pss_nil : PSs X [] tNext := fun _ _ σ H _ I h => wpAny_execs_nil ⟨σ, H, I, h⟩
theorem pss_cons (h1 : PS X st t) (h2 : PSs X rest u) : PSs X (st :: rest) (tSeq t u) := by
 intro pins s σ H D I h
 refine wpAny_execs_cons (thn (h1 pins s σ H { D with nx := u D } I h) fun f s1 q => ?_)
 cases f with
 | next =>
  obtain ⟨σ', H', I', q⟩ := q
  exact h2 pins s1 σ' H' D I' q
 | ret v => exact q
 | brk => exact q
 | cont => exact q
theorem pss_one (h1 : PS X st t) : PSs X [st] t := by
 intro pins s σ H D I h
 refine wpAny_execs_cons (thn (h1 pins s σ H D I h) fun f s1 q => ?_)
 cases f with
 | next => exact wpAny_execs_nil q
 | ret v => exact q
 | brk => exact q
 | cont => exact q
theorem Inv.quiet {pins : List (Addr × Obj)} {σ : St} {H : Hp} {s : Shared} (I : Inv X pins σ H s) : interactive X.env = false := by simp [interactive, I.ok.kind]
def tDrop (te : TE) : TS := fun D σ H => te σ H fun _ H1 => D.nx σ H1
theorem ps_expr (he : PE X e te) (hs : swapsWith e none pos.line X.env = pure false := by rfl) : PS X (.Expr e pos) (tDrop te) := by
 intro pins s σ H D I h
 exact wpAny_Expr_any (thn (he pins s σ H _ I h) fun v s1 ⟨x, H1, I1, r1, q1⟩ => ⟨σ, H1, I1, q1⟩) I.quiet hs
def tRet (te : TE) : TS := fun D σ H => te σ H D.rt
theorem ps_ret (he : PE X e te) : PS X (.Return (some e) pos) (tRet te) := by
 intro pins s σ H D I h
 exact wpAny_Return_some (thn (he pins s σ H _ I h) fun v s1 ⟨x, H1, I1, r1, q1⟩ => ⟨x, σ, H1, I1, r1, q1⟩)
def tIfS (c : TT) (t u : TS) : TS := fun D σ H => c σ H fun b H1 => if b = true then t D σ H1 else u D σ H1
theorem ps_if {c : Expr} {a b : List Stmt} {tc : TT} (hc : PT X c tc) (ha : PSs X a t) (hb : PSs X b u) : PS X (.If c a b pos) (tIfS tc t u) := by
 intro pins s σ H D I h
 refine wpAny_If (thn (hc pins s σ H _ I h) fun d s1 ⟨H1, I1, q1⟩ => ?_)
 cases d with
 | true => exact ha pins s1 σ H1 D I1 q1
 | false => exact hb pins s1 σ H1 D I1 q1
end
abbrev TG := V -> St -> Hp -> (St -> Hp -> Prop) -> Prop
abbrev TGs := List V -> St -> Hp -> (St -> Hp -> Prop) -> Prop
def PG (X : Cx) (target : Expr) (t : TG) : Prop :=
 ∀ (pins : List (Addr × Obj)) (s : Shared) (σ : St) (H : Hp) (v : V) (u : Value) (Q : St -> Hp -> Prop), Inv X pins σ H s -> RelV v u -> t v σ H Q ->
  wpAny (model X.prog X.w) X.A (assign target X.env u) (fun _ s' => ∃ σ' H', Inv X pins σ' H' s' /\ Q σ' H') X.xe s
def PGs (X : Cx) (ts : List Expr) (t : TGs) : Prop :=
 ∀ (pins : List (Addr × Obj)) (s : Shared) (σ : St) (H : Hp) (vs : List V) (us : List Value) (Q : St -> Hp -> Prop), Inv X pins σ H s -> Vals vs us -> t vs σ H Q ->
  wpAny (model X.prog X.w) X.A (assignInOrder ((assignEach ts X.env).map (·.2)) us) (fun _ s' => ∃ σ' H', Inv X pins σ' H' s' /\ Q σ' H') X.xe s
abbrev TSet := V -> V -> V -> Hp -> (Hp -> Prop) -> Prop
def PSet (X : Cx) (t : TSet) : Prop :=
 ∀ (pins : List (Addr × Obj)) (s : Shared) (σ : St) (H : Hp) (o i v : V) (ov iv u : Value) (Q : Hp -> Prop), Inv X pins σ H s -> RelV o ov -> RelV i iv -> RelV v u -> t o i v H Q ->
  wpAny (model X.prog X.w) X.A (setItem ov iv u) (fun _ s' => ∃ H', Inv X pins σ H' s' /\ Q H') X.xe s
abbrev TIp := V -> V -> Hp -> VK -> Prop
def PIp (X : Cx) (op : Operator) (t : TIp) : Prop :=
 ∀ (pins : List (Addr × Obj)) (s : Shared) (σ : St) (H : Hp) (x y : V) (v u : Value) (Q : VK), Inv X pins σ H s -> RelV x v -> RelV y u -> t x y H Q ->
  wpAny (model X.prog X.w) X.A (inplaceOp op v u) (EP X pins σ Q) X.xe s
section
variable {X : Cx} {pos : Pos}
def gName (i : Nat) : TG := fun v σ H Q => Q (σ.set i (some v)) H
theorem pg_name {i : Nat} {x : Str} (hN : X.N.Nodup) (hi : X.N[i]? = some x) (hx : Loc X.env.scope x) (hf : X.fn x = true ∨ X.env.scope.names.lookup x = some .local := by first | exact .inl rfl | exact .inr rfl | assumption) : PG X (.Name x pos) (gName i) := by
 intro pins s σ H v u Q I r h
 exact wpAny_assign_Name (store_ok I hN hi hx r (fun s' I' => ⟨_, H, I', h⟩) hf)
def gNil : TGs := fun vs σ H Q => vs = [] /\ Q σ H
def gCons (t : TG) (u : TGs) : TGs := fun vs σ H Q => ∃ v r, vs = v :: r /\ t v σ H fun σ' H' => u r σ' H' Q
theorem pgs_nil : PGs X [] gNil := by
 intro pins s σ H vs us Q I r h
 obtain ⟨e, h⟩ := h
 subst e
 cases r
 exact assignInOrder_nil ⟨σ, H, I, h⟩
theorem pgs_cons {e : Expr} {es : List Expr} {t : TG} {u : TGs} (h1 : PG X e t) (h2 : PGs X es u)
  (hs : (assignEach (e :: es) X.env).map (·.2) = assign e X.env :: (assignEach es X.env).map (·.2) := by rfl) : PGs X (e :: es) (gCons t u) := by
 intro pins s σ H vs us Q I r h
 obtain ⟨v, vr, e1, h⟩ := h
 subst e1
 cases r with
 | cons r rr =>
  rw [hs]
  refine assignInOrder_cons (thn (h1 pins s σ H _ _ _ I r h) fun _ s1 ⟨σ1, H1, I1, q1⟩ => ?_)
  exact h2 pins s1 σ1 H1 _ _ Q I1 rr q1
def gTup (K : PySem.W.Frag) (n : Nat) (t : TGs) : TG := fun v σ H Q => ∃ a xs, v = .ref a /\ SqT K H a xs /\ xs.length = n /\ t xs σ H Q
theorem pg_tup {es : List Expr} {k : Nat} {t : TGs} {n : Nat} (hc : X.calm = true) (h : PGs X es t)
  (hn : (assignEach es X.env).length = n := by rfl) (hst : (assignEach es X.env).findIdx? (·.1) = none := by rfl) : PG X (.Tuple es k pos) (gTup X.K n t) := by
 intro pins s σ H v u Q I r hw
 obtain ⟨a, xs, e1, hq, hl, hw⟩ := hw
 subst e1
 cases r
 obtain ⟨its, rv, ht, hz⟩ := I.tuple hq
 refine assign_Tuple_tuple (I.ok.hd hc) ht (by simp [hn, <- hl, rv.length]) hst fun h' hx => ?_
 have I1 : Inv X pins σ H { s with heap := h' } := I.kept (t' := s.toks) fun b o e => hx b o (Nat.ne_of_lt (Heap.lt_size e)) e
 exact h pins _ σ H xs _ Q I1 (by simpa using rv) hw
def gSub (to ti : TE) (t : TSet) : TG := fun v σ H Q => to σ H fun o H1 => ti σ H1 fun i H2 => t o i v H2 fun H3 => Q σ H3
theorem pg_sub {o i : Expr} {to ti : TE} {t : TSet} (ho : PE X o to) (hi : PE X i ti) (hs : PSet X t)
  (ha : ∀ v, assign (.Subscript o i pos) X.env v = (do
   let ov <- holding [v] (eval o X.env)
   let iv <- holding [v, ov] (eval i X.env)
   standAt pos
   holding [v, ov, iv] (setItem ov iv v)
   release [v, ov, iv] []) := by intro _; rfl) : PG X (.Subscript o i pos) (gSub to ti t) := by
 intro pins s σ H v u Q I r h
 rw [ha]
 refine wpAny_bind (wpAny_holding (thn (ho pins s σ H _ I h) fun ov s1 ⟨x, H1, I1, r1, q1⟩ => ?_))
 refine wpAny_bind (wpAny_holding (thn (hi pins s1 σ H1 _ I1 q1) fun iv s2 ⟨y, H2, I2, r2, q2⟩ => ?_))
 refine wpAny_bind (wpAny_standAt (wpAny_bind (wpAny_holding (thn (hs pins s2 σ H2 x y v ov iv u _ I2 r1 r2 r q2) fun _ s3 ⟨H3, I3, q3⟩ => ?_))))
 exact wpAny_release ⟨σ, H3, I3, q3⟩
def tAsg (te : TE) (g : TG) : TS := fun D σ H => te σ H fun x H1 => g x σ H1 D.nx
theorem ps_asg {tg e : Expr} {te : TE} {g : TG} (he : PE X e te) (hg : PG X tg g) (hs : swapsWithSole [tg] e pos.line X.env = pure false := by rfl) (hw : swappedStores [tg] e X.env = pure none := by rfl)
  (h1 : (assignEach [tg] X.env).map (·.2) = [assign tg X.env] := by rfl) : PS X (.Assign [tg] e pos) (tAsg te g) := by
 intro pins s σ H D I h
 refine wpAny_Assign_stores (thn (he pins s σ H _ I h) fun v s1 ⟨x, H1, I1, r1, q1⟩ => ?_) hs hw
 rw [h1]
 exact thn (hg pins s1 σ H1 x v _ I1 r1 q1) fun _ s2 q => q
theorem ps_set {i : Nat} {x : Str} {e : Expr} {te : TE} {pos' : Pos} (hN : X.N.Nodup) (hi : X.N[i]? = some x) (hx : Loc X.env.scope x) (he : PE X e te) (hs : swapsWith e (some (.Name x pos')) pos.line X.env = pure false := by rfl) (hf : X.fn x = true ∨ X.env.scope.names.lookup x = some .local := by first | exact .inl rfl | exact .inr rfl | assumption) :
  PS X (.Assign [.Name x pos'] e pos) (tAsg te (gName i)) := by
 intro pins s σ H D I h
 refine wpAny_Assign_Name (thn (he pins s σ H _ I h) fun v s1 ⟨y, H1, I1, r1, q1⟩ => ?_) hs
 exact store_ok I1 hN hi hx r1 (fun s2 I2 => ⟨_, H1, I2, q1⟩) hf
def tAug (i : Nat) (te : TE) (ti : TIp) : TS := fun D σ H => ∃ x, σ[i]? = some (some x) /\ te σ H fun y H1 => ti x y H1 fun z H2 => D.nx (σ.set i (some z)) H2
theorem ps_aug {i : Nat} {x : Str} {e : Expr} {te : TE} {op : Operator} {ti : TIp} {pos' : Pos} (hN : X.N.Nodup) (hi : X.N[i]? = some x) (hx : Loc X.env.scope x) (he : PE X e te) (ho : PIp X op ti) (hf : X.fn x = true ∨ X.env.scope.names.lookup x = some .local := by first | exact .inl rfl | exact .inr rfl | assumption) :
  PS X (.AugAssign (.Name x pos') op e pos) (tAug i te ti) := by
 intro pins s σ H D I h
 obtain ⟨v, e1, h⟩ := h
 obtain ⟨m, hn, hl⟩ := I.loc
 have vis : Vis X.env.scope x := by rcases hx with k | k; exact .inl k; exact .inr (.inl k)
 obtain ⟨u, r, l⟩ := hl i x v hi e1 vis
 refine wpAny_AugAssign_Name ?_
 have go : wpAny (model X.prog X.w) X.A (eval e X.env) (fun w s₂ => wpAny (model X.prog X.w) X.A (inplaceOp op u w) (fun r s₃ => wpAny (model X.prog X.w) X.A (storeName X.env x r) (fun _ => SP X pins D .next) X.xe s₃) X.xe s₂) X.xe s := by
  refine thn (he pins s σ H _ I h) fun w s1 ⟨y, H1, I1, r1, q1⟩ => ?_
  refine thn (ho pins s1 σ H1 v y u w _ I1 r r1 q1) fun z s2 ⟨zv, H2, I2, r2, q2⟩ => ?_
  exact store_ok I2 hN hi hx r2 (fun s3 I3 => ⟨_, H2, I3, q2⟩) hf
 rcases l with ⟨hk, hm⟩ | ⟨hk, c, hc, hcell⟩
 ·exact wpAny_loadName_local I.ok.kind hk hn hm go
 ·rcases hk with hk | hk
  ·exact wpAny_loadName_cell I.ok.kind hk hc hcell go
  ·rcases hx with k | k
   ·have : X.env.scope.names.lookup x = some .free := hk
    rw [k] at this; cases this
   ·have : X.env.scope.names.lookup x = some .free := hk
    rw [k] at this; cases this
def ipI (f : Int -> Int -> Int) : TIp := fun x y H Q => ∃ i j, x = .int i /\ y = .int j /\ Q (.int (f i j)) H
theorem ip_add : PIp X .Add (ipI fun i j => i + j) := by
 intro pins s σ H x y v u Q I r1 r2 h
 obtain ⟨i, j, e1, e2, q⟩ := h
 subst e1; subst e2
 obtain ⟨t, rfl⟩ := r1
 obtain ⟨t', rfl⟩ := r2
 exact iadd_int ⟨.int _, H, I.tok _, ⟨_, rfl⟩, q⟩
theorem ip_sub : PIp X .Sub (ipI fun i j => i - j) := by
 intro pins s σ H x y v u Q I r1 r2 h
 obtain ⟨i, j, e1, e2, q⟩ := h
 subst e1; subst e2
 obtain ⟨t, rfl⟩ := r1
 obtain ⟨t', rfl⟩ := r2
 exact isub_int ⟨.int _, H, I.tok _, ⟨_, rfl⟩, q⟩
end
section
variable {X : Cx} {pos : Pos}
def tWhile (c : TT) (tb : TS) : TS := fun D σ H => ∃ W : Nat -> St -> Hp -> Prop, (∃ m, W m σ H) /\ ∀ m σ H, W m σ H ->
 c σ H fun b H1 => if b = true then ∃ N : St -> Hp -> Prop, (∀ σ' H', N σ' H' -> ∃ m', m' < m /\ W m' σ' H') /\ tb { D with nx := N, ct := N, bk := D.nx } σ H1 else D.nx σ H1
theorem ps_while {c : Expr} {body : List Stmt} {tc : TT} {tb : TS} (hp : PassesOwn (model X.prog X.w) X.A X.env X.xe) (hc : PT X c tc) (hb : PSs X body tb) : PS X (.While c body [] pos) (tWhile tc tb) := by
 intro pins s σ H D I h
 obtain ⟨W, ⟨m0, w0⟩, turn⟩ := h
 refine wpAny_While (codeAny_whileLoop (fun n s' => ∃ σ' H', Inv X pins σ' H' s' /\ W n σ' H') ?_ m0 ⟨σ, H, I, w0⟩)
 rintro n s1 ⟨σ1, H1, I1, w1⟩
 refine wpAny_passesOwn hp (thn (hc pins s1 σ1 H1 _ I1 (turn n σ1 H1 w1)) fun b s2 ⟨H2, I2, q2⟩ => ?_)
 cases b with
 | true =>
  obtain ⟨N, hN, q2⟩ := q2
  rw [if_pos rfl]
  refine wpAny_passesOwn hp (thn (hb pins s2 σ1 H2 _ I2 q2) fun f s3 q3 => ?_)
  cases f with
  | next =>
   obtain ⟨σ3, H3, I3, n3⟩ := q3
   obtain ⟨m', hm, w3⟩ := hN σ3 H3 n3
   exact ⟨m', hm, σ3, H3, I3, w3⟩
  | cont =>
   obtain ⟨σ3, H3, I3, n3⟩ := q3
   obtain ⟨m', hm, w3⟩ := hN σ3 H3 n3
   exact ⟨m', hm, σ3, H3, I3, w3⟩
  | brk => exact q3
  | ret v => exact q3
 | false =>
  rw [if_neg Bool.false_ne_true]
  exact wpAny_execs_nil ⟨σ1, H2, I2, q2⟩
end
structure It where
 go : Nat -> Hp -> Prop
 yld : Nat -> Hp -> V -> Hp -> Prop
 stop : Nat -> Hp -> Prop
def FpOk (X : Cx) (pins : List (Addr × Obj)) (H : Hp) (b : Addr) : Prop :=
 H b = none /\ b ≠ X.env.locals /\ b ∉ X.fs /\ (b ∈ X.ex ∨ X.s_0.heap.objs.size <= b) /\ (∀ x c, X.env.cells.lookup x = some c -> c ≠ b) /\ ∀ p ∈ X.pn ++ pins, p.1 ≠ b
theorem Inv.fpOk {X : Cx} {pins : List (Addr × Obj)} {σ : St} {H H' : Hp} {s : Shared} {b : Addr} (I : Inv X pins σ H s) (hb : s.heap.objs.size <= b) (hn : H' b = none) : FpOk X pins H' b := by
 refine ⟨hn, Nat.ne_of_gt (Nat.lt_of_lt_of_le I.lt hb), I.nofs hb, .inr (Nat.le_trans I.sz hb), fun x c e z => ?_, fun p hp z => ?_⟩
 ·obtain ⟨v, q⟩ := I.cell x c e
  exact absurd (Nat.lt_of_lt_of_le q.lt (by rw [z]; exact hb)) (Nat.lt_irrefl _)
 ·exact absurd (Nat.lt_of_lt_of_le (Heap.lt_size (I.pin p hp).1) (by rw [z]; exact hb)) (Nat.lt_irrefl _)
structure Turn (P : Program) (w : World) (K : PySem.W.Frag) (tg : Expr) (J : It) (fp : List Addr) (it : Addr) (tn : Nat -> Heap -> Prop) : Prop where
 mem : it ∈ fp
 obj : ∀ i h, tn i h -> ∀ b ∈ fp, ∃ o, h.get? b = some o /\ ∀ v, o.data ≠ .cell v
 keep : ∀ i h h', tn i h -> (∀ b ∈ fp, ∀ o, h.get? b = some o -> h'.get? b = some o) -> tn i h'
 item : ∀ (X : Cx), X.prog = P -> X.w = w -> X.K = K -> X.calm = true -> ∀ (i : Nat) (pins : List (Addr × Obj)) (s : Shared) (σ : St) (H : Hp) (E : Value -> Shared -> Prop), Inv X pins σ H s -> (∀ b ∈ fp, FpOk X pins H b) -> tn i s.heap -> J.go i H ->
  wpAny (model P w) X.A (pyNext (.ref it)) (fun r s1 => ∃ u, r = some u /\
   wpAny (model P w) X.A (letOwnedTupleGo tg (.ref it) u) (fun _ s2 => ∃ x H', Inv X pins σ H' s2 /\ RelV x u /\ J.yld i H x H' /\ tn (i + 1) s2.heap /\ ∀ b ∈ fp, H' b = none) E s1) E s
 done : ∀ (X : Cx), X.prog = P -> X.w = w -> X.K = K -> X.calm = true -> ∀ (i : Nat) (pins : List (Addr × Obj)) (s : Shared) (σ : St) (H : Hp) (E : Value -> Shared -> Prop), Inv X pins σ H s -> (∀ b ∈ fp, FpOk X pins H b) -> tn i s.heap -> J.stop i H ->
  wpAny (model P w) X.A (pyNext (.ref it)) (fun r s1 => r = none /\ Inv X pins σ H s1) E s
 self : ∀ (A : Around) (i : Nat) (s : Shared) (Q : Value -> Shared -> Prop) (E : Value -> Shared -> Prop), tn i s.heap -> Q (.ref it) s -> wpAny (model P w) A (pyIter (.ref it)) Q E s
abbrev TI := St -> Hp -> (It -> Hp -> Prop) -> Prop
def PIE (X : Cx) (pins : List (Addr × Obj)) (σ : St) (tg : Expr) (R : It -> Hp -> Prop) (itv : Value) (s2 : Shared) : Prop :=
 ∃ (it : Addr) (fp : List Addr) (tn : Nat -> Heap -> Prop) (J : It) (H' : Hp), itv = .ref it /\ Inv X pins σ H' s2 /\ Turn X.prog X.w X.K tg J fp it tn /\ tn 0 s2.heap /\ (∀ b ∈ fp, FpOk X pins H' b) /\ R J H'
def PI (X : Cx) (tg iter : Expr) (wi : TI) : Prop :=
 ∀ (pins : List (Addr × Obj)) (s : Shared) (σ : St) (H : Hp) (R : It -> Hp -> Prop), Inv X pins σ H s -> wi σ H R ->
  wpAny (model X.prog X.w) X.A (eval iter X.env) (fun v s1 => wpAny (model X.prog X.w) X.A (pyIter v) (PIE X pins σ tg R) X.xe s1) X.xe s
theorem go_of {M : Model} {A : Around} {E : Value -> Shared -> Prop} {s : Shared} {tg : Expr} {it : Addr} {u : Value} {o : Obj} {n : String} {vs : Array Value} {Q : Unit -> Shared -> Prop} (ho : s.heap.get? it = some o) (hc : o.cls = .type n) (hd : o.data = .fields vs)
  (hn : ["enumerate", "zip", "dict_itemiterator", "dict_reverseitemiterator", "odict_iterator", "itertools.zip_longest", "itertools.pairwise"].contains n = false) (hQ : Q () s) : wpAny M A (letOwnedTupleGo tg (.ref it) u) Q E s := by
 unfold letOwnedTupleGo
 cases tg <;> first
  | exact wpAny_pure hQ
  | (cases u <;> first
    | exact wpAny_pure hQ
    | (refine wpAny_bind (wpAny_load ho ?_)
       rw [hc, hd]
       show wpAny M A (if (["enumerate", "zip", "dict_itemiterator", "dict_reverseitemiterator", "odict_iterator", "itertools.zip_longest", "itertools.pairwise"].contains n && vs[0]? == some (rawInt _)) = true then _ else _) Q E s
       rw [if_neg (by intro h; rw [hn, Bool.false_and] at h; cases h)]
       exact wpAny_pure hQ))
def Itl (K : PySem.W.Frag) (a : Addr) : It :=
 ⟨fun i H => ∃ xs x, SqL K H a xs /\ xs[i]? = some x, fun i H x H' => H' = H /\ ∀ xs, SqL K H a xs -> xs[i]? = some x, fun i H => ∃ xs, SqL K H a xs /\ xs.length <= i⟩
def Itr (lo : Int) (n : Nat) : It := ⟨fun i _ => i < n, fun i H x H' => H' = H /\ x = .int (lo + i), fun i _ => n <= i⟩
theorem turn_list {P : Program} {w : World} {K : PySem.W.Frag} {tg : Expr} (a it : Addr) : Turn P w K tg (Itl K a) [it] it (fun i h => h.IsListIter it a i) where
 mem := by simp
 obj := fun i h st b hb => by
  have e : b = it := by simpa using hb
  subst e
  obtain ⟨o, e, c, d⟩ := st
  exact ⟨o, e, fun v z => by rw [d] at z; cases z⟩
 keep := fun i h h' st k => st.at fun o e => k it (by simp) o e
 item := by
  intro X hP hw hK hc i pins s σ H E I hf st hg
  subst hP hw hK
  obtain ⟨xs, x, hq, hx⟩ := hg
  obtain ⟨its, rv, p, hz⟩ := I.list hq
  obtain ⟨u, hu, ru⟩ := rv.get hx
  obtain ⟨f0, f1, f2, f3, f4, f5⟩ := hf it (by simp)
  refine wpAny_pyNext_list_item st p.isList (x := u) (by simpa using hu) fun h' st' sb => ?_
  have I1 : Inv X pins σ H { s with heap := h' } := I.turned (t' := s.toks) (fun b o hb e => (sb.2 b hb).trans e) f0 f1 f3 f4 f5
  obtain ⟨o, e, c, d⟩ := id st'
  exact ⟨u, rfl, go_of (s := { s with heap := h' }) e c d (by decide) ⟨x, H, I1, ru, ⟨rfl, fun ys hy => by rw [I.list_inj hy hq]; exact hx⟩, st', fun b hb => (hf b hb).1⟩⟩
 done := by
  intro X hP hw hK hc i pins s σ H E I hf st hg
  subst hP hw hK
  obtain ⟨xs, hq, hx⟩ := hg
  obtain ⟨its, rv, p, hz⟩ := I.list hq
  obtain ⟨f0, f1, f2, f3, f4, f5⟩ := hf it (by simp)
  have hl := rv.length
  exact wpAny_pyNext_list_end (I.ok.hd hc) st p.isList (by simp; omega) fun h' eb => ⟨rfl, I.turned (t' := s.toks) (fun b o hb e => eb b o hb e) f0 f1 f3 f4 f5⟩
 self := fun _ _ _ _ _ st h => wpAny_pyIter_listiter st h
theorem turn_range {P : Program} {w : World} {K : PySem.W.Frag} {tg : Expr} (it : Addr) (lo : Int) (n : Nat) : Turn P w K tg (Itr lo n) [it] it (fun i h => IsRangeIter h it (lo + (i : Nat) * 1) ((n : Int) - (i : Nat)) 1) where
 mem := by simp
 obj := fun i h st b hb => by
  have e : b = it := by simpa using hb
  subst e
  exact ⟨_, st, fun v z => by
   have z' : Data.fields _ = Data.cell v := z
   cases z'⟩
 keep := fun i h h' st k => k it (by simp) _ st
 item := by
  intro X hP hw hK hc i pins s σ H E I hf st hg
  subst hP hw hK
  obtain ⟨f0, f1, f2, f3, f4, f5⟩ := hf it (by simp)
  have W := Walks.range (prog := X.prog) (w := X.w) (I.ok.hd hc) it lo 1 n
  refine W.item i s _ _ hg st fun v h' tk hv st' kk => ?_
  obtain ⟨t, rfl⟩ := hv
  have I1 : Inv X pins σ H { s with heap := h', toks := tk } := I.turned (fun b o hb e => kk b o (by simpa using hb) e) f0 f1 f3 f4 f5
  refine ⟨_, rfl, go_of (s := { s with heap := h', toks := tk }) (n := "range_iterator") st' rfl rfl (by decide) ⟨.int (lo + i), H, I1, ⟨t, ?_⟩, ⟨rfl, rfl⟩, st', fun b hb => (hf b hb).1⟩⟩
  rw [Int.mul_one]
 done := by
  intro X hP hw hK hc i pins s σ H E I hf st hg
  subst hP hw hK
  obtain ⟨f0, f1, f2, f3, f4, f5⟩ := hf it (by simp)
  exact wpAny_pyNext_range_end (I.ok.hd hc) st (by have : n <= i := hg; omega) fun h' eb => ⟨rfl, I.turned (t' := s.toks) (fun b o hb e => eb b o hb e) f0 f1 f3 f4 f5⟩
 self := fun _ _ _ _ _ st h => wpAny_pyIter_rangeiter st h
section
variable {X : Cx} {tg : Expr}
def iList (K : PySem.W.Frag) (tl : TE) : TI := fun σ H R => tl σ H fun x H1 => ∃ a, x = .ref a /\ (∃ xs, SqL K H1 a xs) /\ R (Itl K a) H1
theorem pi_list {l : Expr} {tl : TE} (hl : PE X l tl) : PI X tg l (iList X.K tl) := by
 intro pins s σ H R I h
 refine thn (hl pins s σ H _ I h) fun v s1 ⟨x, H1, I1, r1, q1⟩ => ?_
 obtain ⟨a, e, ⟨xs, hq⟩, q⟩ := q1
 subst e
 cases r1
 obtain ⟨its, rv, p, hz⟩ := I1.list hq
 refine wpAny_pyIter_list p.isList ?_
 refine ⟨s1.heap.objs.size, [s1.heap.objs.size], _, _, H1, rfl, I1.kept (t' := s1.toks) fun b o e => Heap.get?_push_of_some _ e, turn_list a _, ⟨_, Heap.get?_push_size _ rfl, rfl, rfl⟩, fun b hb => ?_, q⟩
 have e : b = s1.heap.objs.size := by simpa using hb
 subst e
 exact I1.fpOk (Nat.le_refl _) (I1.hok.fresh (Nat.le_refl _))
theorem range_it {pins : List (Addr × Obj)} {σ : St} {H : Hp} {s : Shared} {R : It -> Hp -> Prop} {E : Value -> Shared -> Prop} {lo hi : Int} {t u v : Tok} {tk : Nat} (I : Inv X pins σ H s) (h1 : -(2 ^ 62) <= lo) (h2 : lo < 2 ^ 62) (h3 : -(2 ^ 62) <= hi) (h4 : hi < 2 ^ 62)
  (q : R (Itr lo (hi - lo).toNat) H) : wpAny (model X.prog X.w) X.A (pyIter (.ref s.heap.objs.size)) (PIE X pins σ tg R) E { s with heap := s.heap.push { cls := .type "range", data := .fields #[.int lo t, .int hi u, .int 1 v] }, toks := tk } := by
 refine wpAny_pyIter_range (IsRange.new ..) (small_one h1 h2 h3 h4) ?_
 have I1 : Inv X pins σ H { s with heap := s.heap.push { cls := .type "range", data := .fields #[.int lo t, .int hi u, .int 1 v] }, toks := tk } := I.kept fun b o e => Heap.get?_push_of_some _ e
 refine ⟨(s.heap.push { cls := .type "range", data := .fields #[.int lo t, .int hi u, .int 1 v] }).objs.size, [(s.heap.push { cls := .type "range", data := .fields #[.int lo t, .int hi u, .int 1 v] }).objs.size], _, _, H, rfl,
  I1.kept (t' := tk) fun b o e => Heap.get?_push_of_some _ e, turn_range _ lo (hi - lo).toNat, ?_, fun b hb => ?_, q⟩
 ·have e1 : lo + ((0 : Nat) : Int) * 1 = lo := by simp
  have e2 : (((hi - lo).toNat : Nat) : Int) - ((0 : Nat) : Int) = Builtin.Range.rangeSize lo hi 1 := by rw [rangeSize_one]; split <;> omega
  show IsRangeIter _ _ (lo + ((0 : Nat) : Int) * 1) ((((hi - lo).toNat : Nat) : Int) - ((0 : Nat) : Int)) 1
  rw [e1, e2]
  exact Heap.get?_push_size _ rfl
 ·have e : b = (s.heap.push { cls := .type "range", data := .fields #[.int lo t, .int hi u, .int 1 v] }).objs.size := by simpa using hb
  subst e
  exact I1.fpOk (Nat.le_refl _) (I1.hok.fresh (Nat.le_refl _))
def iRng2 (ta : TA) : TI := fun σ H R => ta σ H fun vs H1 => ∃ i j : Int, vs = [.int i, .int j] /\ (-(2 ^ 62) <= i /\ i < 2 ^ 62 /\ -(2 ^ 62) <= j /\ j < 2 ^ 62) /\ R (Itr i (j - i).toNat) H1
theorem pi_range2 {a b : Expr} {ta : TA} {p pos : Pos} (hg : Gl X "range") (hm : X.mg "range" = none) (ha : PA X [a, b] ta) (hs : starEach [a, b] X.env = [(false, eval a X.env), (false, eval b X.env)] := by rfl) (hs2 : starEach [b] X.env = [(false, eval b X.env)] := by rfl) :
  PI X tg (.Call (.Name "range" p) [a, b] [] pos) (iRng2 ta) := by
 intro pins s σ H R I h
 refine Call_ (ld_blt I hg hm boot_range (PyProof.Rows.callWith_type1 (thn (ha pos pins s σ H _ I h) fun us s1 ⟨vs, H1, I1, r1, q1⟩ => ?_) (by rw [hs, hs2]) (by rw [hs2]; rfl)))
 obtain ⟨i, j, e, ⟨q1, q2, q3, q4⟩, q⟩ := q1
 subst e
 cases r1 with
 | cons r rr =>
  cases rr with
  | cons r' rr =>
   cases rr
   obtain ⟨t, rfl⟩ := r
   obtain ⟨t', rfl⟩ := r'
   exact call_range_2 (range_it I1 q1 q2 q3 q4 q)
def tFor (wi : TI) (g : TG) (tb : TS) : TS := fun D σ H => wi σ H fun J H1 => ∃ W : Nat -> Nat -> St -> Hp -> Prop, (∃ m, W 0 m σ H1) /\ ∀ i m σ H, W i m σ H ->
 (J.stop i H /\ D.nx σ H) ∨ (J.go i H /\ ∃ N : St -> Hp -> Prop, (∀ σ' H', N σ' H' -> ∃ m', m' < m /\ W (i + 1) m' σ' H') /\ ∀ x H', J.yld i H x H' -> g x σ H' fun σ2 H2 => tb { D with nx := N, ct := N, bk := D.nx } σ2 H2)
def pinsAt (fp : List Addr) (h : Heap) : List (Addr × Obj) := fp.filterMap fun b => (h.get? b).map fun o => (b, o)
theorem mem_pinsAt {fp : List Addr} {h : Heap} {b : Addr} {o : Obj} (hb : b ∈ fp) (e : h.get? b = some o) : (b, o) ∈ pinsAt fp h := List.mem_filterMap.mpr ⟨b, hb, by rw [e]; rfl⟩
theorem of_pinsAt {fp : List Addr} {h : Heap} {p : Addr × Obj} (hp : p ∈ pinsAt fp h) : p.1 ∈ fp /\ h.get? p.1 = some p.2 := by
 obtain ⟨b, hb, e⟩ := List.mem_filterMap.mp hp
 cases q : h.get? b with
 | none => rw [q] at e; cases e
 | some o =>
  rw [q] at e
  have e' : (b, o) = p := Option.some.inj e
  subst e'
  exact ⟨hb, q⟩
theorem Inv.pinned {pins : List (Addr × Obj)} {σ : St} {H : Hp} {s : Shared} {fp : List Addr} (I : Inv X pins σ H s) (hf : ∀ b ∈ fp, FpOk X pins H b) (ho : ∀ b ∈ fp, ∃ o, s.heap.get? b = some o /\ ∀ v, o.data ≠ .cell v) : Inv X (pins ++ pinsAt fp s.heap) σ H s :=
 I.pins_of fun p hp => (List.mem_append.mp hp).elim (fun z => I.pin p (List.mem_append_right _ z)) fun z => by
  obtain ⟨hb, e⟩ := of_pinsAt z
  obtain ⟨f0, f1, f2, _⟩ := hf p.1 hb
  obtain ⟨o, e', d⟩ := ho p.1 hb
  rw [e] at e'; cases e'
  exact ⟨e, f0, f1, f2, d⟩
theorem Inv.unpinned {pins pl : List (Addr × Obj)} {σ : St} {H : Hp} {s : Shared} (I : Inv X (pins ++ pl) σ H s) : Inv X pins σ H s := I.pins_of fun p hp => I.pin p (List.mem_append_right _ (List.mem_append_left _ hp))
theorem ps_for {iter : Expr} {body : List Stmt} {wi : TI} {g : TG} {tb : TS} {pos : Pos} (hp : PassesOwn (model X.prog X.w) X.A X.env X.xe) (hc : X.calm = true) (hi : PI X tg iter wi) (hg : PG X tg g) (hb : PSs X body tb)
  (hs : ∀ x, foldedSetIterable iter X.env x = pure x := by intro _; rfl) : PS X (.For tg iter body [] pos) (tFor wi g tb) := by
 intro pins s σ H D I h
 refine wpAny_For (thn (hi pins s σ H _ I h) fun v s1 h1 => thn h1 fun itv s2 h2 => ?_) hs
 obtain ⟨it, fp, tn, J, H2, e, I2, T, st2, f2, W, ⟨m0, w0⟩, turn⟩ := h2
 subst e
 have stat : ∀ {H' : Hp}, (∀ b ∈ fp, H' b = none) -> ∀ b ∈ fp, FpOk X pins H' b := fun hn b hb => ⟨hn b hb, (f2 b hb).2⟩
 refine codeAny_forLoop_any (fun n s' => ∃ i σ' H', Inv X pins σ' H' s' /\ tn i s'.heap /\ (∀ b ∈ fp, H' b = none) /\ W i n σ' H') ?_ m0 ⟨0, σ, H2, I2, st2, fun b hb => (f2 b hb).1, w0⟩
 rintro n s3 ⟨i, σ3, H3, I3, st3, fr3, w3⟩
 rcases turn i n σ3 H3 w3 with ⟨stop, qn⟩ | ⟨go, N, hN, step⟩
 ·refine wpAny_passesOwn hp (thn (T.done X rfl rfl rfl hc i pins s3 σ3 H3 X.xe I3 (stat fr3) st3 stop) fun r s4 ⟨hr, I4⟩ => ?_)
  subst hr
  exact wpAny_execs_nil ⟨σ3, H3, I4, qn⟩
 ·refine wpAny_passesOwn hp (thn (T.item X rfl rfl rfl hc i pins s3 σ3 H3 X.xe I3 (stat fr3) st3 go) fun r s4 ⟨u, hr, h4⟩ => ?_)
  subst hr
  refine wpAny_passesOwn hp (thn h4 fun _ s5 ⟨x, H5, I5, r5, y5, st5, fr5⟩ => ?_)
  have I5' := I5.pinned (stat fr5) (T.obj _ _ st5)
  refine wpAny_passesOwn hp (thn (hg _ s5 σ3 H5 x u _ I5' r5 (step x H5 y5)) fun _ s6 ⟨σ6, H6, I6, q6⟩ => ?_)
  refine wpAny_passesOwn hp (thn (hb _ s6 σ6 H6 _ I6 q6) fun f s7 q7 => ?_)
  have again : ∀ {σ7 : St} {H7 : Hp}, Inv X (pins ++ pinsAt fp s5.heap) σ7 H7 s7 -> N σ7 H7 -> ∃ m, m < n /\ ∃ i σ' H', Inv X pins σ' H' s7 /\ tn i s7.heap /\ (∀ b ∈ fp, H' b = none) /\ W i m σ' H' := fun {σ7 H7} I7 n7 => by
   obtain ⟨m', hm, w7⟩ := hN σ7 H7 n7
   refine ⟨m', hm, i + 1, σ7, H7, I7.unpinned, T.keep _ _ _ st5 fun b hb o e => (I7.pin (b, o) (List.mem_append_right _ (List.mem_append_right _ (mem_pinsAt hb e)))).1, fun b hb => ?_, w7⟩
   obtain ⟨o, e, d⟩ := T.obj _ _ st5 b hb
   exact (I7.pin (b, o) (List.mem_append_right _ (List.mem_append_right _ (mem_pinsAt hb e)))).2.1
  cases f with
  | next => obtain ⟨σ7, H7, I7, n7⟩ := q7; exact again I7 n7
  | cont => obtain ⟨σ7, H7, I7, n7⟩ := q7; exact again I7 n7
  | brk => obtain ⟨σ7, H7, I7, q7⟩ := q7; exact ⟨σ7, H7, I7.unpinned, q7⟩
  | ret v => obtain ⟨x7, σ7, H7, I7, r7, q7⟩ := q7; exact ⟨x7, σ7, H7, I7.unpinned, r7, q7⟩
end
theorem for_list {K : PySem.W.Frag} {a : Addr} {xs : List V} {g : TG} {tb : TS} {D : Ends} {σ : St} {H : Hp} (Pv : Nat -> St -> Hp -> Prop) (h0 : Pv 0 σ H) (hl : ∀ i σ H, i <= xs.length -> Pv i σ H -> SqL K H a xs)
  (hs : ∀ i x σ H, xs[i]? = some x -> Pv i σ H -> g x σ H fun σ2 H2 => tb { D with nx := Pv (i + 1), ct := Pv (i + 1), bk := D.nx } σ2 H2) (hd : ∀ σ H, Pv xs.length σ H -> D.nx σ H) :
  ∃ W : Nat -> Nat -> St -> Hp -> Prop, (∃ m, W 0 m σ H) /\ ∀ i m σ H, W i m σ H ->
   ((Itl K a).stop i H /\ D.nx σ H) ∨ ((Itl K a).go i H /\ ∃ N : St -> Hp -> Prop, (∀ σ' H', N σ' H' -> ∃ m', m' < m /\ W (i + 1) m' σ' H') /\ ∀ x H', (Itl K a).yld i H x H' -> g x σ H' fun σ2 H2 => tb { D with nx := N, ct := N, bk := D.nx } σ2 H2) := by
 refine ⟨fun i m σ H => m = xs.length - i /\ i <= xs.length /\ Pv i σ H, ⟨xs.length, by simp, Nat.zero_le _, h0⟩, ?_⟩
 rintro i m σ H ⟨rfl, hi, p⟩
 have q := hl i σ H hi p
 by_cases hlt : i < xs.length
 ·refine .inr ⟨⟨xs, xs[i], q, by simp [hlt]⟩, Pv (i + 1), fun σ' H' p' => ⟨xs.length - (i + 1), by omega, rfl, hlt, p'⟩, fun x H' y => ?_⟩
  obtain ⟨e, y⟩ := y
  subst e
  exact hs i x σ _ (y xs q) p
 ·have e : i = xs.length := by omega
  subst e
  exact .inl ⟨⟨xs, q, Nat.le_refl _⟩, hd σ H p⟩
theorem while_by {c : TT} {tb : TS} {D : Ends} {σ : St} {H : Hp} (Pv : St -> Hp -> Prop) (μ : St -> Hp -> Nat) (h0 : Pv σ H)
  (hs : ∀ σ H, Pv σ H -> c σ H fun b H1 => if b = true then tb { D with nx := fun σ' H' => Pv σ' H' /\ μ σ' H' < μ σ H, ct := fun σ' H' => Pv σ' H' /\ μ σ' H' < μ σ H, bk := D.nx } σ H1 else D.nx σ H1)
  (mono : ∀ σ H Q Q', (∀ b H1, Q b H1 -> Q' b H1) -> c σ H Q -> c σ H Q') : tWhile c tb D σ H := by
 refine ⟨fun m σ H => m = μ σ H /\ Pv σ H, ⟨_, rfl, h0⟩, ?_⟩
 rintro m σ H ⟨rfl, p⟩
 refine mono σ H _ _ (fun b H1 q => ?_) (hs σ H p)
 cases b with
 | true => exact ⟨_, fun σ' H' ⟨p', l⟩ => ⟨_, l, rfl, p'⟩, q⟩
 | false => exact q
abbrev R2 := V -> V -> Hp -> VK -> Prop
def OpR (X : Cx) (f : Value -> Value -> Sem Value) (r : R2) : Prop :=
 ∀ (pins : List (Addr × Obj)) (s : Shared) (σ : St) (H : Hp) (x y : V) (v u : Value) (Q : VK), Inv X pins σ H s -> RelV x v -> RelV y u -> r x y H Q ->
  wpAny (model X.prog X.w) X.A (f v u) (EP X pins σ Q) X.xe s
def UnR (X : Cx) (f : Value -> Sem Value) (r : V -> Hp -> VK -> Prop) : Prop :=
 ∀ (pins : List (Addr × Obj)) (s : Shared) (σ : St) (H : Hp) (x : V) (v : Value) (Q : VK), Inv X pins σ H s -> RelV x v -> r x H Q ->
  wpAny (model X.prog X.w) X.A (f v) (EP X pins σ Q) X.xe s
def CallR (X : Cx) (f : Value) (r : List V -> Hp -> VK -> Prop) : Prop :=
 ∀ (pins : List (Addr × Obj)) (s : Shared) (σ : St) (H : Hp) (xs : List V) (us : List Value) (Q : VK), Inv X pins σ H s -> Vals xs us -> r xs H Q ->
  wpAny (model X.prog X.w) X.A (call f us) (EP X pins σ Q) X.xe s
def tOp (r : R2) (ta tb : TE) : TE := fun σ H Q => ta σ H fun x H1 => tb σ H1 fun y H2 => r x y H2 Q
def tUn (r : V -> Hp -> VK -> Prop) (ta : TE) : TE := fun σ H Q => ta σ H fun x H1 => r x H1 Q
def rI (C : Int -> Int -> Prop) (g : Int -> Int -> V) : R2 := fun x y H Q => ∃ i j, x = .int i /\ y = .int j /\ C i j /\ Q (g i j) H
def rI0 (g : Int -> Int -> V) : R2 := fun x y H Q => ∃ i j, x = .int i /\ y = .int j /\ Q (g i j) H
def rU (g : Int -> V) : V -> Hp -> VK -> Prop := fun x H Q => ∃ i, x = .int i /\ Q (g i) H
section
variable {X : Cx} {a b c : Expr} {ta tb tc : TE} {pos : Pos}
theorem binT (ha : PE X a ta) (hb : PE X b tb) {pins : List (Addr × Obj)} {s : Shared} {σ : St} {H : Hp} {R : V -> V -> Hp -> Prop} (I : Inv X pins σ H s)
  (h : ta σ H fun x H1 => tb σ H1 fun y H2 => R x y H2) {Q : Value -> Shared -> Prop} {f : Value -> Value -> Sem Value}
  (hf : ∀ v u s2 x y H2, Inv X pins σ H2 s2 -> RelV x v -> RelV y u -> R x y H2 -> wpAny (model X.prog X.w) X.A (f v u) Q X.xe s2) :
  wpAny (model X.prog X.w) X.A (eval a X.env) (fun v s₁ => wpAny (model X.prog X.w) X.A (eval b X.env) (fun u s₂ => wpAny (model X.prog X.w) X.A (f v u) Q X.xe s₂) X.xe s₁) X.xe s := by
 refine thn (ha pins s σ H _ I h) fun v s1 ⟨x, H1, I1, r1, q1⟩ => ?_
 refine thn (hb pins s1 σ H1 _ I1 q1) fun u s2 ⟨y, H2, I2, r2, q2⟩ => ?_
 exact hf v u s2 x y H2 I2 r1 r2 q2
theorem pe_op {op : Operator} {r : R2} (ho : OpR X (binaryOp op) r) (ha : PE X a ta) (hb : PE X b tb) : PE X (.BinOp a op b pos) (tOp r ta tb) := by
 intro pins s σ H Q I h
 exact wpAny_BinOp (binT ha hb I h fun v u s2 x y H2 I2 rx ry q => ho pins s2 σ H2 x y v u Q I2 rx ry q)
theorem pe_un {op : UnaryOp} {r : V -> Hp -> VK -> Prop} (ho : UnR X (unaryOp op) r) (ha : PE X a ta) : PE X (.UnaryOp op a pos) (tUn r ta) := by
 intro pins s σ H Q I h
 exact UnaryOp_ (thn (ha pins s σ H _ I h) fun v s1 ⟨x, H1, I1, r1, q1⟩ => ho pins s1 σ H1 x v Q I1 r1 q1)
theorem opI {f : Value -> Value -> Sem Value} {C : Int -> Int -> Prop} {g : Int -> Int -> Int}
  (rule : ∀ (i j : Int) (t u : Tok) (s : Shared) (Q : Value -> Shared -> Prop) (E : Value -> Shared -> Prop), C i j -> Q (.int (g i j) s.toks) { s with toks := s.toks + 1 } -> wpAny (model X.prog X.w) X.A (f (.int i t) (.int j u)) Q E s) :
  OpR X f (rI C fun i j => .int (g i j)) := by
 intro pins s σ H x y v u Q I rx ry h
 obtain ⟨i, j, rfl, rfl, hc, q⟩ := h
 obtain ⟨t, rfl⟩ := rx
 obtain ⟨t', rfl⟩ := ry
 exact rule i j t t' s _ _ hc ⟨.int (g i j), H, I.tok _, ⟨_, rfl⟩, q⟩
theorem opI0 {f : Value -> Value -> Sem Value} {g : Int -> Int -> Int}
  (rule : ∀ (i j : Int) (t u : Tok) (s : Shared) (Q : Value -> Shared -> Prop) (E : Value -> Shared -> Prop), Q (.int (g i j) s.toks) { s with toks := s.toks + 1 } -> wpAny (model X.prog X.w) X.A (f (.int i t) (.int j u)) Q E s) :
  OpR X f (rI0 fun i j => .int (g i j)) := by
 intro pins s σ H x y v u Q I rx ry h
 obtain ⟨i, j, rfl, rfl, q⟩ := h
 obtain ⟨t, rfl⟩ := rx
 obtain ⟨t', rfl⟩ := ry
 exact rule i j t t' s _ _ ⟨.int (g i j), H, I.tok _, ⟨_, rfl⟩, q⟩
theorem opB0 {f : Value -> Value -> Sem Value} {g : Int -> Int -> Bool}
  (rule : ∀ (i j : Int) (t u : Tok) (s : Shared) (Q : Value -> Shared -> Prop) (E : Value -> Shared -> Prop), Q (.bool (g i j)) s -> wpAny (model X.prog X.w) X.A (f (.int i t) (.int j u)) Q E s) :
  OpR X f (rI0 fun i j => .bl (g i j)) := by
 intro pins s σ H x y v u Q I rx ry h
 obtain ⟨i, j, rfl, rfl, q⟩ := h
 obtain ⟨t, rfl⟩ := rx
 obtain ⟨t', rfl⟩ := ry
 exact rule i j t t' s _ _ ⟨.bl (g i j), H, I, rfl, q⟩
def CDiv (i j : Int) : Prop := 0 < j /\ j < 1073741824
def CMul (i j : Int) : Prop := (-(2 ^ 64) < i /\ i < 2 ^ 64) ∨ (-(2 ^ 64) < j /\ j < 2 ^ 64)
theorem CMul.ok {i j : Int} (h : CMul i j) : IntMulOk i j := by
 rcases h with ⟨h1, h2⟩ | ⟨h1, h2⟩
 ·exact .of_left (intBits_le_64 h1 h2)
 ·exact .of_right (intBits_le_64 h1 h2)
theorem op_add : OpR X (binaryOp .Add) (rI0 fun i j => .int (i + j)) := opI0 fun _ _ _ _ _ _ _ q => add_int q
theorem op_sub : OpR X (binaryOp .Sub) (rI0 fun i j => .int (i - j)) := opI0 fun _ _ _ _ _ _ _ q => sub_int q
theorem op_mul : OpR X (binaryOp .Mult) (rI CMul fun i j => .int (i * j)) := opI fun _ _ _ _ _ _ _ hc q => mul_int q hc.ok
theorem op_fdiv : OpR X (binaryOp .FloorDiv) (rI CDiv fun i j => .int (i / j)) := opI fun i j _ _ _ _ _ hc q => by
 have h1 : (0 : Int) < j := hc.1
 have h2 : j < 1073741824 := hc.2
 exact floordiv_int (by omega) (by rw [Int.fdiv_eq_ediv_of_nonneg i (by omega)]; exact q) (.inl (PyProof.noPylong_small (by omega)))
theorem op_mod : OpR X (binaryOp .Mod) (rI (fun _ j => 0 < j) fun i j => .int (i % j)) := opI fun i j _ _ _ _ _ hc q => by
 have h1 : (0 : Int) < j := hc
 exact mod_int' (by omega) (by rw [Int.fmod_eq_emod_of_nonneg i (by omega)]; exact q)
theorem unI {f : Value -> Sem Value} {g : Int -> Int}
  (rule : ∀ (i : Int) (t : Tok) (s : Shared) (Q : Value -> Shared -> Prop) (E : Value -> Shared -> Prop), Q (.int (g i) s.toks) { s with toks := s.toks + 1 } -> wpAny (model X.prog X.w) X.A (f (.int i t)) Q E s) :
  UnR X f (rU fun i => .int (g i)) := by
 intro pins s σ H x v Q I rx h
 obtain ⟨i, rfl, q⟩ := h
 obtain ⟨t, rfl⟩ := rx
 exact rule i t s _ _ ⟨.int (g i), H, I.tok _, ⟨_, rfl⟩, q⟩
theorem un_neg : UnR X (unaryOp .USub) (rU fun i => .int (-i)) := unI fun _ _ _ _ _ q => neg_int q
end
def scal : V -> V -> Bool
 | .non, .non => true | .non, .int _ => true | .int _, .non => true | .non, .bl _ => true | .bl _, .non => true | .non, .str _ => true | .str _, .non => true
 | .int _, .int _ => true | .bl _, .bl _ => true | .str _, .str _ => true | .byt _, .byt _ => true
 | .int _, .str _ => true | .str _, .int _ => true | .bl _, .str _ => true | .str _, .bl _ => true
 | _, _ => false
def rEq : R2 := fun x y H Q => scal x y = true /\ Q (.bl (decide (x = y))) H
def rNe : R2 := fun x y H Q => scal x y = true /\ Q (.bl (!decide (x = y))) H
theorem dec_int {i j : Int} : decide (V.int i = V.int j) = (i == j) := by
 rw [Bool.eq_iff_iff]
 simp
theorem dec_bl {i j : Bool} : decide (V.bl i = V.bl j) = (i == j) := by
 rw [Bool.eq_iff_iff]
 simp
theorem dec_str {i j : Str} : decide (V.str i = V.str j) = (i == j) := by
 rw [Bool.eq_iff_iff]
 simp
theorem dec_byt {i j : Array UInt8} : decide (V.byt i = V.byt j) = (i.toList == j.toList) := by
 rw [Bool.eq_iff_iff]
 cases i
 cases j
 simp
section
variable {X : Cx} {a b c : Expr} {ta tb tc : TE} {pos : Pos}
theorem fin_bl {pins : List (Addr × Obj)} {σ : St} {H : Hp} {s : Shared} {Q : VK} {k k' : Bool} (I : Inv X pins σ H s) (q : Q (.bl k) H) (e : k = k') : EP X pins σ Q (.bool k') s := by
 subst e
 exact ⟨.bl k, H, I, rfl, q⟩
theorem op_eq : OpR X (compareOp .Eq) rEq := by
 intro pins s σ H x y v u Q I rx ry h
 obtain ⟨hs, q⟩ := h
 cases x with
 | non =>
  cases rx
  cases y with
  | non => cases ry; exact PySem.EqNone.eq_none_none (fin_bl I q (by simp))
  | bl j => cases ry; exact PySem.EqNone.eq_none_bool (fin_bl I q (by simp))
  | int j => obtain ⟨t', rfl⟩ := ry; exact PySem.EqNone.eq_none_int (fin_bl I q (by simp))
  | str j => obtain ⟨t', rfl⟩ := ry; exact PySem.EqNone.eq_none_str (fin_bl I q (by simp))
  | _ => exact absurd (show false = true from hs) Bool.false_ne_true
 | bl i =>
  cases rx
  cases y with
  | non => cases ry; exact PySem.EqNone.eq_bool_none (fin_bl I q (by simp))
  | bl j => cases ry; exact eq_bool (fin_bl I q dec_bl)
  | str j => obtain ⟨t', rfl⟩ := ry; exact PySem.EqMixed.eq_bool_str (fin_bl I q (by simp))
  | _ => exact absurd (show false = true from hs) Bool.false_ne_true
 | int i =>
  obtain ⟨t, rfl⟩ := rx
  cases y with
  | non => cases ry; exact PySem.EqNone.eq_int_none (fin_bl I q (by simp))
  | int j => obtain ⟨t', rfl⟩ := ry; exact eq_int (fin_bl I q dec_int)
  | str j => obtain ⟨t', rfl⟩ := ry; exact PySem.EqMixed.eq_int_str (fin_bl I q (by simp))
  | _ => exact absurd (show false = true from hs) Bool.false_ne_true
 | str i =>
  obtain ⟨t, rfl⟩ := rx
  cases y with
  | non => cases ry; exact PySem.EqNone.eq_str_none (fin_bl I q (by simp))
  | bl j => cases ry; exact PySem.EqMixed.eq_str_bool (fin_bl I q (by simp))
  | int j => obtain ⟨t', rfl⟩ := ry; exact PySem.EqMixed.eq_str_int (fin_bl I q (by simp))
  | str j => obtain ⟨t', rfl⟩ := ry; exact eq_str (fin_bl I q dec_str)
  | _ => exact absurd (show false = true from hs) Bool.false_ne_true
 | byt i =>
  obtain ⟨t, rfl⟩ := rx
  cases y with
  | byt j => obtain ⟨t', rfl⟩ := ry; exact PySem.W.eq_bytes (fin_bl I q dec_byt)
  | _ => exact absurd (show false = true from hs) Bool.false_ne_true
 | _ => cases y <;> exact absurd (show false = true from hs) Bool.false_ne_true
theorem op_ne : OpR X (compareOp .NotEq) rNe := by
 intro pins s σ H x y v u Q I rx ry h
 obtain ⟨hs, q⟩ := h
 cases x with
 | non =>
  cases rx
  cases y with
  | non => cases ry; exact PySem.EqNone.ne_none_none (fin_bl I q (by simp))
  | bl j => cases ry; exact PySem.EqNone.ne_none_bool (fin_bl I q (by simp))
  | int j => obtain ⟨t', rfl⟩ := ry; exact PySem.EqNone.ne_none_int (fin_bl I q (by simp))
  | str j => obtain ⟨t', rfl⟩ := ry; exact PySem.EqNone.ne_none_str (fin_bl I q (by simp))
  | _ => exact absurd (show false = true from hs) Bool.false_ne_true
 | bl i =>
  cases rx
  cases y with
  | non => cases ry; exact PySem.EqNone.ne_bool_none (fin_bl I q (by simp))
  | bl j => cases ry; exact ne_bool (fin_bl I q (congrArg not dec_bl))
  | str j => obtain ⟨t', rfl⟩ := ry; exact PySem.EqMixed.ne_bool_str (fin_bl I q (by simp))
  | _ => exact absurd (show false = true from hs) Bool.false_ne_true
 | int i =>
  obtain ⟨t, rfl⟩ := rx
  cases y with
  | non => cases ry; exact PySem.EqNone.ne_int_none (fin_bl I q (by simp))
  | int j => obtain ⟨t', rfl⟩ := ry; exact ne_int (fin_bl I q (congrArg not dec_int))
  | str j => obtain ⟨t', rfl⟩ := ry; exact PySem.EqMixed.ne_int_str (fin_bl I q (by simp))
  | _ => exact absurd (show false = true from hs) Bool.false_ne_true
 | str i =>
  obtain ⟨t, rfl⟩ := rx
  cases y with
  | non => cases ry; exact PySem.EqNone.ne_str_none (fin_bl I q (by simp))
  | bl j => cases ry; exact PySem.EqMixed.ne_str_bool (fin_bl I q (by simp))
  | int j => obtain ⟨t', rfl⟩ := ry; exact PySem.EqMixed.ne_str_int (fin_bl I q (by simp))
  | str j => obtain ⟨t', rfl⟩ := ry; exact ne_str (fin_bl I q (congrArg not dec_str))
  | _ => exact absurd (show false = true from hs) Bool.false_ne_true
 | byt i =>
  obtain ⟨t, rfl⟩ := rx
  cases y with
  | byt j => obtain ⟨t', rfl⟩ := ry; exact PySem.W.ne_bytes (fin_bl I q (congrArg not dec_byt))
  | _ => exact absurd (show false = true from hs) Bool.false_ne_true
 | _ => cases y <;> exact absurd (show false = true from hs) Bool.false_ne_true
theorem op_lt : OpR X (compareOp .Lt) (rI0 fun i j => .bl (decide (i < j))) := opB0 fun _ _ _ _ _ _ _ q => lt_int q
theorem op_le : OpR X (compareOp .LtE) (rI0 fun i j => .bl (decide (i <= j))) := opB0 fun _ _ _ _ _ _ _ q => le_int q
theorem op_gt : OpR X (compareOp .Gt) (rI0 fun i j => .bl (decide (j < i))) := opB0 fun _ _ _ _ _ _ _ q => gt_int q
theorem op_ge : OpR X (compareOp .GtE) (rI0 fun i j => .bl (decide (j <= i))) := opB0 fun _ _ _ _ _ _ _ q => ge_int q
theorem pe_cmpR {op : CmpOp} {r : R2} (ho : OpR X (compareOp op) r) (ha : PE X a ta) (hb : PE X b tb) (hm : behindInMarks op b = false) : PE X (.Compare a [op] [b] pos) (tOp r ta tb) := by
 intro pins s σ H Q I h
 exact wpAny_Compare1 (binT ha hb I h fun v u s2 x y H2 I2 rx ry q => ho pins s2 σ H2 x y v u Q I2 rx ry q) hm
def tTest (t : TE) : TT := fun σ H Q => t σ H fun x H' => ∃ k, x = .bl k /\ Q k H'
theorem pt_cmpR {op : CmpOp} {r : R2} (ho : OpR X (compareOp op) r) (ha : PE X a ta) (hb : PE X b tb) (hm : behindInMarks op b = false) : PT X (.Compare a [op] [b] pos) (tTest (tOp r ta tb)) := by
 intro pins s σ H Q I h
 refine wpAny_isTrue_Compare1 (thn (ha pins s σ H _ I h) fun v s1 ⟨x, H1, I1, r1, q1⟩ => thn (hb pins s1 σ H1 _ I1 q1) fun u s2 ⟨y, H2, I2, r2, q2⟩ =>
  thn (ho pins s2 σ H2 x y v u _ I2 r1 r2 q2) fun c s3 ⟨z, H3, I3, r3, k, e, q3⟩ => ?_) hm
 subst e
 cases r3
 exact wpAny_truthy_bool ⟨H3, I3, q3⟩
theorem line63 : (sizeLine : Nat) < 2 ^ 63 := by rw [sizeLine_eq]; decide
theorem vals1 {x : V} {us : List Value} (r : Vals [x] us) : ∃ u, us = [u] /\ RelV x u := by
 cases r with
 | cons r1 r2 => cases r2; exact ⟨_, rfl, r1⟩
theorem call_abs : CallR X (.builtin "abs") (fun xs H Q => ∃ i, xs = [.int i] /\ Q (.int (if i < 0 then -i else i)) H) := by
 intro pins s σ H xs us Q I r h
 obtain ⟨i, rfl, q⟩ := h
 obtain ⟨u, rfl, t, rfl⟩ := vals1 r
 exact call_abs_int fun u tk => ⟨.int (if i < 0 then -i else i), H, I.tok _, ⟨_, rfl⟩, q⟩
def LenV (K : PySem.W.Frag) (x : V) (H : Hp) (n : Nat) : Prop :=
 match x with
 | .str y => y.length <= sizeLine /\ n = y.length
 | .byt y => y.size <= sizeLine /\ n = y.size
 | .ref p => (∃ xs, SqL K H p xs /\ n = xs.length) ∨ ∃ xs, SqT K H p xs /\ n = xs.length
 | _ => False
theorem call_len : CallR X (.builtin "len") (fun xs H Q => ∃ x n, xs = [x] /\ LenV X.K x H n /\ Q (.int n) H) := by
 intro pins s σ H xs us Q I r h
 obtain ⟨x, n, rfl, e, q⟩ := h
 obtain ⟨u, rfl, rx⟩ := vals1 r
 have hl := line63
 have hs : sizeLine = 16777216 := sizeLine_eq
 cases x with
 | str y =>
  obtain ⟨t, rfl⟩ := rx
  obtain ⟨hy, e'⟩ : y.length <= sizeLine /\ n = y.length := e
  subst e'
  exact len_str (by omega) ⟨.int _, H, I.tok _, ⟨_, rfl⟩, q⟩
 | byt y =>
  obtain ⟨t, rfl⟩ := rx
  obtain ⟨hy, e'⟩ : y.size <= sizeLine /\ n = y.size := e
  subst e'
  exact PySem.W.len_bytes (by omega) ⟨.int _, H, I.tok _, ⟨_, rfl⟩, q⟩
 | ref p =>
  cases rx
  have e' : (∃ xs, SqL X.K H p xs /\ n = xs.length) ∨ ∃ xs, SqT X.K H p xs /\ n = xs.length := e
  rcases e' with ⟨xs, hx, e'⟩ | ⟨xs, hx, e'⟩
  ·subst e'
   obtain ⟨its, r', pl, hz⟩ := I.list hx
   have hlen := r'.length
   exact Calls.call_len_list pl.isList (by simp only [List.size_toArray]; omega) ⟨.int xs.length, H, I.tok _, ⟨_, by simp only [List.size_toArray]; rw [hlen]⟩, q⟩
  ·subst e'
   obtain ⟨its, r', pl, hz⟩ := I.tuple hx
   have hlen := r'.length
   exact len_tuple pl (by simp only [List.size_toArray]; omega) ⟨.int xs.length, H, I.tok _, ⟨_, by simp only [List.size_toArray]; rw [hlen]⟩, q⟩
 | _ => exact (show False from e).elim
end
structure ObjM (h : Heap) (x dx C : Addr) (mA : Str -> Option Value) : Prop where
 obj : h.get? x = some (PySem.W.instObj C dx)
 ns : h.Ns1 dx mA
 ne : dx ≠ x
theorem lookIn_ns {h : Heap} {dx : Addr} {mA : Str -> Option Value} (n : h.Ns1 dx mA) : ∃ od, h.get? dx = some od /\ ∀ name, PySem.W.lookIn name od = some (mA name) := by
 obtain ⟨o, es, ep, ho, hd, hk, _, hm⟩ := n
 refine ⟨o, ho, fun name => ?_⟩
 have e := hm name
 unfold nsFind findBy at e
 rw [<- Array.find?_toList] at e
 unfold PySem.W.lookIn
 rw [hd]
 dsimp only
 split
 ·rename_i y q
  rw [q] at e
  exact congrArg some e
 ·rename_i q
  rw [q] at e
  have a : es.toList.any (·.refKey) = false := by
   rw [List.any_eq_false]
   intro y hy
   obtain ⟨z, t, hkey⟩ := hk y (Array.mem_toList_iff.mp hy)
   simp [DictEntry.refKey, hkey]
  have a' : ¬ es.toList.any (·.refKey) = true := by rw [a]; exact Bool.false_ne_true
  rw [if_neg a']
  exact congrArg some e
theorem ObjM.look {h : Heap} {x dx C : Addr} {mA : Str -> Option Value} (I : ObjM h x dx C mA) : ∃ od, PySem.W.InstAt h x (PySem.W.instObj C dx) C (some od) /\ ∀ name, PySem.W.lookIn name od = some (mA name) :=
 let ⟨od, ho, hl⟩ := lookIn_ns I.ns
 ⟨od, ⟨I.obj, rfl, rfl, ho⟩, hl⟩
section
variable {prog : Program} {w : World} {A : Around} {E : Value -> Shared -> Prop} {s : Shared} {K : PySem.W.Frag} {x dx C f : Addr} {mA : Str -> Option Value} {name : Str} {v : Value}
theorem get_map {expr : Bool} {Q : Value -> Shared -> Prop} (X : K.In s.heap) (I : ObjM s.heap x dx C mA) (hg : PySem.W.plainGet K C name = true) (hh : PySem.W.hasDictIn K C = true)
  (ha : PySem.W.findIn K (.ref C) name = some none) (hv : mA name = some v) (hv' : PySem.W.handedIn v = true) (h : Q v { s with toks := s.toks + 1 }) :
  wpAny (model prog w) A (getAttr (.ref x) name expr) Q E s := by
 obtain ⟨od, J, hl⟩ := I.look
 exact PySem.W.get_value X J (PySem.W.plainGet_of hg).1 (PySem.W.findObj_own hh ha rfl (by rw [hl, hv])) hv' h
theorem set_map {ns : List Str} {Q : Unit -> Shared -> Prop} (X : K.In s.heap) (I : ObjM s.heap x dx C mA)
  (hs : PySem.W.findIn K (.ref C) "__setattr__" = some (some (.builtin "object.__setattr__"))) (hp : PySem.W.plainOver K C = true) (ht : PySem.W.takerIn K C name = some none) (hh : PySem.W.hasDictIn K C = true)
  (hw : PySem.Within mA ns) (hsz : ns.length <= sizeLine)
  (h : ∀ h', ObjM h' x dx C (fun y => if y = name then some v else mA y) -> Heap.SameBut dx s.heap h' -> Q () { s with heap := h', toks := s.toks + 2 }) :
  wpAny (model prog w) A (setAttr (.ref x) name v) Q E s := by
 obtain ⟨od, J, hl⟩ := I.look
 refine PySem.W.set_plain X J hs (PySem.W.osa_open (s := { s with toks := s.toks + 1 }) (r := none) X J hp ht fun b => ?_)
 obtain ⟨cd, hc, hd'⟩ := PySem.W.any_some hh
 have hx : s.heap.get? x = some ⟨.ref C, some dx, .plain, #[]⟩ := I.obj
 refine wpAny_bind (wpAny_pure (wpAny_bind (wpAny_bind (wpAny_loadPart hx (wpAny_bind (PySem.W.Looks.here (s := { s with toks := s.toks + 1 }) (PySem.W.looks_clsIn X hc) ?_))))))
 rw [hd']
 refine wpAny_pure (a := some dx) (wpAny_bind (wpAny_pure (wpAny_bind ?_)))
 refine wpAny_nsSet1 (s := { s with toks := s.toks + 1 }) I.ns fun h' hn2 hs2 => ?_
 obtain ⟨oD, esD, epD, hoD, hdD, hcD⟩ := hn2.count (PySem.Within.cons name v hw)
 refine wpAny_bind (wpAny_lookBehind hoD (by rw [hdD]; exact pastItsLine_dict (Nat.le_trans hcD (by rw [List.length_cons]; omega))) ?_)
 exact wpAny_pure (h _ ⟨(hs2.2 _ (Ne.symm I.ne)).trans I.obj, hn2, I.ne⟩ hs2)
theorem make_map {R : Result -> Shared -> Prop} {vs : List Value} {kw : List (Str × Value)} (X : K.In s.heap) (hm : PySem.W.makesIn K C = true)
  (hi : PySem.W.findIn K (.ref C) "__init__" = some (some (.ref f))) (hf : PySem.W.typeIn K (.ref f) = some (.type "function"))
  (h : codeAny (model prog w) (A.under (.builtin "type.__call__" ⟨.ref C :: vs, kw⟩)) (.call (.ref f) ⟨.ref (s.heap.objs.size + 1) :: vs, kw⟩) (PySem.W.InitBack (s.heap.objs.size + 1) R)
   { s with heap := (s.heap.push PySem.W.emptyDict).push (PySem.W.instObj C s.heap.objs.size) }) :
  codeAny (model prog w) A (.call (.ref C) ⟨vs, kw⟩) R s := by
 obtain ⟨hh, g, d, t, os⟩ := s
 exact PySem.W.make_core (PySem.W.makes_of X hm) (PySem.W.looks_findIn X hi) (fun self => PySem.W.bind_fn X self hf) (.inl rfl) h
end
def putF (f : Str) (v : V) : List (Str × V) -> List (Str × V)
 | [] => [(f, v)]
 | (g, x) :: r => if g = f then (g, v) :: r else (g, x) :: putF f v r
theorem lookup_putF (f g : Str) (v : V) : ∀ fs : List (Str × V), (putF f v fs).lookup g = if g = f then some v else fs.lookup g
 | [] => by
  show List.lookup g [(f, v)] = _
  by_cases h : g = f
  ·have hb : (g == f) = true := beq_iff_eq.mpr h
   simp only [List.lookup, hb, if_pos h]
  ·have hb : (g == f) = false := beq_eq_false_iff_ne.mpr h
   simp only [List.lookup, hb, if_neg h]
 | (k, x) :: r => by
  have ih := lookup_putF f g v r
  rw [show putF f v ((k, x) :: r) = (if k = f then (k, v) :: r else (k, x) :: putF f v r) from rfl]
  by_cases hk : k = f
  ·rw [if_pos hk]
   by_cases h : g = k
   ·have hb : (g == k) = true := beq_iff_eq.mpr h
    simp only [List.lookup, hb, if_pos (h.trans hk)]
   ·have hb : (g == k) = false := beq_eq_false_iff_ne.mpr h
    simp only [List.lookup, hb, if_neg (fun e : g = f => h (e.trans hk.symm))]
  ·rw [if_neg hk]
   by_cases h : g = k
   ·have hb : (g == k) = true := beq_iff_eq.mpr h
    simp only [List.lookup, hb, if_neg (fun e : g = f => hk (h.symm.trans e))]
   ·have hb : (g == k) = false := beq_eq_false_iff_ne.mpr h
    simp only [List.lookup, hb]
    exact ih
theorem keys_putF (f : Str) (v : V) : ∀ fs : List (Str × V), f ∈ (putF f v fs).map (·.1) /\ ∀ g, g ∈ fs.map (·.1) -> g ∈ (putF f v fs).map (·.1)
 | [] => ⟨by simp [putF], fun g h => by simp at h⟩
 | (k, x) :: r => by
  obtain ⟨i1, i2⟩ := keys_putF f v r
  rw [show putF f v ((k, x) :: r) = (if k = f then (k, v) :: r else (k, x) :: putF f v r) from rfl]
  by_cases hk : k = f
  ·rw [if_pos hk]
   subst hk
   exact ⟨by simp, fun g h => by simpa using h⟩
  ·rw [if_neg hk]
   refine ⟨?_, fun g h => ?_⟩
   ·rw [List.map_cons]
    exact List.mem_cons_of_mem _ i1
   ·rw [List.map_cons] at h ⊢
    rcases List.mem_cons.mp h with e | e
    ·exact List.mem_cons.mpr (.inl e)
    ·exact List.mem_cons_of_mem _ (i2 g e)
theorem length_putF (f : Str) (v : V) : ∀ fs : List (Str × V), (putF f v fs).length <= fs.length + 1
 | [] => by simp [putF]
 | (k, x) :: r => by
  have ih := length_putF f v r
  rw [show putF f v ((k, x) :: r) = (if k = f then (k, v) :: r else (k, x) :: putF f v r) from rfl]
  by_cases hk : k = f
  ·rw [if_pos hk, List.length_cons, List.length_cons]; omega
  ·rw [if_neg hk, List.length_cons, List.length_cons]; omega
theorem RelO.some_of {v : V} {o : Option Value} (r : RelO (some v) o) : ∃ u, o = some u /\ RelV v u := by
 cases o with
 | none => exact (show False from r).elim
 | some u => exact ⟨u, rfl, r⟩
theorem handed_of {v : V} {u : Value} (r : RelV v u) : PySem.W.handedIn u = true := by
 cases v with
 | non => cases (show u = Value.none from r); rfl
 | bl b => cases (show u = Value.bool b from r); rfl
 | int i => obtain ⟨t, e⟩ := (show ∃ t, u = Value.int i t from r); cases e; rfl
 | str x => obtain ⟨t, e⟩ := (show ∃ t, u = Value.str x t from r); cases e; rfl
 | byt b => obtain ⟨t, e⟩ := (show ∃ t, u = Value.bytes b t from r); cases e; rfl
 | flt b => obtain ⟨t, e⟩ := (show ∃ t, u = Value.float b t from r); cases e; rfl
 | ref a => cases (show u = Value.ref a from r); rfl
 | ty n => cases (show u = Value.type n from r); rfl
section
variable {P : Program} {w : World} {H H' : Hp} {h h' : Heap} {a C dx : Addr} {fs fs' : List (Str × V)}
theorem ins_get (hok : HOk P w H h) (e : H a = some (.ins C dx fs)) : ∃ mA, ObjM h a dx C mA /\ (∀ f, RelO (fs.lookup f) (mA f)) /\ PySem.Within mA (fs.map (·.1)) /\ fs.length <= 1000 /\ H dx = some (.own a) := by
 obtain ⟨d, z, ne, ob, mA, n, r, q⟩ := (show ObjOk P w H h a (.ins C dx fs) from hok a _ e)
 exact ⟨mA, ⟨ob, n, ne⟩, r, q, z, d⟩
end
structure Cls (K : PySem.W.Frag) (C : Addr) : Prop where
 pg : PySem.W.plainGet K C Str.empty = true
 hd : PySem.W.hasDictIn K C = true
 po : PySem.W.plainOver K C = true
 sa : PySem.W.findIn K (.ref C) "__setattr__" = some (some (.builtin "object.__setattr__"))
theorem Cls.get {K : PySem.W.Frag} {C : Addr} (c : Cls K C) (f : Str) : PySem.W.plainGet K C f = true := c.pg
def NoAttr (K : PySem.W.Frag) (C : Addr) (f : Str) : Prop := PySem.W.findIn K (.ref C) f = some none
theorem NoAttr.taker {K : PySem.W.Frag} {C : Addr} {f : Str} (n : NoAttr K C f) : PySem.W.takerIn K C f = some none := by
 unfold PySem.W.takerIn
 rw [show PySem.W.findIn K (.ref C) f = some none from n]
 rfl
section
variable {X : Cx} {pins : List (Addr × Obj)} {σ : St} {H : Hp} {s : Shared} {a C dx : Addr} {fs : List (Str × V)} {f : Str} {v : V} {A : Around} {E : Value -> Shared -> Prop}
theorem getattr_ok {b : Bool} {Q : Value -> Shared -> Prop} (I : Inv X pins σ H s) (e : H a = some (.ins C dx fs)) (c : Cls X.K C) (n : NoAttr X.K C f) (l : fs.lookup f = some v)
  (h : ∀ u s', Inv X pins σ H s' -> RelV v u -> Q u s') : wpAny (model X.prog X.w) A (getAttr (.ref a) f b) Q E s := by
 obtain ⟨mA, O, r, _, _, _⟩ := ins_get I.hok e
 obtain ⟨u, hu, ru⟩ := RelO.some_of (v := v) (o := mA f) (by rw [<- l]; exact r f)
 exact get_map I.kIn O (c.get f) c.hd n hu (handed_of ru) (h u _ (I.tok _) ru)
theorem setattr_ok {y : V} {u : Value} {Q : Unit -> Shared -> Prop} (I : Inv X pins σ H s) (e : H a = some (.ins C dx fs)) (c : Cls X.K C) (n : NoAttr X.K C f) (hl : fs.length < 1000) (ry : RelV y u)
  (h : ∀ s', Inv X pins σ (upd H a (.ins C dx (putF f y fs))) s' -> Q () s') : wpAny (model X.prog X.w) A (setAttr (.ref a) f u) Q E s := by
 obtain ⟨mA, O, r, wi, _, ho⟩ := ins_get I.hok e
 have hz : (fs.map (·.1)).length <= sizeLine := by rw [List.length_map, sizeLine_eq]; omega
 refine set_map I.kIn O c.sa c.po n.taker c.hd wi hz fun h' O' sb => h _ ?_
 have hd : ∃ o, h'.get? dx = some o := let ⟨o, _, _, e', _⟩ := O'.ns; ⟨o, e'⟩
 refine I.write (x := a) (e := dx) (by rw [e]; exact True.intro) (.inr ho) (fun b q hb z => (sb.2 b hb).trans z) hd ?_
 refine ⟨by rw [upd_ne O.ne]; exact ho, ?_, O.ne, O'.obj, _, O'.ns, fun g => ?_, fun g hg => ?_⟩
 ·have := length_putF f y fs; omega
 ·show RelO ((putF f y fs).lookup g) (if g = f then some u else mA g)
  rw [lookup_putF]
  by_cases q : g = f
  ·rw [if_pos q, if_pos q]; exact ry
  ·rw [if_neg q, if_neg q]; exact r g
 ·by_cases q : g = f
  ·rw [q]; exact (keys_putF f y fs).1
  ·refine (keys_putF f y fs).2 g (wi g fun z => hg ?_)
   show (if g = f then some u else mA g) = none
   rw [if_neg q]; exact z
theorem Inv.made (I : Inv X pins σ H s) : Inv X pins σ (upd (upd H s.heap.objs.size (.own (s.heap.objs.size + 1))) (s.heap.objs.size + 1) (.ins C s.heap.objs.size []))
  { s with heap := (s.heap.push PySem.W.emptyDict).push (PySem.W.instObj C s.heap.objs.size) } := by
 have e1 : (s.heap.push PySem.W.emptyDict).get? s.heap.objs.size = some PySem.W.emptyDict := Heap.get?_push_size s.heap rfl
 have e2 : ((s.heap.push PySem.W.emptyDict).push (PySem.W.instObj C s.heap.objs.size)).get? (s.heap.objs.size + 1) = some (PySem.W.instObj C s.heap.objs.size) := by
  have := Heap.get?_push_size (s.heap.push PySem.W.emptyDict) (o := PySem.W.instObj C s.heap.objs.size) rfl
  rwa [Heap.size_push] at this
 have e3 : (s.heap.push PySem.W.emptyDict).Ns s.heap.objs.size (fun _ => none) := ⟨PySem.W.emptyDict, #[], _, e1, rfl, (fun e he => absurd he (by simp)), fun _ => rfl⟩
 have I1 := I.laid (a := s.heap.objs.size) (o := .own (s.heap.objs.size + 1)) (h' := s.heap.push PySem.W.emptyDict) (t' := s.toks) (fun b u q => Heap.get?_push_of_some _ q) (Nat.le_refl _) ⟨_, e1⟩
 refine I1.laid (a := s.heap.objs.size + 1) (o := .ins C s.heap.objs.size []) (t' := s.toks) (fun b u q => Heap.get?_push_of_some _ q) (Nat.le_of_eq (Heap.size_push _ _)) ?_
 have ne : s.heap.objs.size ≠ s.heap.objs.size + 1 := Nat.ne_of_lt (Nat.lt_succ_self _)
 refine ⟨by rw [upd_ne ne, upd_same], Nat.zero_le _, ne, e2, fun _ => none, (Heap.Ns1.of_empty e3).at fun o q => Heap.get?_push_of_some _ q, fun _ => True.intro, fun y hy => absurd rfl hy⟩
theorem attr_of {prog : Program} {w : World} {env : Env} {e : Expr} {f : Str} {pos : Pos} {s : Shared} {Q : Value -> Shared -> Prop} (hb : attributeBase e f env (eval e env) = eval e env)
  (h : wpAny (model prog w) A (eval e env) (fun o s₁ => wpAny (model prog w) A (getAttr o f true) Q E s₁) E s) : wpAny (model prog w) A (eval (.Attribute e f pos) env) Q E s :=
 Attribute_any_ h (by rw [arm_eval_Attribute, hb])
end
def tFld (K : PySem.W.Frag) (ta : TE) (f : Str) : TE := fun σ H Q => ta σ H fun x H1 => ∃ a C dx fs v, x = .ref a /\ H1 a = some (.ins C dx fs) /\ Cls K C /\ NoAttr K C f /\ fs.lookup f = some v /\ Q v H1
def sFld (K : PySem.W.Frag) (ta tv : TE) (f : Str) : TS := fun D σ H => tv σ H fun y H1 => ta σ H1 fun x H2 => ∃ a C dx fs, x = .ref a /\ H2 a = some (.ins C dx fs) /\ Cls K C /\ NoAttr K C f /\ fs.length < 1000 /\
 D.nx σ (upd H2 a (.ins C dx (putF f y fs)))
def InOp (X : Cx) (op : Operator) (rd : V -> V -> Hp -> VK -> Prop) : Prop :=
 ∀ (pins : List (Addr × Obj)) (s : Shared) (σ : St) (H : Hp) (x y : V) (u v : Value) (Q : VK), Inv X pins σ H s -> RelV x u -> RelV y v -> rd x y H Q -> wpAny (model X.prog X.w) X.A (inplaceOp op u v) (EP X pins σ Q) X.xe s
def sFldAug (K : PySem.W.Frag) (ta tv : TE) (rd : V -> V -> Hp -> VK -> Prop) (f : Str) : TS := fun D σ H => ta σ H fun x H1 => ∃ a C dx fs v, x = .ref a /\ H1 a = some (.ins C dx fs) /\ Cls K C /\ NoAttr K C f /\ fs.lookup f = some v /\
 tv σ H1 fun y H2 => rd v y H2 fun z H3 => ∃ dx' fs', H3 a = some (.ins C dx' fs') /\ fs'.length < 1000 /\ D.nx σ (upd H3 a (.ins C dx' (putF f z fs')))
section
variable {X : Cx} {o e value : Expr} {f : Str} {pos pos' tpos : Pos} {ta tv : TE}
theorem pe_fld (he : PE X e ta) (hb : attributeBase e f X.env (eval e X.env) = eval e X.env) : PE X (.Attribute e f pos) (tFld X.K ta f) := by
 intro pins s σ H Q I h
 refine attr_of hb (thn (he pins s σ H _ I h) fun u s1 ⟨x, H1, I1, rx, a, C, dx, fs, v, ex, ea, c, n, l, q⟩ => ?_)
 subst ex
 obtain rfl : u = Value.ref a := rx
 exact getattr_ok I1 ea c n l fun u' s2 I2 ru => ⟨v, H1, I2, ru, q⟩
theorem ps_fld (ha : PE X o ta) (hv : PE X value tv) (hs : swapsWith value (some (.Attribute o f pos')) pos.line X.env = pure false) : PS X (.Assign [.Attribute o f pos'] value pos) (sFld X.K ta tv f) := by
 intro pins s σ H D I h
 refine plainObj_wpAny_Assign_Attribute (thn (hv pins s σ H _ I h) fun u s1 ⟨y, H1, I1, ry, q⟩ => thn (ha pins s1 σ H1 _ I1 q) fun ov s2 ⟨x, H2, I2, rx, a, C, dx, fs, ex, ea, c, n, l, q2⟩ => ?_) hs
 subst ex
 obtain rfl : ov = Value.ref a := rx
 exact setattr_ok I2 ea c n l ry fun s3 I3 => ⟨σ, _, I3, q2⟩
theorem ps_fldaug {op : Operator} {rd : V -> V -> Hp -> VK -> Prop} (ha : PE X o ta) (hv : PE X value tv) (hop : InOp X op rd) : PS X (.AugAssign (.Attribute o f tpos) op value pos) (sFldAug X.K ta tv rd f) := by
 intro pins s σ H D I h
 refine wpAny_AugAssign_AttributeAny (thn (ha pins s σ H _ I h) fun ov s1 ⟨x, H1, I1, rx, a, C, dx, fs, v, ex, ea, c, n, l, q⟩ => ?_)
 subst ex
 obtain rfl : ov = Value.ref a := rx
 refine getattr_ok I1 ea c n l fun u s2 I2 ru => thn (hv pins s2 σ H1 _ I2 q) fun w3 s3 ⟨y, H2, I3, ry, q3⟩ => thn (hop pins s3 σ H2 v y u w3 _ I3 ru ry q3) fun w4 s4 ⟨z, H3, I4, rz, dx', fs', ea', l', q4⟩ => ?_
 exact setattr_ok I4 ea' c n l' rz fun s5 I5 => ⟨σ, _, I5, q4⟩
def rAdd : V -> V -> Hp -> VK -> Prop := fun x y H Q => ∃ i j, x = .int i /\ y = .int j /\ Q (.int (i + j)) H
def rSub : V -> V -> Hp -> VK -> Prop := fun x y H Q => ∃ i j, x = .int i /\ y = .int j /\ Q (.int (i - j)) H
theorem in_add : InOp X .Add rAdd := by
 rintro pins s σ H x y u v Q I rx ry ⟨i, j, rfl, rfl, q⟩
 obtain ⟨t, rfl⟩ := (show ∃ t, u = Value.int i t from rx)
 obtain ⟨t', rfl⟩ := (show ∃ t', v = Value.int j t' from ry)
 exact PyProof.Rows.iadd_int ⟨.int (i + j), H, I.tok _, ⟨_, rfl⟩, q⟩
theorem in_sub : InOp X .Sub rSub := by
 rintro pins s σ H x y u v Q I rx ry ⟨i, j, rfl, rfl, q⟩
 obtain ⟨t, rfl⟩ := (show ∃ t, u = Value.int i t from rx)
 obtain ⟨t', rfl⟩ := (show ∃ t', v = Value.int j t' from ry)
 exact PyProof.Rows.isub_int ⟨.int (i - j), H, I.tok _, ⟨_, rfl⟩, q⟩
end
section
variable {X : Cx} {pins : List (Addr × Obj)} {σ : St} {H : Hp} {s : Shared} {A : Around} {E : Value -> Shared -> Prop} {Q : Value -> Shared -> Prop} {c : Value} {b : Bool}
end
structure Room (k : Nat) (A : Around) : Prop where
 hd : A.handled = none
 dp : A.depth + 3 * k + 5 < recursionLimit
 un : A.units + 16 * k + 200 < cLine
theorem Room.mono {j k : Nat} {A : Around} (r : Room k A) (h : j <= k) : Room j A := ⟨r.hd, by have := r.dp; omega, by have := r.un; omega⟩
theorem Room.deeper {k : Nat} {A : Around} (r : Room (k + 1) A) (env : Env) : Room k (A.deeper env) :=
 ⟨r.hd, by have := r.dp; show A.depth + 1 + 3 * k + 5 < _; omega, by have := r.un; show A.units + 3 + 16 * k + 200 < _; omega⟩
theorem Room.in1 {k : Nat} {A : Around} (r : Room (k + 1) A) : Room k A.in1 :=
 ⟨r.hd, by have := r.dp; show A.depth + 3 * k + 5 < _; omega, by have := r.un; show A.units + 1 + 16 * k + 200 < _; omega⟩
theorem make_depth {A : Around} {C : Addr} {us : List Value} {kw : List (Str × Value)} : (A.under (.builtin "type.__call__" ⟨.ref C :: us, kw⟩)).depth = A.depth + 1 := by
 first | rfl | simp [Around.under, Code.weight, Code.isCreation, Code.isGuard, Code.isCaller, Code.frames, Code.isFrame, guardIds]
theorem make_units {A : Around} {C : Addr} {us : List Value} {kw : List (Str × Value)} : (A.under (.builtin "type.__call__" ⟨.ref C :: us, kw⟩)).units = A.units + 1 := by
 first | rfl | simp [Around.under, Code.cUnits, Code.frames, Code.isFrame]
theorem Room.make {k : Nat} {A : Around} (r : Room (k + 1) A) (C : Addr) (us : List Value) (kw : List (Str × Value)) : Room k (A.under (.builtin "type.__call__" ⟨.ref C :: us, kw⟩)) :=
 ⟨r.hd, by have := r.dp; rw [make_depth]; omega, by have := r.un; rw [make_units]; omega⟩
theorem Room.depth {k : Nat} {A : Around} (r : Room k A) : A.depth < recursionLimit := by have := r.dp; omega
theorem Room.units {k : Nat} {A : Around} (r : Room k A) : A.units + 64 < cLine := by have := r.un; omega
def tNil : TA := fun _ H Q => Q [] H
def tCons (ta : TE) (tr : TA) : TA := fun σ H Q => ta σ H fun x H1 => tr σ H1 fun xs H2 => Q (x :: xs) H2
section
variable {X : Cx} {e : Expr} {es : List Expr} {te : TE} {t : TA} {pos : Pos}
theorem pa_nil : PA X [] tNil := fun _ _ _ _ H Q I h => Calls.spliced_nil ⟨[], H, I, .nil, h⟩
theorem pa_cons (ha : PE X e te) (hr : PA X es t) (hs : starEach (e :: es) X.env = (false, eval e X.env) :: starEach es X.env := by rfl) : PA X (e :: es) (tCons te t) := by
 intro pos pins s σ H Q I h
 rw [hs]
 show wpAny _ _ (spliced ((false, eval e X.env) :: backTo pos (starEach es X.env))) _ _ s
 refine Calls.spliced_cons (thn (ha pins s σ H _ I h) fun u s1 ⟨x, H1, I1, r1, q1⟩ => ?_)
 exact thn (hr pos pins s1 σ H1 _ I1 q1) fun us s2 ⟨xs, H2, I2, r2, q2⟩ => ⟨x :: xs, H2, I2, .cons r1 r2, q2⟩
def tTup (t : TA) : TE := fun σ H Q => t σ H fun xs H1 => xs.length <= sizeLine /\ ∀ p, H1 p = none -> Q (.ref p) (upd H1 p (.tup xs))
def tLst (t : TA) : TE := fun σ H Q => t σ H fun xs H1 => xs.length <= sizeLine /\ ∀ p, H1 p = none -> Q (.ref p) (upd H1 p (.lst xs))
theorem pe_tup {x1} (h : PA X es t) : PE X (.Tuple es x1 pos) (tTup t) := by
 intro pins s σ H Q I hq
 refine wpAny_Tuple_spliced (thn (h pos pins s σ H _ I hq) fun us s1 ⟨xs, H1, I1, r, z, q⟩ => ⟨by rw [<- r.length]; exact z, ?_⟩)
 have hf : H1 s1.heap.objs.size = none := I1.hok.fresh (Nat.le_refl _)
 refine ⟨.ref s1.heap.objs.size, upd H1 s1.heap.objs.size (.tup xs), I1.laid (t' := s1.toks) (fun b u e => Heap.get?_push_of_some _ e) (Nat.le_refl _) ?_, rfl, q _ hf⟩
 exact ⟨z, us, r, ⟨_, Heap.get?_push_size _ rfl, rfl, _, rfl⟩⟩
theorem pe_lst (h : PA X es t) : PE X (.List es pos) (tLst t) := by
 intro pins s σ H Q I hq
 refine wpAny_List_spliced (thn (h pos pins s σ H _ I hq) fun us s1 ⟨xs, H1, I1, r, z, q⟩ => ⟨by rw [<- r.length]; exact z, ?_⟩)
 have hf : H1 s1.heap.objs.size = none := I1.hok.fresh (Nat.le_refl _)
 refine ⟨.ref s1.heap.objs.size, upd H1 s1.heap.objs.size (.lst xs), I1.laid (t' := s1.toks) (fun b u e => Heap.get?_push_of_some _ e) (Nat.le_refl _) ?_, rfl, q _ hf⟩
 exact ⟨z, us, 0, r, Heap.get?_push_size _ rfl⟩
end
abbrev Sp := List V -> Hp -> VK -> XK -> Prop
abbrev CXT := List Env -> Hp -> Shared -> XK -> Value -> Shared -> Prop
structure Env0 (P : Program) (w : World) (K : PySem.W.Frag) (mg : Str -> Option Value) (base : Heap) (A : Around) (outer : List Env) (s : Shared) (H : Hp) : Prop where
 frames : A.frames = some outer
 mod : Mod K mg base
 bs : ∀ b o, base.get? b = some o -> s.heap.get? b = some o /\ H b = none
 bsz : base.objs.size <= s.heap.objs.size
 funs : s.heap.FunFrames base outer
 frf : ∀ b ∈ frs outer, H b = none
 hok : HOk P w H s.heap
 bare : AllBare s.gens
def CE (outer : List Env) (P : Program) (w : World) (H : Hp) (s : Shared) (Q : VK) (u : Value) (s' : Shared) : Prop :=
 ∃ v H', s'.os = s.os /\ AllBare s'.gens /\ Un (frs outer) [] H H' s.heap s'.heap /\ HOk P w H' s'.heap /\ RelV v u /\ Q v H'
def CR (CX : CXT) (outer : List Env) (P : Program) (w : World) (H : Hp) (s : Shared) (Q : VK) (E : XK) (r : Result) (s' : Shared) : Prop :=
 match r with
 | .ok (.ret u) => CE outer P w H s Q u s'
 | .ok _ => False
 | .error e => CX outer H s E e s'
structure FnOk (P : Program) (w : World) (K : PySem.W.Frag) (mg : Str -> Option Value) (base : Heap) (CX : CXT) (k : Nat) (f : Addr) (fd : FuncData) (ps : List Str) (sp : Sp) : Prop where
 len : ∀ vs H Q E, sp vs H Q E -> vs.length = ps.length
 run : ∀ (A : Around) (outer : List Env) (s : Shared) (H : Hp) (args : Args) (us : List Value) (vs : List V) (Q : VK) (E : XK), Room k A -> Env0 P w K mg base A outer s H -> BindsTo s fd args (ps.zip us) -> Vals vs us -> sp vs H Q E ->
  codeAny (model P w) A (.call (.ref f) args) (CR CX outer P w H s Q E) s
theorem FnOk.mono {P : Program} {w : World} {K : PySem.W.Frag} {mg : Str -> Option Value} {base : Heap} {CX : CXT} {j k : Nat} {f : Addr} {fd : FuncData} {ps : List Str} {sp : Sp} (F : FnOk P w K mg base CX j f fd ps sp) (h : j <= k) :
  FnOk P w K mg base CX k f fd ps sp := ⟨F.len, fun A outer s H args us vs Q E hr => F.run A outer s H args us vs Q E (hr.mono h)⟩
theorem FnOk.imp {P : Program} {w : World} {K : PySem.W.Frag} {mg : Str -> Option Value} {base : Heap} {CX : CXT} {k : Nat} {f : Addr} {fd : FuncData} {ps : List Str} {sp sp' : Sp} (F : FnOk P w K mg base CX k f fd ps sp)
  (h : ∀ vs H Q E, sp' vs H Q E -> sp vs H Q E) : FnOk P w K mg base CX k f fd ps sp' :=
 ⟨fun vs H Q E q => F.len vs H Q E (h _ _ _ _ q), fun A outer s H args us vs Q E hr he hb hv hs => F.run A outer s H args us vs Q E hr he hb hv (h _ _ _ _ hs)⟩
theorem Env0.make {P : Program} {w : World} {K : PySem.W.Frag} {mg : Str -> Option Value} {base : Heap} {A : Around} {outer : List Env} {s : Shared} {H : Hp} (e : Env0 P w K mg base A outer s H) (C : Addr) (us : List Value) (kw : List (Str × Value)) :
  Env0 P w K mg base (A.under (.builtin "type.__call__" ⟨.ref C :: us, kw⟩)) outer s H := ⟨by first | exact e.frames | (simpa [Around.under, Code.envs, Code.isFrame, pushEnvs] using e.frames), e.mod, e.bs, e.bsz, e.funs, e.frf, e.hok, e.bare⟩
section
variable {X : Cx} {pins : List (Addr × Obj)} {σ : St} {H : Hp} {s s' : Shared}
theorem Inv.env0 (I : Inv X pins σ H s) : Env0 X.prog X.w X.K X.mg X.base X.A X.stack s H :=
 ⟨I.ok.frames, I.ok.mod, I.bs, Nat.le_trans I.ok.bsz I.sz, I.stack, I.stkFree, I.hok, I.bare⟩
theorem Inv.after {Q : VK} {u : Value} (I : Inv X pins σ H s) (h : CE X.stack X.prog X.w H s Q u s') : EP X pins σ Q u s' := by
 obtain ⟨v, H', os, bare, un, hok, r, q⟩ := h
 obtain ⟨hh, g, d, t, os'⟩ := s'
 obtain rfl : os' = s.os := os
 exact ⟨v, H', I.call (h' := hh) (g' := g) (d' := d) (t' := t) (ch := []) un hok bare (fun b z => absurd z (by simp)), r, q⟩
end
def tCall (sp : Sp) (dvs : List V) (E : XK) (t : TA) : TE := fun σ H Q => t σ H fun vs H1 => sp (vs ++ dvs) H1 Q E
def tMake (C : Addr) (sp : Sp) (dvs : List V) (E : XK) (t : TA) : TE := fun σ H Q => t σ H fun vs H1 => ∀ x dx, H1 x = none -> H1 dx = none -> dx ≠ x ->
 sp (.ref x :: (vs ++ dvs)) (upd (upd H1 dx (.own x)) x (.ins C dx [])) (fun v H2 => v = .non /\ Q (.ref x) H2) E
def Binds (K : PySem.W.Frag) (fd : FuncData) (ps : List Str) (ds : List Value) : Prop :=
 ∀ (s : Shared) (us : List Value), K.In s.heap -> (us ++ ds).length = ps.length -> BindsTo s fd ⟨us, []⟩ (ps.zip (us ++ ds))
theorem Binds.all {K : PySem.W.Frag} {fd : FuncData} {ps : List Str} (h : ∀ us : List Value, us.length = ps.length -> bindArgs fd ⟨us, []⟩ = pure (ps.zip us)) : Binds K fd ps [] := fun s us _ hl => by
 rw [List.append_nil] at hl ⊢
 exact .of_eq (h us hl)
def Passes (CX : CXT) (X : Cx) (E : XK) : Prop := ∀ (pins : List (Addr × Obj)) (σ : St) (H : Hp) (s : Shared) (e : Value) (s' : Shared), Inv X pins σ H s -> CX X.stack H s E e s' -> X.xe e s'
section
variable {X : Cx} {CX : CXT} {k : Nat} {f C : Addr} {fd : FuncData} {ps : List Str} {sp : Sp} {dvs : List V} {ds : List Value} {E : XK} {x m : Str} {p pos apos : Pos} {e o : Expr} {es : List Expr} {ta : TE} {t : TA}
theorem run_fn {pins : List (Addr × Obj)} {σ : St} {H : Hp} {s : Shared} {Q : VK} {us : List Value} {vs : List V} (F : FnOk X.prog X.w X.K X.mg X.base CX k f fd ps sp) (hr : Room k X.A) (hb : Binds X.K fd ps ds) (hd : Vals dvs ds) (hx : Passes CX X E)
  (I : Inv X pins σ H s) (r : Vals vs us) (h : sp (vs ++ dvs) H Q E) : wpAny (model X.prog X.w) X.A (call (.ref f) us) (EP X pins σ Q) X.xe s := by
 have r2 : Vals (vs ++ dvs) (us ++ ds) := r.append hd
 have hl : (us ++ ds).length = ps.length := by rw [<- r2.length]; exact F.len _ _ _ _ h
 refine wpAny_call (codeAny_mono (F.run X.A X.stack s H ⟨us, []⟩ (us ++ ds) (vs ++ dvs) Q E hr I.env0 (hb s us I.kIn hl) r2 h) fun r s' hq => ?_)
 cases r with
 | error e => exact hx pins σ H s e s' I hq
 | ok fl =>
  cases fl with
  | ret u => exact I.after hq
  | next => exact False.elim hq
  | brk => exact False.elim hq
  | cont => exact False.elim hq
theorem pe_call (F : FnOk X.prog X.w X.K X.mg X.base CX k f fd ps sp) (hr : Room k X.A) (hg : Gl X x) (hm : X.mg x = some (.ref f)) (hk : PySem.W.keepIn X.K (.ref f) = true) (hb : Binds X.K fd ps ds) (hd : Vals dvs ds) (hx : Passes CX X E)
  (ha : PA X (e :: es) t) (hdb : (x == ("__debug__" : Str)) = false := by decide) (he : starEach (e :: es) X.env = (false, eval e X.env) :: starEach es X.env := by rfl) (hpl : (backTo pos (starEach es X.env)).any (·.1) = false := by rfl) :
  PE X (.Call (.Name x p) (e :: es) [] pos) (tCall sp dvs E t) := by
 intro pins s σ H Q I h
 refine wpAny_Call_Name_kw (ld_glob I hg hm ?_ hdb)
 refine PySem.W.callWith_K (h₀ := X.base) I.ok.mod.kin hk (thn (ha pos pins s σ H _ I h) fun us s1 ⟨vs, H1, I1, r, q⟩ => ⟨I1.kIn, ?_⟩) he hpl
 exact run_fn F hr hb hd hx I1 r q
theorem pe_call0 (F : FnOk X.prog X.w X.K X.mg X.base CX k f fd ps sp) (hr : Room k X.A) (hg : Gl X x) (hm : X.mg x = some (.ref f)) (hk : PySem.W.keepIn X.K (.ref f) = true) (hb : Binds X.K fd ps ds) (hd : Vals dvs ds) (hx : Passes CX X E)
  (hdb : (x == ("__debug__" : Str)) = false := by decide) : PE X (.Call (.Name x p) [] [] pos) (tCall sp dvs E tNil) := by
 intro pins s σ H Q I h
 refine wpAny_Call_Name_kw (ld_glob I hg hm ?_ hdb)
 exact PySem.W.callWith_K0 I.kIn hk (run_fn (us := []) F hr hb hd hx I .nil h)
structure Mk (K : PySem.W.Frag) (C f : Addr) : Prop where
 makes : PySem.W.makesIn K C = true
 init : PySem.W.findIn K (.ref C) "__init__" = some (some (.ref f))
 fn : PySem.W.isFn K (.ref f) = true
 kp : PySem.W.keepIn K (.ref C) = true
theorem run_make {pins : List (Addr × Obj)} {σ : St} {H : Hp} {s : Shared} {Q : VK} {us : List Value} {vs : List V} (M : Mk X.K C f) (F : FnOk X.prog X.w X.K X.mg X.base CX k f fd ps sp) (hr : Room (k + 1) X.A) (hb : Binds X.K fd ps ds) (hd : Vals dvs ds)
  (hx : Passes CX X E) (I : Inv X pins σ H s) (r : Vals vs us)
  (h : ∀ x dx, H x = none -> H dx = none -> dx ≠ x -> sp (.ref x :: (vs ++ dvs)) (upd (upd H dx (.own x)) x (.ins C dx [])) (fun v H2 => v = .non /\ Q (.ref x) H2) E) :
  wpAny (model X.prog X.w) X.A (call (.ref C) us) (EP X pins σ Q) X.xe s := by
 have hq := h (s.heap.objs.size + 1) s.heap.objs.size (I.hok.fresh (Nat.le_succ _)) (I.hok.fresh (Nat.le_refl _)) (Nat.ne_of_lt (Nat.lt_succ_self _))
 have I2 := Inv.made (C := C) I
 have r2 : Vals (V.ref (s.heap.objs.size + 1) :: (vs ++ dvs)) (Value.ref (s.heap.objs.size + 1) :: (us ++ ds)) := .cons rfl (r.append hd)
 have hl : (Value.ref (s.heap.objs.size + 1) :: us ++ ds).length = ps.length := by
  have e := r2.length
  rw [F.len _ _ _ _ hq] at e
  exact e.symm
 refine wpAny_call (make_map (f := f) I.kIn M.makes M.init (beq_iff_eq.mp M.fn) (codeAny_mono (F.run _ X.stack _ _ ⟨Value.ref (s.heap.objs.size + 1) :: us, []⟩ (Value.ref (s.heap.objs.size + 1) :: (us ++ ds)) _ _ E (hr.make C us [])
  (I2.env0.make C us []) (hb _ (Value.ref (s.heap.objs.size + 1) :: us) I2.kIn hl) r2 hq) fun r s' hq' => ?_))
 cases r with
 | error e => exact hx pins σ _ _ e s' I2 hq'
 | ok fl =>
  cases fl with
  | ret u =>
   obtain ⟨v, H', I3, rv, ev, q3⟩ := I2.after hq'
   subst ev
   exact ⟨rv, ⟨V.ref (s.heap.objs.size + 1), H', I3, rfl, q3⟩⟩
  | next => exact False.elim hq'
  | brk => exact False.elim hq'
  | cont => exact False.elim hq'
theorem pe_make (M : Mk X.K C f) (F : FnOk X.prog X.w X.K X.mg X.base CX k f fd ps sp) (hr : Room (k + 1) X.A) (hg : Gl X x) (hm : X.mg x = some (.ref C)) (hb : Binds X.K fd ps ds) (hd : Vals dvs ds) (hx : Passes CX X E)
  (ha : PA X (e :: es) t) (hdb : (x == ("__debug__" : Str)) = false := by decide) (he : starEach (e :: es) X.env = (false, eval e X.env) :: starEach es X.env := by rfl) (hpl : (backTo pos (starEach es X.env)).any (·.1) = false := by rfl) :
  PE X (.Call (.Name x p) (e :: es) [] pos) (tMake C sp dvs E t) := by
 intro pins s σ H Q I h
 refine wpAny_Call_Name_kw (ld_glob I hg hm ?_ hdb)
 refine PySem.W.callWith_K (h₀ := X.base) I.ok.mod.kin M.kp (thn (ha pos pins s σ H _ I h) fun us s1 ⟨vs, H1, I1, r, q⟩ => ⟨I1.kIn, ?_⟩) he hpl
 exact run_make M F hr hb hd hx I1 r q
theorem pe_make0 (M : Mk X.K C f) (F : FnOk X.prog X.w X.K X.mg X.base CX k f fd ps sp) (hr : Room (k + 1) X.A) (hg : Gl X x) (hm : X.mg x = some (.ref C)) (hb : Binds X.K fd ps ds) (hd : Vals dvs ds) (hx : Passes CX X E)
  (hdb : (x == ("__debug__" : Str)) = false := by decide) : PE X (.Call (.Name x p) [] [] pos) (tMake C sp dvs E tNil) := by
 intro pins s σ H Q I h
 refine wpAny_Call_Name_kw (ld_glob I hg hm ?_ hdb)
 exact PySem.W.callWith_K0 I.kIn M.kp (run_make (us := []) M F hr hb hd hx I .nil h)
end
section
variable {X : Cx} {CX : CXT} {k : Nat} {f C : Addr} {fd : FuncData} {ps ks : List Str} {sp : Sp} {E : XK} {x m : Str} {p pos apos kpos : Pos} {e o : Expr} {es : List Expr} {kws : List Keyword} {te ta : TE} {t tk : TA} {nm : Option Str}
variable {g : List Value -> List Value -> List Value} {gV : List V -> List V -> List V}
end
structure FnScope (N P : List Str) (sc : Scope) : Prop where
 kind : sc.kind = .function
 co : sc.isCoroutine = false
 gen : sc.isGenerator = false
 nd : N.Nodup
 pre : N.take P.length = P
 par : ∀ x ∈ P, sc.names.lookup x = some .local ∨ sc.names.lookup x = some .cell
 nofree : ∀ y ∈ sc.names, y.2 ≠ .free
theorem bindL_out {kindOf : Str -> Option NameKind} {x : Str} : ∀ {binds : List (Str × Value)} {m : Str -> Option Value}, (∀ v, (x, v) ∉ binds) -> bindL kindOf binds m x = m x
 | [], _, _ => rfl
 | (n, v) :: r, m, h => by
  unfold bindL
  rw [bindL_out fun w hw => h w (List.mem_cons_of_mem _ hw)]
  split
  ·have : x ≠ n := by rintro rfl; exact h v List.mem_cons_self
   simp [this]
  ·rfl
theorem bindC_out {kindOf : Str -> Option NameKind} {x : Str} : ∀ {binds : List (Str × Value)} {m : Str -> Option Value}, (∀ v, (x, v) ∉ binds) -> bindC kindOf binds m x = m x
 | [], _, _ => rfl
 | (n, v) :: r, m, h => by
  unfold bindC
  rw [bindC_out fun w hw => h w (List.mem_cons_of_mem _ hw)]
  split
  ·rfl
  ·have : x ≠ n := by rintro rfl; exact h v List.mem_cons_self
   simp [this]
theorem bindL_get {kindOf : Str -> Option NameKind} {x : Str} {v : Value} : ∀ {P : List Str} {vs : List Value} {i : Nat} {m : Str -> Option Value}, P.Nodup -> P[i]? = some x -> vs[i]? = some v -> kindOf x = some .local ->
  bindL kindOf (P.zip vs) m x = some v
 | [], _, _, _, _, h, _, _ => by simp at h
 | _ :: _, [], _, _, _, _, h, _ => by simp at h
 | p :: P, w :: vs, 0, m, nd, h1, h2, hk => by
  simp at h1 h2; subst h1; subst h2
  show bindL kindOf ((p, w) :: P.zip vs) m p = _
  unfold bindL
  rw [bindL_out fun v hv => (List.nodup_cons.mp nd).1 (List.of_mem_zip hv).1, if_pos hk]
  simp
 | p :: P, w :: vs, i + 1, m, nd, h1, h2, hk => by
  show bindL kindOf ((p, w) :: P.zip vs) m x = _
  unfold bindL
  exact bindL_get (i := i) (List.nodup_cons.mp nd).2 (by simpa using h1) (by simpa using h2) hk
theorem bindC_get {kindOf : Str -> Option NameKind} {x : Str} {v : Value} : ∀ {P : List Str} {vs : List Value} {i : Nat} {m : Str -> Option Value}, P.Nodup -> P[i]? = some x -> vs[i]? = some v -> kindOf x ≠ some .local ->
  bindC kindOf (P.zip vs) m x = some v
 | [], _, _, _, _, h, _, _ => by simp at h
 | _ :: _, [], _, _, _, _, h, _ => by simp at h
 | p :: P, w :: vs, 0, m, nd, h1, h2, hk => by
  simp at h1 h2; subst h1; subst h2
  show bindC kindOf ((p, w) :: P.zip vs) m p = _
  unfold bindC
  rw [bindC_out fun v hv => (List.nodup_cons.mp nd).1 (List.of_mem_zip hv).1, if_neg hk]
  simp
 | p :: P, w :: vs, i + 1, m, nd, h1, h2, hk => by
  show bindC kindOf ((p, w) :: P.zip vs) m x = _
  unfold bindC
  exact bindC_get (i := i) (List.nodup_cons.mp nd).2 (by simpa using h1) (by simpa using h2) hk
def start (N : List Str) (vs : List V) : St := vs.map some ++ List.replicate (N.length - vs.length) none
def cxOf (CX : CXT) (P : Program) (w : World) (K : PySem.W.Frag) (mg : Str -> Option Value) (base : Heap) (N : List Str) (qual : Str) (scope : Scope) (f : Addr) (cd : Value) (A : Around) (outer : List Env) (s : Shared) (H : Hp) (E : XK) : Cx where
 prog := P
 w := w
 K := K
 mg := mg
 base := base
 A := A.deeper (envOfC qual scope s.heap.objs.size f cd)
 N := N
 s_0 := s
 H_0 := H
 env := envOfC qual scope s.heap.objs.size f cd
 outer := outer
 stack := envOfC qual scope s.heap.objs.size f cd :: outer
 ex := []
 calm := true
 fn := fun _ => true
 pn := []
 xe := fun e s' => wpAny (model P w) (A.deeper (envOfC qual scope s.heap.objs.size f cd)) (leaving (envOfC qual scope s.heap.objs.size f cd) e) (fun _ s'' => CX outer H s E e s'') (fun e' s'' => CX outer H s E e' s'') s'
theorem cell_has {sc : Scope} {n : Nat} {x : Str} (h : sc.names.lookup x = some .cell) : ∃ c, (cellsFrom n sc.names []).lookup x = some c := by
 have q := PySem.W.cellsFrom_some sc.names n [] (.inl h)
 exact Option.isSome_iff_exists.mp q
theorem inv_start {CX : CXT} {P : Program} {w : World} {K : PySem.W.Frag} {mg : Str -> Option Value} {base : Heap} {N ps : List Str} {qual : Str} {scope : Scope} {f : Addr} {cd : Value} {A : Around} {outer : List Env} {s s1 : Shared} {H : Hp} {E : XK} {us : List Value} {vs : List V}
  (S : FnScope N ps scope) (hd : A.handled = none) (e0 : Env0 P w K mg base A outer s H) (hl : vs.length = ps.length) (r : Vals vs us)
  (x : InCallC s s.heap.objs.size (bindL (envOfC qual scope s.heap.objs.size f cd).kindOf (ps.zip us) fun _ => none) (cellsFrom (s.heap.objs.size + 1) scope.names []) (bindC (envOfC qual scope s.heap.objs.size f cd).kindOf (ps.zip us) fun _ => none) s1) :
  Inv (cxOf CX P w K mg base N qual scope f cd A outer s H E) [] (start N vs) H s1 := by
 have hpl : ps.length <= N.length := by have := congrArg List.length S.pre; rw [List.length_take] at this; omega
 obtain ⟨h1, tk, rfl, hk⟩ := x.done
 have noA : ∀ b : Addr, b ∉ (cxOf CX P w K mg base N qual scope f cd A outer s H E).ex := fun b z => absurd (show b ∈ ([] : List Addr) from z) (by simp)
 refine ⟨⟨e0.mod, S.kind, rfl, rfl, Nat.le_refl _, fun y z c h1 h2 => ?_, fun y hy => ?_, fun y c _ h => ?_, fun _ => hd, Around.frames_deeper e0.frames, .inr ⟨rfl, rfl⟩, fun b z => absurd z (noA b), e0.bs, e0.bsz, fun b _ _ => noA b, fun b z => absurd z (noA b), e0.funs, e0.frf⟩,
  rfl, e0.bare, Un.kept hk, ⟨_, x.toInCall.ns, fun i y v h1 h2 h3 => ?_⟩, fun y c h => ⟨_, x.cell y c h⟩, e0.hok.fresh (Nat.le_refl _), fun y c h => ?_, fun p hp => absurd (show p ∈ ([] : List (Addr × Obj)) from hp) (by simp), e0.hok.kept hk, ?_⟩
 ·exact name_of_addr x.apart (PySem.mem_of_lookup h1) (PySem.mem_of_lookup h2)
 ·have hy : scope.names.lookup y = some .cell ∨ scope.names.lookup y = some .free := hy
  rcases hy with hy | hy
  ·exact cell_has hy
  ·exact absurd rfl (S.nofree _ (PySem.mem_of_lookup hy))
 ·exact Nat.le_of_lt (x.above y c (PySem.mem_of_lookup h))
 ·have hi : i < vs.length := by
   unfold start at h2
   by_cases hi : i < vs.length
   ·exact hi
   ·rw [List.getElem?_append_right (by simpa using hi)] at h2
    rw [List.getElem?_replicate] at h2
    split at h2 <;> cases h2
  have ha : vs[i]? = some v := by
   unfold start at h2
   rw [List.getElem?_append_left (by simpa using hi), List.getElem?_map] at h2
   cases e : vs[i]? with
   | none => rw [e] at h2; cases h2
   | some a => rw [e] at h2; cases h2; rfl
  obtain ⟨u, hu, rv⟩ := r.get ha
  have hp : ps[i]? = some y := by
   rw [<- S.pre, List.getElem?_take_of_lt (by omega)]; exact h1
  have ndP : ps.Nodup := by rw [<- S.pre]; exact S.nd.sublist (List.take_sublist _ _)
  refine ⟨u, rv, ?_⟩
  rcases S.par y (List.mem_of_getElem? hp) with k | k
  ·exact .inl ⟨k, bindL_get ndP hp hu k⟩
  ·obtain ⟨c, e⟩ := cell_has (n := s.heap.objs.size + 1) k
   refine .inr ⟨.inl k, c, e, ?_⟩
   have q := x.cell y c e
   rw [bindC_get ndP hp hu (by show scope.names.lookup y ≠ _; rw [k]; decide)] at q
   exact q
 ·exact e0.hok.fresh (Nat.le_of_lt (x.above y c (PySem.mem_of_lookup h)))
 ·unfold start
  show _ = N.length
  rw [List.length_append, List.length_map, List.length_replicate]
  omega
theorem fn_of {CX : CXT} {P : Program} {w : World} {K : PySem.W.Frag} {mg : Str -> Option Value} {base : Heap} {k : Nat} {f : Addr} {name qual : Str} {params : Arguments} {body : List Stmt} {scope : Scope} {dV kV doc pm cdv ct oc : Value} {an od : Option Addr}
  {osl : Array (Option Value)} {N ps : List Str} {sp : Sp} (lk : K.lookup f = some ⟨oc, od, .func (PySem.W.fnOf name qual params body scope dV kV doc pm an cdv ct), osl⟩) (hcd : PySem.W.codeIn K cdv qual = true) (S : FnScope N ps scope)
  (len : ∀ vs H Q E, sp vs H Q E -> vs.length = ps.length)
  (hbody : ∀ (A : Around) (outer : List Env) (s : Shared) (H : Hp) (vs : List V) (Q : VK) (E : XK), Room k (A.deeper (envOfC qual scope s.heap.objs.size f cdv)) -> sp vs H Q E ->
   ∃ t, PSs (cxOf CX P w K mg base N qual scope f cdv A outer s H E) body t /\ t { nx := fun _ H' => Q .non H', rt := Q } (start N vs) H) :
  FnOk P w K mg base CX (k + 1) f (PySem.W.fnOf name qual params body scope dV kV doc pm an cdv ct) ps sp := by
 refine ⟨len, fun A outer s H args us vs Q E hr e0 hb r hsp => ?_⟩
 have hl := len _ _ _ _ hsp
 have KX : K.In s.heap := e0.mod.kin.keeps fun b o e => (e0.bs b o e).1
 have lim : s.heap.NoLimit := e0.mod.nolimit.keeps fun b o e => (e0.bs b o e).1
 have hkind : ∀ y ∈ ps.zip us, scope.names.lookup y.1 = some .local ∨ (scope.names.lookup y.1 = some .cell /\ ((cellsFrom (s.heap.objs.size + 1) scope.names []).lookup y.1).isSome = true) := fun ⟨n, v⟩ hy => by
  rcases S.par n (List.of_mem_zip hy).1 with q | q
  ·exact .inl q
  ·exact .inr ⟨q, PySem.W.cellsFrom_some _ _ _ (.inl q)⟩
 refine codeAny_call_function hr.depth (KX _ _ lk) rfl S.co S.gen rfl (PySem.W.codeRec_of KX hcd) (hb _ _ _ _ ?_)
 refine wpAny_newFunctionEnv_cells S.kind hkind fun env he s1 x => ?_
 subst he
 refine ⟨lim.keeps x.toInCall.keep, codeAny_func ?_⟩
 obtain ⟨t, ht, hq⟩ := hbody A outer s H vs Q E (hr.deeper _) hsp
 have I : Inv (cxOf CX P w K mg base N qual scope f cdv A outer s H E) [] (start N vs) H s1 := inv_start S hr.hd e0 hl r x
 refine wpAny_mono (ht [] s1 (start N vs) H _ I hq) (fun fl s' hs => ?_) fun e s' hs => hs
 have fin : ∀ {σ' : St} {H' : Hp} {v : V} {u : Value}, Inv (cxOf CX P w K mg base N qual scope f cdv A outer s H E) [] σ' H' s' -> RelV v u -> Q v H' -> CE outer P w H s Q u s' :=
  fun {σ' H' v u} J rv q => ⟨v, H', J.os, J.bare, J.base, J.hok, rv, q⟩
 cases fl with
 | ret u =>
  obtain ⟨v, σ', H', J, rv, q⟩ := hs
  exact fin J rv q
 | next =>
  obtain ⟨σ', H', J, q⟩ := hs
  exact fin (v := V.non) (u := Value.none) J rfl q
 | brk =>
  obtain ⟨_, _, _, q⟩ := hs
  exact False.elim q
 | cont =>
  obtain ⟨_, _, _, q⟩ := hs
  exact False.elim q
section
variable {X : Cx} {x : Str} {p pos : Pos} {e : Expr} {es : List Expr} {t : TA} {id T : String} {r : List V -> Hp -> VK -> Prop}
def tCB (r : List V -> Hp -> VK -> Prop) (t : TA) : TE := fun σ H Q => t σ H fun vs H1 => r vs H1 Q
theorem pe_callB (hc : CallR X (.builtin id) r) (hg : Gl X x) (hm : X.mg x = none) (hv : bootBuiltins x = some (.builtin id)) (ha : PA X (e :: es) t) (hn : x ≠ "__name__" := by decide) (hdb : (x == ("__debug__" : Str)) = false := by decide)
  (he : starEach (e :: es) X.env = (false, eval e X.env) :: starEach es X.env := by rfl) (hpl : (backTo pos (starEach es X.env)).any (·.1) = false := by rfl) : PE X (.Call (.Name x p) (e :: es) [] pos) (tCB r t) := by
 intro pins s σ H Q I h
 refine wpAny_Call_Name_kw (ld_blt I hg hm hv ?_ hn hdb)
 exact PyProof.Rows.callWith_builtin1 (thn (ha pos pins s σ H _ I h) fun us s1 ⟨vs, H1, I1, r1, q1⟩ => hc pins s1 σ H1 vs us Q I1 r1 q1) he hpl
end
end L2
namespace HT
open PySem PyProof.Rows
def lexLt : List Int -> List Int -> Bool
 | [], [] => false
 | [], _ :: _ => true
 | _ :: _, [] => false
 | x :: xs, y :: ys => if x = y then lexLt xs ys else decide (x < y)
theorem lexLt_cons (x y : Int) (xs ys : List Int) : lexLt (x :: xs) (y :: ys) = if x = y then lexLt xs ys else decide (x < y) := rfl
theorem lexLt_nil_nil : lexLt [] [] = false := rfl
theorem lexLt_nil_cons (y : Int) (ys : List Int) : lexLt [] (y :: ys) = true := rfl
theorem lexLt_cons_nil (x : Int) (xs : List Int) : lexLt (x :: xs) [] = false := rfl
theorem eqAt_int (A : Around) (s : Shared) (a : Int) (t : Tok) (c : Int) (u : Tok) : ∃ e, SeqAt.EqAt A s (.int a t) (.int c u) e /\ (e = true ↔ a = c) :=
 ⟨(a == c), SeqAt.EqAt.int_int a t c u, by simp⟩
theorem rcLt_int (A : Around) (s : Shared) (a : Int) (t : Tok) (c : Int) (u : Tok) (prog : Program) (w : World) (E : Value -> Shared -> Prop) (Q : Value -> Shared -> Prop) (h : Q (.bool (decide (a < c))) s) :
  wpAny (model prog w) A (richCompare .Lt (.int a t) (.int c u)) Q E s :=
 (PyProof.Rows.lt_int h : wpAny (model prog w) A (compareOp .Lt (.int a t) (.int c u)) Q E s)
section
open PySem.SeqAt
open PySem.AutoSeq1 (wpAny_loadPart')
open PySem.MeetsSeq PySem.MeetsSeq2 PySem.MeetsSeq3
theorem tuple_lt_ints (l b : Addr) (items items2 : Array Value) (n n2 : Nat) (dd dd2 : Option Addr) (sl sl2 : Array (Option Value)) (ns ms : List Int) (hi : IntsAre items.toList ns) (hj : IntsAre items2.toList ms) :
  Meets (Builtin.«tuple.__lt__» ⟨[.ref l, .ref b], []⟩)
   (fun _ R s => s.heap.get? l = some { cls := .type "tuple", dict := dd, data := .seq items n, slots := sl } /\ s.heap.get? b = some { cls := .type "tuple", dict := dd2, data := .seq items2 n2, slots := sl2 } /\
    R (.ok (.ret (.bool (lexLt ns ms)))) s) :=
 .of_wp fun prog w A R s h => by
  obtain ⟨hp, g, d, tk, os⟩ := s; obtain ⟨hl, hb, h⟩ := h
  have f2 := AutoSeq1.sub_tuple_tuple
  have z1 : items.size = ns.length := by rw [<- hi.length]; simp
  have z2 : items2.size = ms.length := by rw [<- hj.length]; simp
  wp_walk using wpAny_loadPart' hl, wpAny_loadPart' hb, wpAny_forIn_list _ (fun rest b s' => b.1 = none /\ s' = ⟨hp, g, d, tk, os⟩ /\ ∃ (vs ws : List Value) (ns' ms' : List Int), rest = vs.zip ws /\
   IntsAre vs ns' /\ IntsAre ws ms' /\ ns'.length + items2.size = ms'.length + items.size /\ R (.ok (.ret (.bool (lexLt ns' ms')))) ⟨hp, g, d, tk, os⟩) _
  case turn =>
   rintro ⟨y, x⟩ rest b s' ⟨hb', rfl, vs, ws, ns', ms', hz, hvi, hwi, hlen, hR⟩
   cases hvi with
   | nil => rw [List.zip_nil_left] at hz; cases hz
   | cons a t hvi' =>
    cases hwi with
    | nil => rw [List.zip_nil_right] at hz; cases hz
    | cons c u hwi' =>
     rw [List.zip_cons_cons] at hz
     injection hz with hyx hrest
     injection hyx with hy hx
     subst hy hx
     rw [lexLt_cons] at hR
     simp only [List.length_cons] at hlen
     obtain ⟨e, he, hiff⟩ := eqAt_int A.in1 ⟨hp, g, d, tk, os⟩ a t c u
     refine wpAny_bind (he prog w _ _ ?_)
     cases e with
     | true =>
      rw [if_pos (hiff.mp rfl)] at hR
      wp_walk
      exact ⟨rfl, rfl, _, _, _, _, hrest, hvi', hwi', by omega, hR⟩
     | false =>
      rw [if_neg (fun q => absurd (hiff.mpr q) Bool.false_ne_true)] at hR
      have hri := rcLt_int A.in1 ⟨hp, g, d, tk, os⟩ a t c u prog w
      wp_walk using hri
      exact ⟨_, rfl, by simpa using hR⟩
  case fin =>
   rintro ⟨b1, b2⟩ s' ⟨hb', rfl, vs, ws, ns', ms', hz, hvi, hwi, hlen, hR⟩
   simp only at hb'
   subst hb'
   have hv : lexLt ns' ms' = decide (items.size < items2.size) := by
    cases hvi with
    | nil =>
     cases hwi with
     | nil =>
      simp only [List.length_nil] at hlen
      rw [lexLt_nil_nil]
      exact (decide_eq_false (by omega)).symm
     | cons c u hw =>
      simp only [List.length_nil, List.length_cons] at hlen
      rw [lexLt_nil_cons]
      exact (decide_eq_true (by omega)).symm
    | cons a t hv =>
     cases hwi with
     | nil =>
      simp only [List.length_nil, List.length_cons] at hlen
      rw [lexLt_cons_nil]
      exact (decide_eq_false (by omega)).symm
     | cons c u hw =>
      rw [List.zip_cons_cons] at hz
      cases hz
   rw [hv] at hR
   wp_walk
   exact ⟨_, rfl, by simpa [Builtin.Tuple.tupleCompareSizes] using hR⟩
  case h =>
   exact ⟨rfl, rfl, items.toList, items2.toList, ns, ms, rfl, hi, hj, by omega, h⟩
end
section
variable {prog : Program} {w : World} {A : Around} {E : Value -> Shared -> Prop} {s : Shared}
theorem lt_tupInts {l b : Addr} {items items2 : Array Value} {ns ms : List Int} {Q : Value -> Shared -> Prop} (hl : IsTup s.heap l items) (hb : IsTup s.heap b items2) (hi : IntsAre items.toList ns) (hj : IntsAre items2.toList ms)
  (hu : A.units < cLine) (h : Q (.bool (lexLt ns ms)) s) : wpAny (model prog w) A (compareOp .Lt (.ref l) (.ref b)) Q E s := by
 obtain ⟨⟨cls, dd, data, sl⟩, ho, hc, n, hd⟩ := id hl
 obtain ⟨⟨cls2, dd2, data2, sl2⟩, ho2, hc2, n2, hd2⟩ := id hb
 simp only at hc hd hc2 hd2
 subst hc hd hc2 hd2
 exact richCompare_meets_room (op := .Lt) ⟨_, ho, rfl⟩ ⟨_, ho2, rfl⟩ PySem.F.slot_tuple_lt PySem.F.entry_tuple_lt (PySem.F.args_tuple_lt_2 _ _) (tuple_lt_ints l b items items2 n n2 dd dd2 sl sl2 ns ms hi hj)
  ⟨ho, ho2, show Value.bool (lexLt ns ms) ≠ Value.notImplemented /\ Q (.bool (lexLt ns ms)) s from ⟨(fun x => nomatch x), h⟩⟩ hu
def sIx (n d : Nat) : Option Int -> Nat
 | none => d
 | some v => if v < 0 then (v + (n : Int)).toNat else min v.toNat n
theorem sIx_none (n d : Nat) : sIx n d none = d := rfl
theorem sIx_nat (n d k : Nat) : sIx n d (some (k : Int)) = min k n := by
 show (if (k : Int) < 0 then ((k : Int) + (n : Int)).toNat else min (k : Int).toNat n) = min k n
 rw [if_neg (by omega), Int.toNat_natCast]
end
end HT
namespace L2
open PySem PySem.Spec PyProof.Rows
abbrev TO := St -> Hp -> (Option Int -> Hp -> Prop) -> Prop
def PO (X : Cx) (e : Option Expr) (t : TO) : Prop :=
 ∀ (pins : List (Addr × Obj)) (s : Shared) (σ : St) (H : Hp) (Q : Option Int -> Hp -> Prop), Inv X pins σ H s -> t σ H Q ->
  wpAny (model X.prog X.w) X.A (evalPart e X.env) (fun u s' => ∃ o H', Inv X pins σ H' s' /\ IsPart u o /\ Q o H') X.xe s
def tNoPart : TO := fun _ H Q => Q none H
def tPart (t : TE) : TO := fun σ H Q => t σ H fun x H1 => ∃ i, x = .int i /\ Q (some i) H1
theorem intsAre_of {ns : List Int} : ∀ {us : List Value}, Vals (ns.map V.int) us -> IntsAre us ns := by
 induction ns with
 | nil => intro us r; rw [List.map_nil] at r; cases r; exact .nil
 | cons n ns ih =>
  intro us r
  rw [List.map_cons] at r
  cases r with
  | cons r1 r2 =>
   obtain ⟨t, e⟩ := r1
   subst e
   exact .cons n t (ih r2)
section
variable {X : Cx} {e : Expr} {te : TE} {lo hi : Option Expr} {tl th : TO} {pos p2 : Pos}
theorem po_none : PO X none tNoPart := by
 intro pins s σ H Q I h
 rw [evalPart_none]
 exact wpAny_pure ⟨none, H, I, .none, h⟩
theorem po_some (h : PE X e te) : PO X (some e) (tPart te) := by
 intro pins s σ H Q I hw
 rw [evalPart_some]
 refine thn (h pins s σ H _ I hw) fun u s1 ⟨x, H1, I1, r1, q1⟩ => ?_
 obtain ⟨i, rfl, q⟩ := q1
 obtain ⟨t, rfl⟩ := r1
 exact ⟨some i, H1, I1, .int i t, q⟩
def SlR (X : Cx) (r : V -> Option Int -> Option Int -> Hp -> VK -> Prop) : Prop :=
 ∀ (pins : List (Addr × Obj)) (s : Shared) (σ : St) (H : Hp) (x : V) (v vl vu : Value) (lo hi : Option Int) (sl : Addr) (Q : VK), Inv X pins σ H s -> RelV x v -> s.heap.IsSliceOf sl vl vu .none -> IsPart vl lo -> IsPart vu hi -> r x lo hi H Q ->
  ∃ T id, typeLookup (.type T) "__getitem__" = pure (some (.builtin id)) /\ s.TypeIs v T /\ wpAny (model X.prog X.w) X.A (getItem v (.ref sl)) (EP X pins σ Q) X.xe s
def tSl (r : V -> Option Int -> Option Int -> Hp -> VK -> Prop) (te : TE) (tl th : TO) : TE := fun σ H Q => te σ H fun x H1 => tl σ H1 fun l H2 => th σ H2 fun u H3 => r x l u H3 Q
theorem pe_slice {r : V -> Option Int -> Option Int -> Hp -> VK -> Prop} (hr : SlR X r) (he : PE X e te) (hl : PO X lo tl) (hu : PO X hi th) : PE X (.Subscript e (.Slice lo hi none p2) pos) (tSl r te tl th) := by
 intro pins s σ H Q I h
 refine Subscript_ (thn (he pins s σ H _ I h) fun v s1 ⟨x, H1, I1, r1, q1⟩ => ?_)
 refine wpAny_Slice (thn (hl pins s1 σ H1 _ I1 q1) fun vl s2 ⟨l, H2, I2, pl, q2⟩ => thn (hu pins s2 σ H2 _ I2 q2) fun vu s3 ⟨u, H3, I3, pu, q3⟩ => ?_)
 rw [evalPart_none]
 refine wpAny_pure ?_
 have I4 : Inv X pins σ H3 { s3 with heap := s3.heap.push { cls := .type "slice", data := .fields #[vl, vu, .none] } } := I3.kept (t' := s3.toks) fun b ob q => Heap.get?_push_of_some _ q
 obtain ⟨T, id, hT, ht, hg⟩ := hr pins { s3 with heap := s3.heap.push { cls := .type "slice", data := .fields #[vl, vu, .none] } } σ H3 x v vl vu l u s3.heap.objs.size Q I4 r1 (Heap.IsSliceOf.new ..) pl pu q3
 show wpAny (model X.prog X.w) X.A (subscriptTail e (.Slice lo hi none p2) v (.ref s3.heap.objs.size)) (EP X pins σ Q) X.xe { s3 with heap := s3.heap.push { cls := .type "slice", data := .fields #[vl, vu, .none] } }
 exact tail_any (ops := [.ref s3.heap.objs.size, v]) ht hT hg (by with_unfolding_all rfl)
def cutV (xs : List V) (lo hi : Option Int) : List V := (xs.drop (HT.sIx xs.length 0 lo)).take (HT.sIx xs.length xs.length hi - HT.sIx xs.length 0 lo)
theorem cutV_length (xs : List V) (lo hi : Option Int) : (cutV xs lo hi).length <= xs.length := by
 unfold cutV
 rw [List.length_take, List.length_drop]
 omega
def rLtT (K : PySem.W.Frag) : R2 := fun x y H Q => ∃ a b ns ms, x = .ref a /\ y = .ref b /\ SqT K H a (ns.map V.int) /\ SqT K H b (ms.map V.int) /\ Q (.bl (HT.lexLt ns ms)) H
theorem op_ltT (hu : X.A.units < cLine) : OpR X (compareOp .Lt) (rLtT X.K) := by
 intro pins s σ H x y v u Q I rx ry h
 obtain ⟨a, b, ns, ms, rfl, rfl, ha, hb, q⟩ := h
 cases rx
 cases ry
 obtain ⟨its, r1, p1, _⟩ := I.tuple ha
 obtain ⟨its2, r2, p2, _⟩ := I.tuple hb
 have i1 : IntsAre its.toArray.toList ns := intsAre_of r1
 have i2 : IntsAre its2.toArray.toList ms := intsAre_of r2
 exact HT.lt_tupInts p1 p2 i1 i2 hu ⟨.bl (HT.lexLt ns ms), H, I, rfl, q⟩
end
def ixN (n : Nat) (i : Int) : Option Nat := if 0 <= i then (if i < n then some i.toNat else none) else if -(n : Int) <= i then some (i + n).toNat else none
def atI {α : Type} (xs : List α) (i : Int) : Option α := (ixN xs.length i).bind fun j => xs[j]?
theorem ixN_seq {n : Nat} {i : Int} {j : Nat} (h : ixN n i = some j) : seqIndex? i n = some j /\ j < n /\ -(n : Int) <= i /\ i < n := by
 unfold ixN at h
 by_cases h0 : 0 <= i
 ·rw [if_pos h0] at h
  by_cases h1 : i < n
  ·rw [if_pos h1] at h
   have e : i.toNat = j := Option.some.inj h
   exact ⟨by rw [seqIndex_of h0 h1, e], by omega, by omega, h1⟩
  ·rw [if_neg h1] at h; cases h
 ·rw [if_neg h0] at h
  by_cases h1 : -(n : Int) <= i
  ·rw [if_pos h1] at h
   have e : (i + n).toNat = j := Option.some.inj h
   exact ⟨by rw [seqIndex_neg (by omega) h1, e], by omega, h1, by omega⟩
  ·rw [if_neg h1] at h; cases h
theorem atI_get {α : Type} {xs : List α} {i : Int} {v : α} (h : atI xs i = some v) : ∃ j, seqIndex? i xs.length = some j /\ xs[j]? = some v /\ j < xs.length /\ -(xs.length : Int) <= i /\ i < xs.length := by
 unfold atI at h
 cases e : ixN xs.length i with
 | none => rw [e] at h; cases h
 | some j =>
  rw [e] at h
  obtain ⟨h1, h2, h3, h4⟩ := ixN_seq e
  exact ⟨j, h1, h, h2, h3, h4⟩
theorem atI_nat {α : Type} {xs : List α} {j : Nat} {v : α} (h : xs[j]? = some v) : atI xs (j : Int) = some v := by
 have hj : j < xs.length := (List.getElem?_eq_some_iff.mp h).1
 have e : ixN xs.length (j : Int) = some j := by
  unfold ixN
  rw [if_pos (by omega), if_pos (by omega)]; simp
 unfold atI; rw [e]; exact h
theorem atI_last {α : Type} (xs : List α) (v : α) : atI (xs ++ [v]) (-1) = some v := by
 have hl : (xs ++ [v]).length = xs.length + 1 := by simp
 have e : ixN (xs ++ [v]).length (-1) = some xs.length := by
  unfold ixN
  rw [hl, if_neg (by decide), if_pos (by omega)]
  congr 1
  omega
 unfold atI
 rw [e]
 show (xs ++ [v])[xs.length]? = some v
 simp
def PlainIx (b : Expr) : Prop := ∀ o i, subscripted b false o i = operate [o, i] (getItem o i)
def IxR (X : Cx) (r : R2) : Prop :=
 ∀ (value slice : Expr) (pins : List (Addr × Obj)) (s : Shared) (σ : St) (H : Hp) (x y : V) (v u : Value) (Q : VK), Inv X pins σ H s -> RelV x v -> RelV y u -> r x y H Q ->
  subscripted slice false v u = operate [v, u] (getItem v u) -> wpAny (model X.prog X.w) X.A (subscriptTail value slice v u) (EP X pins σ Q) X.xe s
def MtR (X : Cx) (id : String) (r : V -> List V -> Hp -> VK -> Prop) : Prop :=
 ∀ (pins : List (Addr × Obj)) (s : Shared) (σ : St) (H : Hp) (x : V) (xs : List V) (v : Value) (us : List Value) (Q : VK), Inv X pins σ H s -> RelV x v -> Vals xs us -> r x xs H Q ->
  wpAny (model X.prog X.w) X.A (call (.builtin id) (v :: us)) (EP X pins σ Q) X.xe s
section
variable {X : Cx} {a b : Expr} {ta tb : TE} {pos : Pos}
theorem pe_ix {r : R2} (hr : IxR X r) (ha : PE X a ta) (hb : PE X b tb) (hs : PlainIx b) : PE X (.Subscript a b pos) (tOp r ta tb) := by
 intro pins s σ H Q I h
 exact Subscript_ (binT ha hb I h fun v u s2 x y H2 I2 rx ry q => hr a b pins s2 σ H2 x y v u Q I2 rx ry q (hs _ _))
def rIxL (K : PySem.W.Frag) : R2 := fun x y H Q => ∃ p xs i v, x = .ref p /\ y = .int i /\ SqL K H p xs /\ atI xs i = some v /\ Q v H
def rIxT (K : PySem.W.Frag) : R2 := fun x y H Q => ∃ p xs i v, x = .ref p /\ y = .int i /\ SqT K H p xs /\ atI xs i = some v /\ Q v H
theorem ix_list : IxR X (rIxL X.K) := by
 intro value slice pins s σ H x y v u Q I rx ry h hs
 obtain ⟨p, xs, i, z, rfl, rfl, hq, he, q⟩ := h
 cases rx
 obtain ⟨t, rfl⟩ := ry
 obtain ⟨its, r, pl, hz⟩ := I.list hq
 obtain ⟨j, h1, h2, h3, h4, h5⟩ := atI_get he
 obtain ⟨w, ew, rw'⟩ := r.get h2
 have hl := r.length
 have hn := line63
 have fin : EP X pins σ Q w s := ⟨z, H, I, rw', q⟩
 by_cases h0 : 0 <= i
 ·have hj : i.toNat = j := by
   rw [seqIndex_of h0 h5] at h1
   exact Option.some.inj h1
  exact item_listR pl.isList h0 (by omega) (by rw [hj]; simpa using ew) fin hs
 ·have hj : (i + (its.toArray.size : Int)).toNat = j := by
   rw [seqIndex_neg (by omega) h4] at h1
   rw [List.size_toArray, <- hl]
   exact Option.some.inj h1
  exact subscriptTail_builtinR (x := w) pl.isList.typeIs slot_list_getitem.lookup
   (wpAny_getItem_list_neg (Q := fun r s' => r = w /\ EP X pins σ Q r s') pl.isList (by omega) (by rw [List.size_toArray] <;> omega) (by omega) (by rw [hj]; simpa using ew) ⟨rfl, fin⟩) hs
theorem ix_tup : IxR X (rIxT X.K) := by
 intro value slice pins s σ H x y v u Q I rx ry h hs
 obtain ⟨p, xs, i, z, rfl, rfl, hq, he, q⟩ := h
 cases rx
 obtain ⟨t, rfl⟩ := ry
 obtain ⟨its, r, pl, hz⟩ := I.tuple hq
 obtain ⟨j, h1, h2, h3, h4, h5⟩ := atI_get he
 obtain ⟨w, ew, rw'⟩ := r.get h2
 have hl := r.length
 have hn := line63
 have fin : EP X pins σ Q w s := ⟨z, H, I, rw', q⟩
 exact subscriptTail_builtinR (x := w) pl.typeIs slot_tuple_getitem.lookup
  (getItem_tuple (j := j) (Q := fun r s' => r = w /\ EP X pins σ Q r s') pl (by omega) (by omega) (by rw [List.size_toArray, <- hl]; exact h1) (by simpa using ew) ⟨rfl, fin⟩) hs
theorem mapSeq_set (its : List Value) (n j : Nat) (u : Value) : Obj.mapSeq (·.setIfInBounds j u) { cls := .type "list", data := .seq its.toArray n } = { cls := .type "list", data := .seq (its.set j u).toArray n } := by
 simp [Obj.mapSeq]
theorem Inv.lst {pins : List (Addr × Obj)} {σ : St} {H : Hp} {s : Shared} {p : Addr} {xs : List V} (I : Inv X pins σ H s) (h : H p = some (.lst xs)) :
  ∃ (its : List Value) (n : Nat), Vals xs its /\ s.heap.get? p = some { cls := .type "list", data := .seq its.toArray n } /\ xs.length <= sizeLine := by
 obtain ⟨z, its, n, r, e⟩ := I.hok p _ h
 exact ⟨its, n, r, e, z⟩
theorem Inv.lstUpd {pins : List (Addr × Obj)} {σ : St} {H : Hp} {s : Shared} {p : Addr} {xs ys : List V} {its its' : List Value} {n n' : Nat} {f : Obj -> Obj} (I : Inv X pins σ H s) (h : H p = some (.lst xs))
  (ho : s.heap.get? p = some { cls := .type "list", data := .seq its.toArray n }) (hf : f { cls := .type "list", data := .seq its.toArray n } = { cls := .type "list", data := .seq its'.toArray n' }) (r : Vals ys its') (hz : ys.length <= sizeLine) (t : Nat) :
  Inv X pins σ (upd H p (.lst ys)) { s with heap := s.heap.update p f, toks := t } := by
 have e : (s.heap.update p f).get? p = some { cls := .type "list", data := .seq its'.toArray n' } := by
  rw [Heap.get?_update_self f ho (by rw [hf] <;> rfl), hf]
 refine I.write (x := p) (e := p) (by rw [h]; trivial) (.inl rfl) (fun b u hb q => (Heap.get?_update_other _ _ (Ne.symm hb)).trans q) ⟨_, e⟩ ?_
 exact ⟨hz, its', n', r, e⟩
def rSetL : V -> V -> V -> Hp -> (Hp -> Prop) -> Prop := fun o i v H Q => ∃ p xs k j, o = .ref p /\ i = .int k /\ H p = some (.lst xs) /\ ixN xs.length k = some j /\ Q (upd H p (.lst (xs.set j v)))
theorem set_list : PSet X rSetL := by
 intro pins s σ H o i v ov iv u Q I ro ri rv h
 obtain ⟨p, xs, k, j, rfl, rfl, hp, hj, q⟩ := h
 cases ro
 obtain ⟨t, rfl⟩ := ri
 obtain ⟨its, n, r, ho, hz⟩ := I.lst hp
 obtain ⟨h1, h2, h3, h4⟩ := ixN_seq hj
 have hl := r.length
 have hn := line63
 have I' : Inv X pins σ (upd H p (.lst (xs.set j v))) { s with heap := s.heap.update p (Obj.mapSeq (·.setIfInBounds j u)) } :=
  I.lstUpd hp ho (mapSeq_set its n j u) (r.set rv j) (by rw [List.length_set]; exact hz) s.toks
 by_cases h0 : 0 <= k
 ·have hk : k.toNat = j := by
   rw [seqIndex_of h0 h4] at h1
   exact Option.some.inj h1
  exact PySem.W.ki_setAt ho h0 (by omega) (by rw [List.size_toArray, <- hl]; exact h4) (by rw [hk]; exact ⟨_, I', q⟩)
 ·have hk : (k + (its.toArray.size : Int)).toNat = j := by
   rw [seqIndex_neg (by omega) h3] at h1
   rw [List.size_toArray, <- hl]
   exact Option.some.inj h1
  exact PySem.W.ki_setBack ho (by omega) (by rw [List.size_toArray, <- hl]; exact h3) (by omega) (by rw [hk]; exact ⟨_, I', q⟩)
theorem slice_bounds (lo hi : Option Int) (n : Nat) : (sliceBounds lo hi none n).1 = ((HT.sIx n 0 lo : Nat) : Int) /\ (sliceBounds lo hi none n).2.1 = ((HT.sIx n n hi : Nat) : Int) /\ (sliceBounds lo hi none n).2.2 = 1 := by
 refine ⟨?_, ?_, rfl⟩
 ·cases lo with
  | none => simp [sliceBounds, HT.sIx]
  | some i =>
   simp only [sliceBounds, HT.sIx, Option.getD_none, show (1 : Int) > 0 by decide, if_true]
   by_cases h : i < 0
   ·simp only [h, if_true] <;> omega
   ·simp only [h, if_false] <;> omega
 ·cases hi with
  | none => simp [sliceBounds, HT.sIx]
  | some i =>
   simp only [sliceBounds, HT.sIx, Option.getD_none, show (1 : Int) > 0 by decide, if_true]
   by_cases h : i < 0
   ·simp only [h, if_true] <;> omega
   ·simp only [h, if_false] <;> omega
theorem slicePick_cut (its : List Value) (lo hi : Option Int) : slicePick its.toArray lo hi none = ((its.drop (HT.sIx its.length 0 lo)).take (HT.sIx its.length its.length hi - HT.sIx its.length 0 lo)).toArray := by
 obtain ⟨h1, h2, h3⟩ := slice_bounds lo hi its.toArray.size
 unfold slicePick
 rw [h1, h2, h3]
 simp only [sliceRange_one, pick_run, List.size_toArray] <;> rfl
def rSlL (K : PySem.W.Frag) : V -> Option Int -> Option Int -> Hp -> VK -> Prop := fun x lo hi H Q => ∃ a xs, x = .ref a /\ SqL K H a xs /\ ∀ p, H p = none -> Q (.ref p) (upd H p (.lst (cutV xs lo hi)))
theorem sl_list : SlR X (rSlL X.K) := by
 intro pins s σ H x v vl vu lo hi sl Q I rx hs pl pu h
 obtain ⟨a, xs, rfl, hx, q⟩ := h
 cases rx
 obtain ⟨its, r, ht, hz⟩ := I.list hx
 have hlen := r.length
 refine ⟨"list", _, slot_list_getitem.lookup, ht.isList.typeIs, ?_⟩
 refine wpAny_getItem_list_slice ht.isList hs pl pu .none (by simp) ?_ (by rw [List.size_toArray] <;> omega)
 rw [slicePick_cut, <- hlen]
 refine ⟨.ref s.heap.objs.size, _, I.laid (t' := s.toks) (o := .lst (cutV xs lo hi)) (fun b ob q => Heap.get?_push_of_some _ q) (Nat.le_refl _) ?_, rfl, q _ (I.hok.fresh (Nat.le_refl _))⟩
 exact ⟨Nat.le_trans (cutV_length xs lo hi) hz, _, 0, (r.drop (HT.sIx xs.length 0 lo)).take (HT.sIx xs.length xs.length hi - HT.sIx xs.length 0 lo), Heap.get?_push_size _ rfl⟩
def flatV : V -> Bool
 | .non => true
 | .bl _ => true
 | .int _ => true
 | .str _ => true
 | _ => false
def eqV : V -> V -> Bool
 | .non, .non => true
 | .bl a, .bl b => a == b
 | .bl a, .int b => (if a then 1 else 0) == b
 | .int a, .bl b => a == (if b then 1 else 0)
 | .int a, .int b => a == b
 | .str a, .str b => a == b
 | _, _ => false
theorem eqAt_V {A : Around} {s : Shared} {y x : V} {u v : Value} (ry : RelV y u) (rx : RelV x v) (fy : flatV y = true) (fx : flatV x = true) : SeqAt.EqAt A s u v (eqV y x) := by
 cases y with
 | non =>
  cases ry
  cases x with
  | non => cases rx; exact SeqAt.EqAt.same _
  | bl b => cases rx; exact SeqAt.EqAt.none_bool b
  | int b => obtain ⟨t, rfl⟩ := rx; exact SeqAt.EqAt.none_int b t
  | str b => obtain ⟨t, rfl⟩ := rx; exact SeqAt.EqAt.none_str b t
  | _ => exact absurd (show false = true from fx) Bool.false_ne_true
 | bl a =>
  cases ry
  cases x with
  | non => cases rx; exact SeqAt.EqAt.bool_none a
  | bl b => cases rx; exact SeqAt.EqAt.bool_bool a b
  | int b => obtain ⟨t, rfl⟩ := rx; exact SeqAt.EqAt.bool_int a b t
  | str b => obtain ⟨t, rfl⟩ := rx; exact SeqAt.EqAt.bool_str a b t
  | _ => exact absurd (show false = true from fx) Bool.false_ne_true
 | int a =>
  obtain ⟨t', rfl⟩ := ry
  cases x with
  | non => cases rx; exact SeqAt.EqAt.int_none a t'
  | bl b => cases rx; exact SeqAt.EqAt.int_bool a t' b
  | int b => obtain ⟨t, rfl⟩ := rx; exact SeqAt.EqAt.int_int a t' b t
  | str b => obtain ⟨t, rfl⟩ := rx; exact SeqAt.EqAt.int_str a t' b t
  | _ => exact absurd (show false = true from fx) Bool.false_ne_true
 | str a =>
  obtain ⟨t', rfl⟩ := ry
  cases x with
  | non => cases rx; exact SeqAt.EqAt.str_none a t'
  | bl b => cases rx; exact SeqAt.EqAt.str_bool a t' b
  | int b => obtain ⟨t, rfl⟩ := rx; exact SeqAt.EqAt.str_int a t' b t
  | str b => obtain ⟨t, rfl⟩ := rx; exact SeqAt.EqAt.str_str a t' b t
  | _ => exact absurd (show false = true from fx) Bool.false_ne_true
 | _ => exact absurd (show false = true from fy) Bool.false_ne_true
def eqU (x : V) (u : Value) : Bool := match u with
 | .none => eqV .non x
 | .bool b => eqV (.bl b) x
 | .int i _ => eqV (.int i) x
 | .str z _ => eqV (.str z) x
 | _ => false
theorem eqU_of {x y : V} {u : Value} (r : RelV y u) (f : flatV y = true) : eqU x u = eqV y x := by
 cases y with
 | non => cases r; rfl
 | bl b => cases r; rfl
 | int i => obtain ⟨t, rfl⟩ := r; rfl
 | str z => obtain ⟨t, rfl⟩ := r; rfl
 | _ => exact absurd (show false = true from f) Bool.false_ne_true
theorem any_eqU {x : V} : ∀ {xs : List V} {us : List Value}, Vals xs us -> xs.all flatV = true -> us.any (eqU x) = xs.any fun y => eqV y x
 | _, _, .nil, _ => rfl
 | y :: xs, u :: us, .cons r t, f => by
  rw [List.all_cons, Bool.and_eq_true] at f
  rw [List.any_cons, List.any_cons, eqU_of r f.1, any_eqU t f.2]
theorem mem_eqAt {A : Around} {s : Shared} {x : V} {v : Value} (rx : RelV x v) (fx : flatV x = true) : ∀ {xs : List V} {us : List Value}, Vals xs us -> xs.all flatV = true -> ∀ u ∈ us, SeqAt.EqAt A s u v (eqU x u)
 | _, _, .nil, _ => fun u hu => by cases hu
 | y :: xs, u :: us, .cons r t, f => fun u' hu => by
  rw [List.all_cons, Bool.and_eq_true] at f
  rcases List.mem_cons.mp hu with rfl | hu
  ·rw [eqU_of r f.1]; exact eqAt_V r rx f.1 fx
  ·exact mem_eqAt rx fx t f.2 u' hu
def inV (x : V) (xs : List V) : Bool := xs.any fun y => eqV y x
def rIn (K : PySem.W.Frag) (neg : Bool) : R2 := fun x y H Q => ∃ p xs, y = .ref p /\ (SqL K H p xs ∨ SqT K H p xs) /\ flatV x = true /\ xs.all flatV = true /\ Q (.bl (if neg then !inV x xs else inV x xs)) H
theorem op_in_seq : OpR X (compareOp .In) (rIn X.K false) := by
 intro pins s σ H x y v u Q I rx ry h
 obtain ⟨p, xs, rfl, hq, fx, fs, q⟩ := h
 cases ry
 rcases hq with hq | hq
 ·obtain ⟨its, r, pl, hz⟩ := I.list hq
  refine SeqAt.in_listAt (eqU x) pl.isList (fun w hw => mem_eqAt rx fx r fs w (by simpa using hw)) ⟨.bl _, H, I, rfl, ?_⟩
  rw [show its.toArray.any (eqU x) = its.any (eqU x) by simp, any_eqU r fs]
  exact q
 ·obtain ⟨its, r, pl, hz⟩ := I.tuple hq
  refine SeqAt.in_tupleAt (eqU x) pl (fun w hw => mem_eqAt rx fx r fs w (by simpa using hw)) ⟨.bl _, H, I, rfl, ?_⟩
  rw [show its.toArray.any (eqU x) = its.any (eqU x) by simp, any_eqU r fs]
  exact q
def tyV (K : PySem.W.Frag) (T : String) (x : V) (H : Hp) : Prop := match x with
 | .str _ => T = "str"
 | .int _ => T = "int"
 | .ref p => (T = "list" /\ ∃ xs, SqL K H p xs) ∨ (T = "tuple" /\ ∃ o, K.lookup p = some o /\ o.cls = .type "tuple" /\ o.dict = none) ∨
   (T = "dict" /\ ((∃ kvs, H p = some (.dK kvs)) ∨ ∃ kvs, H p = some (.dT kvs))) ∨ (T = "set" /\ ∃ S n, H p = some (.set S n))
 | _ => False
theorem tyV_is {pins : List (Addr × Obj)} {σ : St} {H : Hp} {s : Shared} {T : String} {x : V} {v : Value} (I : Inv X pins σ H s) (r : RelV x v) (ty : tyV X.K T x H) :
  s.TypeIs v T /\ ∀ a, v = .ref a -> ∃ ob, s.heap.get? a = some ob /\ ob.dict = none := by
 cases x with
 | str z =>
  obtain ⟨t, rfl⟩ := r
  cases (show T = "str" from ty)
  exact ⟨typeIs_str s z t, fun _ e => nomatch e⟩
 | int i =>
  obtain ⟨t, rfl⟩ := r
  cases (show T = "int" from ty)
  exact ⟨typeIs_int s i t, fun _ e => nomatch e⟩
 | ref p =>
  cases r
  rcases ty with ⟨rfl, xs, hq⟩ | ⟨rfl, o, hk, hc, hd⟩ | ⟨rfl, hk⟩ | ⟨rfl, S, n, hk⟩
  ·obtain ⟨its, _, pl, _⟩ := I.list hq
   refine ⟨pl.isList.typeIs, fun a e => ?_⟩
   cases e
   obtain ⟨o, n, e, c, hd, _⟩ := pl
   exact ⟨o, e, hd⟩
  ·refine ⟨⟨o, I.kIn p o hk, hc⟩, fun a e => ?_⟩
   cases e
   exact ⟨o, I.kIn _ o hk, hd⟩
  ·have z : ∃ o, s.heap.get? p = some o /\ o.ExactDict := by
    rcases hk with ⟨kvs, hk⟩ | ⟨kvs, hk⟩
    ·obtain ⟨_, _, _, _, o, _, _, e, ex, _⟩ := I.hok p _ hk
     exact ⟨o, e, ex⟩
    ·obtain ⟨_, _, _, _, o, _, _, e, ex, _⟩ := I.hok p _ hk
     exact ⟨o, e, ex⟩
   obtain ⟨o, e, ex⟩ := z
   refine ⟨⟨o, e, ex.1⟩, fun a e2 => ?_⟩
   cases e2
   exact ⟨o, e, ex.2.1⟩
  ·obtain ⟨o, _, _, _, e, ex, _⟩ := I.hok p _ hk
   refine ⟨⟨o, e, ex.1⟩, fun a e2 => ?_⟩
   cases e2
   exact ⟨o, e, ex.2.1⟩
 | _ => exact False.elim ty
def tBM (K : PySem.W.Frag) (T : String) (r : V -> List V -> Hp -> VK -> Prop) (to : TE) (t : TA) : TE := fun σ H Q => to σ H fun x H1 => tyV K T x H1 /\ t σ H1 fun xs H2 => r x xs H2 Q
variable {o e : Expr} {es : List Expr} {to : TE} {t : TA} {name : Str} {apos cpos : Pos} {T id : String} {r : V -> List V -> Hp -> VK -> Prop}
theorem pe_bm (pa : PlainAttrs T) (slot : Slot T name id) (hty : typeOf (.builtin id) = pure (.type "method_descriptor")) (hm : MtR X id r) (ho : PE X o to) (ha : PA X (e :: es) t)
  (hbase : attributeBase o name X.env (eval o X.env) = eval o X.env := by rfl)
  (hfew : ((backTo cpos (starEach (e :: es) X.env)).all (fun x => !x.1) && (backToKw cpos (keywordEach [] X.env)).all (fun x => x.1.isSome)
   && decide ((e :: es).length + ([] : List Keyword).length + (if ([] : List Keyword).isEmpty then 0 else 1) < 30)) = true := by rfl)
  (hline : (apos.endLine == cpos.line) = true := by rfl) (hs : starEach (e :: es) X.env = (false, eval e X.env) :: starEach es X.env := by rfl) (hplain : (backTo cpos (starEach es X.env)).any (·.1) = false := by rfl) :
  PE X (.Call (.Attribute o name apos) (e :: es) [] cpos) (tBM X.K T r to t) := by
 intro pins s σ H Q I h
 refine wpAny_Call_method_late hbase hfew hline rfl (thn (ho pins s σ H _ I h) fun v s1 ⟨x, H1, I1, r1, ty, q1⟩ => ?_)
 obtain ⟨h1, h2⟩ := tyV_is I1 r1 ty
 refine ⟨T, id, pa, slot, hty, h1, h2, ?_⟩
 have hA := ha cpos pins s1 σ H1 _ I1 q1
 rw [hs] at hA ⊢
 refine Calls.callWith_builtin (by show (false || (backTo cpos (starEach es X.env)).any (·.1)) = false; rw [hplain] <;> rfl) (Calls.evalArgs_plain ?_)
 exact thn hA fun us s2 ⟨vs, H2, I2, r2, q2⟩ => hm pins s2 σ H2 x vs v us Q I2 r1 r2 q2
end
def MtM (X : Cx) (id : String) (r : V -> List V -> Hp -> VK -> Prop) : Prop :=
 ∀ (pins : List (Addr × Obj)) (s : Shared) (σ : St) (H : Hp) (x : V) (xs : List V) (v : Value) (us : List Value) (Q : VK), Inv X pins σ H s -> RelV x v -> Vals xs us -> r x xs H Q ->
  wpAny (model X.prog X.w) X.A (call (.builtin id) (v :: us)) (EP X pins σ Q) X.xe s
theorem Vals.one : ∀ {x : V} {us : List Value}, Vals [x] us -> ∃ u, us = [u] /\ RelV x u
 | _, _, .cons r .nil => ⟨_, rfl, r⟩
theorem Vals.rep {xs : List V} {us : List Value} (h : Vals xs us) : ∀ k : Nat, Vals (List.replicate k xs).flatten (List.replicate k us).flatten
 | 0 => .nil
 | k + 1 => by
  rw [List.replicate_succ, List.replicate_succ, List.flatten_cons, List.flatten_cons]
  exact Vals.append h (Vals.rep h k)
theorem foldl_rep (its : List Value) : ∀ (k : Nat) (acc : List Value),
  List.foldl (fun x1 x2 => x1 ++ x2) acc.toArray (List.replicate k its.toArray) = (acc ++ (List.replicate k its).flatten).toArray
 | 0, acc => by simp
 | k + 1, acc => by
  have e : acc.toArray ++ its.toArray = (acc ++ its).toArray := by simp
  have e2 : (acc ++ its) ++ (List.replicate k its).flatten = acc ++ (List.replicate (k + 1) its).flatten := by
   rw [List.replicate_succ, List.flatten_cons, List.append_assoc]
  rw [<- e2, <- foldl_rep its k (acc ++ its), <- e, List.replicate_succ, List.foldl_cons]
section
variable {X : Cx} {pins : List (Addr × Obj)} {σ : St} {H : Hp} {s : Shared} {l b : Addr} {xs ys zs : List V}
theorem Inv.lset {its its' : List Value} {n : Nat} {f : Array Value -> Array Value} {t' : Nat} (I : Inv X pins σ H s) (hH : H l = some (.lst xs))
  (e : s.heap.get? l = some { cls := .type "list", data := .seq its.toArray n }) (hf : f its.toArray = its'.toArray) (hv : Vals ys its') (hz : ys.length <= sizeLine) :
  Inv X pins σ (upd H l (.lst ys)) { s with heap := s.heap.update l (Obj.mapSeq f), toks := t' } := by
 have q := PySem.IsL.update e f
 rw [hf] at q
 refine I.write (x := l) (e := l) (by rw [hH]; exact trivial) (.inl rfl) (fun b' u hb hu => (Heap.get?_update_other s.heap (Obj.mapSeq f) (Ne.symm hb)).trans hu) ⟨_, q⟩ ?_
 exact ⟨hz, its', _, hv, q⟩
theorem Inv.lnew {its : List Value} {t' : Nat} (I : Inv X pins σ H s) (hv : Vals ys its) (hz : ys.length <= sizeLine) :
  Inv X pins σ (upd H s.heap.objs.size (.lst ys)) { s with heap := s.heap.push { cls := .type "list", data := .seq its.toArray }, toks := t' } :=
 I.laid (fun _ _ q => Heap.get?_push_of_some _ q) (Nat.le_refl _) ⟨hz, its, 0, hv, Heap.get?_push_size _ rfl⟩
theorem Inv.fresh (I : Inv X pins σ H s) : H s.heap.objs.size = none := I.hok.fresh (Nat.le_refl _)
theorem Inv.lstM (I : Inv X pins σ H s) (hH : H l = some (.lst xs)) : xs.length <= sizeLine /\ ∃ (its : List Value) (n : Nat), Vals xs its /\ xs.length = its.length /\ s.heap.get? l = some { cls := .type "list", data := .seq its.toArray n } := by
 obtain ⟨z, its, n, r, e⟩ := I.hok l _ hH
 exact ⟨z, its, n, r, r.length, e⟩
theorem notLongL {n : Nat} (h : n <= sizeLine) : Builtin.List.listTooLong n = false := by
 unfold Builtin.List.listTooLong
 exact decide_eq_false (by omega)
end
section
variable {X : Cx}
def rAppend : V -> List V -> Hp -> VK -> Prop := fun x vs H Q => ∃ l xs y, x = .ref l /\ vs = [y] /\ H l = some (.lst xs) /\ xs.length < sizeLine /\ Q .non (upd H l (.lst (xs ++ [y])))
theorem mt_append : MtM X "list.append" rAppend := by
 intro pins s σ H x vs v us Q I rx rv h
 obtain ⟨l, xs, y, rfl, rfl, hH, hz, q⟩ := h
 cases rx
 obtain ⟨u, rfl, ru⟩ := rv.one
 obtain ⟨z, its, n, r, hl, e⟩ := I.lstM hH
 refine call_meets F.slot_list_append ⟨_, e, rfl⟩ F.entry_list_append (F.args_list_append_2 _ _) (PySem.list_append l its.toArray n u (by rw [List.size_toArray]; omega)) ⟨e, ?_⟩
 refine ⟨.non, _, I.lset (its' := its ++ [u]) hH e (by simp) (r.append (.cons ru .nil)) ?_, rfl, q⟩
 rw [List.length_append, List.length_singleton]
 omega
def rExtend : V -> List V -> Hp -> VK -> Prop := fun x vs H Q => ∃ l b xs zs, x = .ref l /\ vs = [.ref b] /\ H l = some (.lst xs) /\ H b = some (.lst zs) /\ xs.length + zs.length <= sizeLine /\ Q .non (upd H l (.lst (xs ++ zs)))
theorem mt_extend : MtM X "list.extend" rExtend := by
 intro pins s σ H x vs v us Q I rx rv h
 obtain ⟨l, b, xs, zs, rfl, rfl, hH, hB, hz, q⟩ := h
 cases rx
 obtain ⟨u, rfl, ru⟩ := rv.one
 cases ru
 obtain ⟨z, its, n, r, hl, e⟩ := I.lstM hH
 obtain ⟨z2, its2, n2, r2, hl2, e2⟩ := I.lstM hB
 have hsz : its.toArray.size + its2.toArray.size <= sizeLine := by rw [List.size_toArray, List.size_toArray]; omega
 have hlong : ¬ (!its.toArray.isEmpty && Builtin.List.listTooLong (its.toArray.size + its2.toArray.size)) = true := by
  rw [notLongL hsz, Bool.and_false]
  exact Bool.false_ne_true
 refine call_meets F.slot_list_extend ⟨_, e, rfl⟩ F.entry_list_extend (F.args_list_extend_2 _ _)
  (AutoSeq1.list_extend_list_list_0 l its.toArray n b its2.toArray n2 hlong (by rw [List.size_toArray]; omega) (by omega)) ⟨e, e2, ?_⟩
 refine ⟨.non, _, I.lset (its' := its ++ its2) hH e (by simp) (r.append r2) ?_, rfl, q⟩
 rw [List.length_append]
 omega
def rCat : R2 := fun x y H Q => ∃ l b xs zs, x = .ref l /\ y = .ref b /\ H l = some (.lst xs) /\ H b = some (.lst zs) /\ xs.length + zs.length <= sizeLine /\ ∀ p, H p = none -> Q (.ref p) (upd H p (.lst (xs ++ zs)))
theorem op_cat : OpR X (binaryOp .Add) rCat := by
 intro pins s σ H x y v u Q I rx ry h
 obtain ⟨l, b, xs, zs, rfl, rfl, hH, hB, hz, q⟩ := h
 cases rx
 cases ry
 obtain ⟨z, its, n, r, hl, e⟩ := I.lstM hH
 obtain ⟨z2, its2, n2, r2, hl2, e2⟩ := I.lstM hB
 refine PySem.P.add_list e e2 ?_ (by rw [List.size_toArray, List.size_toArray]; omega)
 have ea : its.toArray ++ its2.toArray = (its ++ its2).toArray := by simp
 rw [ea]
 exact ⟨.ref _, _, I.lnew (t' := s.toks) (r.append r2) (by rw [List.length_append]; omega), rfl, q _ I.fresh⟩
def rRep : R2 := fun x y H Q => ∃ l k xs, x = .ref l /\ y = .int k /\ H l = some (.lst xs) /\ -(2 ^ 63) <= k /\ k < 2 ^ 63 /\ xs.length * k.toNat <= sizeLine /\
 ∀ p, H p = none -> Q (.ref p) (upd H p (.lst (List.replicate k.toNat xs).flatten))
theorem len_rep {α : Type} (xs : List α) (k : Nat) : (List.replicate k xs).flatten.length = k * xs.length := by
 induction k with
 | zero => simp
 | succ k ih => rw [List.replicate_succ, List.flatten_cons, List.length_append, ih, Nat.succ_mul, Nat.add_comm]
theorem op_rep : OpR X (binaryOp .Mult) rRep := by
 intro pins s σ H x y v u Q I rx ry h
 obtain ⟨l, k, xs, rfl, rfl, hH, h1, h2, hz, q⟩ := h
 cases rx
 obtain ⟨t, rfl⟩ := ry
 obtain ⟨z, its, n, r, hl, e⟩ := I.lstM hH
 have hlen : its.toArray.size * k.toNat <= sizeLine := by rw [List.size_toArray, <- hl]; exact hz
 have hcap : ¬ its.toArray.size * k.toNat > (2 ^ 63 - 1) / 8 := by
  have : (sizeLine : Nat) <= (2 ^ 63 - 1) / 8 := by decide
  omega
 have hfit : ¬ (!Builtin.List.listFitsIndex k) = true := by
  rw [fitsIndex_both h1 h2]
  exact Bool.false_ne_true
 have hlong : ¬ Builtin.List.listTooLong (its.toArray.size * k.toNat) = true := by
  rw [notLongL hlen]
  exact Bool.false_ne_true
 have hnew : List.foldl (fun x1 x2 => x1 ++ x2) #[] (List.replicate (if its.toArray.isEmpty = true then 0 else k.toNat) its.toArray) = (List.replicate k.toNat its).flatten.toArray := by
  have f0 : ∀ m : Nat, List.foldl (fun x1 x2 => x1 ++ x2) #[] (List.replicate m its.toArray) = (List.replicate m its).flatten.toArray := fun m => by
   have := foldl_rep its m []
   rw [List.nil_append] at this
   exact this
  rw [f0]
  cases its with
  | nil => simp
  | cons a r' => rw [if_neg (by simp)]
 refine wpAny_binaryOp_repeat_ref (T := "list") (U := "int") (by decide) ⟨_, e, rfl⟩ (fun s' => typeIs_int s' k t) noFill_list_mul F.fills_int_mul F.slot_int_rmul repeat_list F.slot_int_index.lookup
  (call_meets F.slot_int_rmul (typeIs_int s k t) F.entry_int_rmul (F.args_int_rmul_2 _ _) (int___rmul___int_list k t l its.toArray n)
   ⟨e, rfl, ⟨_, e, rfl⟩, call_meets F.slot_list_mul ⟨_, e, rfl⟩ F.entry_list_mul (F.args_list_mul_2 _ _) (AutoListH.list___mul___list_int_3 l its.toArray n k t hfit hcap hlong) ⟨e, ?_⟩⟩)
 rw [hnew]
 exact ⟨.ref _, _, I.lnew (t' := s.toks) (r.rep k.toNat) (by rw [len_rep, Nat.mul_comm]; exact hz), rfl, q _ I.fresh⟩
end
section
variable {prog : Program} {w : World} {A : Around} {E : Value -> Shared -> Prop} {s : Shared}
set_option maxRecDepth 100000 in
end
section
variable {X : Cx}
end
theorem Vals.ints : ∀ {ns : List Int} {us : List Value}, Vals (ns.map V.int) us -> IntsAre us ns
 | [], us, h => by
  rw [List.map_nil] at h
  cases h
  exact IntsAre.nil
 | n :: ns, us, h => by
  rw [List.map_cons] at h
  cases h with
  | cons r t =>
   obtain ⟨k, rfl⟩ := r
   exact IntsAre.cons n k (Vals.ints t)
theorem Vals.bls : ∀ {bs : List Bool} {us : List Value}, Vals (bs.map V.bl) us -> us = bs.map Value.bool
 | [], us, h => by
  rw [List.map_nil] at h
  cases h
  rfl
 | b :: bs, us, h => by
  rw [List.map_cons] at h
  cases h with
  | cons r t =>
   cases r
   rw [Vals.bls t, List.map_cons]
theorem Vals.ref1 {a : Addr} {us : List Value} (r : Vals [V.ref a] us) : us = [Value.ref a] := by
 cases r with
 | cons r t =>
  cases t
  cases r
  rfl
section
variable {prog : Program} {w : World} {A : Around} {E : Value -> Shared -> Prop} {s : Shared} {l : Addr} {its : List Value} {ns : List Int} {Q : Value -> Shared -> Prop}
end
section
variable {X : Cx}
end
section
variable {X : Cx}
end
section
variable {X : Cx}
end
theorem iter_any {prog : Program} {w : World} {A : Around} {E : Value -> Shared -> Prop} {s : Shared} {l : Addr} {items : Array Value} {Q : Value -> Shared -> Prop} (hl : s.heap.IsList l items)
  (h : ∀ s₂ : Shared, s₂ = { s with heap := s.heap.push { cls := .type "list_iterator", data := .fields #[.ref l, .int 0 0] } } ->
   (s₂.heap.IsListIter s.heap.objs.size l 0 /\ s₂.heap.IsList l items) -> l ≠ s.heap.objs.size -> Q (.ref s.heap.objs.size) s₂) : wpAny (model prog w) A (pyIter (.ref l)) Q E s := by
 have hlt : l < s.heap.objs.size := by obtain ⟨_, e, _⟩ := hl; exact Heap.lt_size e
 exact wpAny_pyIter_list hl (h _ rfl ⟨⟨_, Heap.get?_push_size _ rfl, rfl, rfl⟩, hl.push _⟩ (Nat.ne_of_lt hlt))
theorem truth_bools {prog : Program} {w : World} {A : Around} {bs : List Bool} {its : List Value} (e : its = bs.map Value.bool) :
  TruthOf prog w A (fun i v => its.toArray[i]? = some v) (fun i => bs.getD i false) := fun i v s Q E hv hq => by
 have hv' : its[i]? = some v := by simpa using hv
 rw [e, List.getElem?_map] at hv'
 obtain ⟨b, hb, rfl⟩ := Option.map_eq_some_iff.mp hv'
 have hg : bs.getD i false = b := by rw [List.getD_eq_getElem?_getD, hb] <;> rfl
 have hq' : Q (bs.getD i false) s := hq
 rw [hg] at hq'
 exact wpAny_truthy_bool hq'
theorem any_range : ∀ bs : List Bool, (List.range bs.length).any (fun i => bs.getD i false) = bs.any id
 | [] => rfl
 | b :: bs => by
  rw [List.length_cons, List.range_succ_eq_map, List.any_cons, List.any_map, List.any_cons, <- any_range bs]
  all_goals rfl
section
variable {X : Cx}
def rAny (K : PySem.W.Frag) : List V -> Hp -> VK -> Prop := fun vs H Q => ∃ (a : Addr) (bs : List Bool), vs = [V.ref a] /\ SqL K H a (bs.map V.bl) /\ Q (.bl (bs.any id)) H
theorem cr_any (hc : X.calm = true) : CallR X (.builtin "any") (rAny X.K) := by
 intro pins s σ H vs us Q I r h
 obtain ⟨a, bs, rfl, hs, q⟩ := h
 obtain ⟨its, rv, hl, _⟩ := I.list hs
 rw [Vals.ref1 r]
 have hb := rv.bls
 refine call_any_walk (iter_any hl.isList fun s₂ e2 st hne => ?_)
 subst e2
 refine ⟨_, _, _, _, _, _, _, rfl, Walks.list (A := X.A.in1) (I.ok.hd hc) _ a hne its.toArray, st, truth_bools hb, fun h' tk hk => ?_⟩
 refine ⟨.bl _, H, I.kept fun b o eo => hk b o (fun hmem => ?_) (Heap.get?_push_of_some _ eo), ?_, q⟩
 ·rcases List.mem_cons.mp hmem with e1 | hmem
  ·exact absurd (e1 ▸ Heap.lt_size eo) (Nat.lt_irrefl _)
  ·cases hmem
 ·show Value.bool _ = Value.bool _
  rw [<- any_range, hb, List.size_toArray, List.length_map]
end
mutual
inductive Dp (K : PySem.W.Frag) (H : Hp) : V -> PyData -> Prop
 | non : Dp K H .non .none
 | bl (b : Bool) : Dp K H (.bl b) (.bool b)
 | int (i : Int) : Dp K H (.int i) (.int i)
 | str (x : Str) : Dp K H (.str x) (.str x)
 | lst {a : Addr} {xs : List V} {ds : List PyData} : SqL K H a xs -> DpAll K H xs ds -> Dp K H (.ref a) (.list ds)
 | tup {a : Addr} {xs : List V} {ds : List PyData} : SqT K H a xs -> DpAll K H xs ds -> Dp K H (.ref a) (.tuple ds)
inductive DpAll (K : PySem.W.Frag) (H : Hp) : List V -> List PyData -> Prop
 | nil : DpAll K H [] []
 | cons {v : V} {vs : List V} {d : PyData} {ds : List PyData} : Dp K H v d -> DpAll K H vs ds -> DpAll K H (v :: vs) (d :: ds)
end
section
variable {X : Cx} {pins : List (Addr × Obj)} {σ : St} {H : Hp} {s : Shared}
mutual
theorem Dp.reads (I : Inv X pins σ H s) : ∀ (d : PyData) (v : V) (u : Value), Dp X.K H v d -> RelV v u -> ∃ as, Reads s.heap u d as
 | .none, _, _, h, r => by
  cases h
  cases r
  exact ⟨_, Reads.none⟩
 | .bool b, _, _, h, r => by
  cases h
  cases r
  exact ⟨_, Reads.bool b⟩
 | .int i, _, _, h, r => by
  cases h
  obtain ⟨t, rfl⟩ := r
  exact ⟨_, Reads.int i t⟩
 | .str x, _, _, h, r => by
  cases h
  obtain ⟨t, rfl⟩ := r
  exact ⟨_, Reads.str x t⟩
 | .list ds, _, _, h, r => by
  cases h with
  | lst hs ha =>
   cases r
   obtain ⟨its, rv, ⟨o, n, ho, hc, _, hd⟩, _⟩ := I.list hs
   obtain ⟨as, hr⟩ := Dp.readsAll I ds _ its ha rv
   exact ⟨_, Reads.list ho hc hd hr⟩
 | .tuple ds, _, _, h, r => by
  cases h with
  | tup hs ha =>
   cases r
   obtain ⟨its, rv, ⟨o, ho, hc, n, hd⟩, _⟩ := I.tuple hs
   obtain ⟨as, hr⟩ := Dp.readsAll I ds _ its ha rv
   exact ⟨_, Reads.tuple ho hc hd hr⟩
 | .dict _, _, _, h, _ => by cases h
theorem Dp.readsAll (I : Inv X pins σ H s) : ∀ (ds : List PyData) (vs : List V) (us : List Value), DpAll X.K H vs ds -> Vals vs us -> ∃ as, ReadsAll s.heap us ds as
 | [], _, _, h, r => by
  cases h
  cases r
  exact ⟨_, ReadsAll.nil⟩
 | d :: ds, _, _, h, r => by
  cases h with
  | cons h1 h2 =>
   cases r with
   | cons r1 r2 =>
    obtain ⟨as, q1⟩ := Dp.reads I d _ _ h1 r1
    obtain ⟨bs, q2⟩ := Dp.readsAll I ds _ _ h2 r2
    exact ⟨_, ReadsAll.cons q1 q2⟩
end
end
section
variable {X : Cx}
def rEqD (K : PySem.W.Frag) : R2 := fun x y H Q => ∃ d e, Dp K H x d /\ Dp K H y e /\ SeqAt.shaped d = true /\ SeqAt.shaped e = true /\ Q (.bl (PyData.eqv d e)) H
def rNeD (K : PySem.W.Frag) : R2 := fun x y H Q => ∃ d e, Dp K H x d /\ Dp K H y e /\ SeqAt.shaped d = true /\ SeqAt.shaped e = true /\ Q (.bl (!PyData.eqv d e)) H
theorem op_eqD (hu : X.A.units + 64 < cLine) : OpR X (compareOp .Eq) (rEqD X.K) := by
 intro pins s σ H x y v u Q I rx ry h
 obtain ⟨d, e, hd, he, sd, se, q⟩ := h
 obtain ⟨as, r1⟩ := Dp.reads I d x v hd rx
 obtain ⟨bs, r2⟩ := Dp.reads I e y u he ry
 exact SeqAt.compareEq_shaped r1 r2 sd se hu ⟨.bl _, H, I, rfl, q⟩
theorem op_neD (hu : X.A.units + 64 < cLine) : OpR X (compareOp .NotEq) (rNeD X.K) := by
 intro pins s σ H x y v u Q I rx ry h
 obtain ⟨d, e, hd, he, sd, se, q⟩ := h
 obtain ⟨as, r1⟩ := Dp.reads I d x v hd rx
 obtain ⟨bs, r2⟩ := Dp.reads I e y u he ry
 exact SeqAt.compareNe_shaped r1 r2 sd se hu ⟨.bl _, H, I, rfl, q⟩
end
abbrev CellAt (h : Heap) (c : Addr) (v : Option Value) : Prop := h.IsCell c v
def relS (scope sc : Scope) : Scope :=
 { scope with names := scope.names.map fun (n, k) => if (k == .free && sc.kind == .function && sc.names.lookup n == some .cell) then (n, .cell) else (n, k) }
def cloFrom (cells : List (Str × Addr)) : List (Str × NameKind) -> List (Str × Addr) -> List (Str × Addr)
 | [], acc => acc
 | (n, k) :: r, acc => if k == .free then cloFrom cells r ((n, (cells.lookup n).getD 0) :: acc) else cloFrom cells r acc
theorem closure_loop (env : Env) (f : Str × NameKind -> List (Str × Addr) -> Sem (ForInStep (List (Str × Addr))))
  (hf : ∀ n k c, f (n, k) c = if k == .free then (do let a <- cellOf env n; pure (.yield ((n, a) :: c))) else pure (.yield c)) :
  ∀ (names : List (Str × NameKind)) (acc : List (Str × Addr)), (∀ y ∈ names, y.2 = .free -> ∃ c, env.cells.lookup y.1 = some c) -> forIn names acc f = pure (cloFrom env.cells names acc)
 | [], acc, _ => by rw [List.forIn_nil]; rfl
 | (n, k) :: r, acc, h => by
  rw [List.forIn_cons, hf]
  have ih := fun acc => closure_loop env f hf r acc fun y hy => h y (List.mem_cons_of_mem _ hy)
  unfold cloFrom
  by_cases hk : (k == NameKind.free) = true
  ·rw [if_pos hk, if_pos hk]
   obtain ⟨c, hc⟩ := h (n, k) List.mem_cons_self (by simpa using hk)
   have e : cellOf env n = pure c := by unfold cellOf; rw [hc]
   rw [e]
   have e2 : (env.cells.lookup n).getD 0 = c := by rw [hc]; rfl
   rw [e2]
   exact ih _
  ·rw [if_neg hk, if_neg hk]
   exact ih _
theorem closure_ok {scope : Scope} {env : Env} (h : ∀ y ∈ scope.names, y.2 = .free -> ∃ c, env.cells.lookup y.1 = some c) : closureFor scope env = pure (cloFrom env.cells scope.names []) := by
 simp only [closureFor]
 rw [closure_loop env _ (fun n k c => rfl) scope.names [] h]
 rfl
theorem mem_lookup {α : Type} : ∀ {l : List (Str × α)} {n : Str} {c : α}, (n, c) ∈ l -> ∃ c', l.lookup n = some c'
 | (k, v) :: r, n, c, h => by
  rw [List.lookup_cons]
  cases hb : n == k with
  | true => exact ⟨_, rfl⟩
  | false =>
   rcases List.mem_cons.mp h with e | h
   ·cases e; simp at hb
   ·exact mem_lookup h
theorem cloFrom_mem {cells : List (Str × Addr)} : ∀ {names : List (Str × NameKind)} {acc : List (Str × Addr)} {n : Str} {c : Addr}, (n, c) ∈ cloFrom cells names acc -> (n, c) ∈ acc ∨ ((n, .free) ∈ names /\ c = (cells.lookup n).getD 0)
 | [], _, _, _, h => .inl h
 | (m, k) :: r, acc, n, c, h => by
  unfold cloFrom at h
  split at h
  ·rename_i hk
   have hk : k = .free := by simpa using hk
   rcases cloFrom_mem h with h | ⟨h1, h2⟩
   ·rcases List.mem_cons.mp h with e | h
    ·cases e; exact .inr ⟨hk ▸ List.mem_cons_self, rfl⟩
    ·exact .inl h
   ·exact .inr ⟨List.mem_cons_of_mem _ h1, h2⟩
  ·rcases cloFrom_mem h with h | ⟨h1, h2⟩
   ·exact .inl h
   ·exact .inr ⟨List.mem_cons_of_mem _ h1, h2⟩
theorem cloFrom_acc {cells : List (Str × Addr)} : ∀ {names : List (Str × NameKind)} {acc : List (Str × Addr)} {p : Str × Addr}, p ∈ acc -> p ∈ cloFrom cells names acc
 | [], _, _, h => h
 | (m, k) :: r, acc, p, h => by
  unfold cloFrom
  split
  ·exact cloFrom_acc (List.mem_cons_of_mem _ h)
  ·exact cloFrom_acc h
theorem cloFrom_has {cells : List (Str × Addr)} : ∀ {names : List (Str × NameKind)} {acc : List (Str × Addr)} {n : Str}, (n, .free) ∈ names -> (n, (cells.lookup n).getD 0) ∈ cloFrom cells names acc
 | (m, k) :: r, acc, n, h => by
  unfold cloFrom
  rcases List.mem_cons.mp h with e | h
  ·cases e
   exact cloFrom_acc List.mem_cons_self
  ·split
   ·exact cloFrom_has h
   ·exact cloFrom_has h
theorem cells_mem : ∀ {names : List (Str × NameKind)} {h : Heap} {acc : List (Str × Addr)} {x : Str} {c : Addr}, (x, c) ∈ cellsFrom h.objs.size names acc ->
  (x, c) ∈ acc ∨ ((x, .cell) ∈ names /\ h.objs.size <= c /\ CellAt (pushCells h names) c none)
 | [], _, _, _, _, h => .inl h
 | (n, k) :: r, h, acc, x, c, hm => by
  unfold cellsFrom at hm
  unfold pushCells
  split at hm
  ·rename_i hk
   rw [if_pos hk]
   have hk : k = .cell := by simpa using hk
   rw [<- Heap.size_push h { cls := .type "cell", data := .cell none }] at hm
   rcases cells_mem hm with hm | ⟨h1, h2, h3⟩
   ·rcases List.mem_cons.mp hm with e | hm
    ·cases e
     exact .inr ⟨hk ▸ List.mem_cons_self, Nat.le_refl _, _, pushCells_keeps r _ _ _ (Heap.get?_push_size _ rfl), rfl⟩
    ·exact .inl hm
   ·rw [Heap.size_push] at h2
    exact .inr ⟨List.mem_cons_of_mem _ h1, Nat.le_of_succ_le h2, h3⟩
  ·rename_i hk
   rw [if_neg hk]
   rcases cells_mem hm with hm | ⟨h1, h2, h3⟩
   ·exact .inl hm
   ·exact .inr ⟨List.mem_cons_of_mem _ h1, h2, h3⟩
theorem cells_acc : ∀ {names : List (Str × NameKind)} {n : Nat} {acc : List (Str × Addr)} {p : Str × Addr}, p ∈ acc -> p ∈ cellsFrom n names acc
 | [], _, _, _, h => h
 | (m, k) :: r, n, acc, p, h => by
  unfold cellsFrom
  split
  ·exact cells_acc (List.mem_cons_of_mem _ h)
  ·exact cells_acc h
theorem cells_has : ∀ {names : List (Str × NameKind)} {n : Nat} {acc : List (Str × Addr)} {x : Str}, (x, .cell) ∈ names -> ∃ c, (x, c) ∈ cellsFrom n names acc
 | (m, k) :: r, n, acc, x, h => by
  unfold cellsFrom
  rcases List.mem_cons.mp h with e | h
  ·cases e
   exact ⟨n, cells_acc List.mem_cons_self⟩
  ·split
   ·exact cells_has h
   ·exact cells_has h
theorem cells_inj : ∀ {names : List (Str × NameKind)} {h : Heap} {acc : List (Str × Addr)} {x y : Str} {c : Addr}, (∀ p ∈ acc, p.2 < h.objs.size) -> (∀ x y c, (x, c) ∈ acc -> (y, c) ∈ acc -> x = y) ->
  (x, c) ∈ cellsFrom h.objs.size names acc -> (y, c) ∈ cellsFrom h.objs.size names acc -> x = y
 | [], _, _, _, _, _, _, hi, h1, h2 => hi _ _ _ h1 h2
 | (n, k) :: r, h, acc, x, y, c, hl, hi, h1, h2 => by
  unfold cellsFrom at h1 h2
  split at h1
  ·rename_i hk
   rw [if_pos hk] at h2
   rw [<- Heap.size_push h { cls := .type "cell", data := .cell none }] at h1 h2
   refine cells_inj (h := h.push _) (fun p hp => ?_) (fun x y c a b => ?_) h1 h2
   ·rw [Heap.size_push]
    rcases List.mem_cons.mp hp with rfl | hp
    ·exact Nat.lt_succ_self _
    ·exact Nat.lt_succ_of_lt (hl p hp)
   ·rcases List.mem_cons.mp a with e | a <;> rcases List.mem_cons.mp b with e' | b
    ·cases e; cases e'; rfl
    ·cases e; exact absurd (hl _ b) (Nat.lt_irrefl _)
    ·cases e'; exact absurd (hl _ a) (Nat.lt_irrefl _)
    ·exact hi _ _ _ a b
  ·rename_i hk
   rw [if_neg hk] at h2
   exact cells_inj hl hi h1 h2
theorem newEnv_comp {M : Model} {A : Around} {E : Value -> Shared -> Prop} {s : Shared} {scope : Scope} {globals : Addr} {closure : List (Str × Addr)} {qual : Str} {func : Option Addr} {code : Value} {around : Env} {builtins : Addr} {Q : Env -> Shared -> Prop}
  (h : Q (newEnv scope s.heap.objs.size globals (cellsFrom (s.heap.objs.size + 1) scope.names closure) qual func code (some around) builtins)
   { s with heap := pushCells (s.heap.push { cls := .type "dict", data := .dict #[] }) scope.names }) :
  wpAny M A (newFunctionEnv scope globals closure [] qual func code (some around) builtins) Q E s := by
 simp only [newFunctionEnv, Option.isSome_some, if_true]
 refine wpAny_bind (wpAny_alloc ?_)
 refine wpAny_bind (wpAny_layCells _ (fun n k c => rfl) scope.names closure _ _ ?_)
 rw [show ({ s with heap := s.heap.push { cls := .type "dict", data := .dict #[] } } : Shared).heap.objs.size = s.heap.objs.size + 1 from Heap.size_push ..]
 rw [List.forIn_nil]
 exact wpAny_bind (wpAny_pure (wpAny_pure h))
theorem lookup_relS {sc : Scope} : ∀ {names : List (Str × NameKind)} {x : Str} {k : NameKind},
  (names.map fun (n, k) => if (k == NameKind.free && sc.kind == .function && sc.names.lookup n == some .cell) then (n, NameKind.cell) else (n, k)).lookup x = some k ->
  ∃ k', names.lookup x = some k' /\ (k = k' ∨ (k' = .free /\ k = .cell))
 | [], _, _, h => by simp at h
 | (n, k₀) :: r, x, k, h => by
  have ih := @lookup_relS sc r x k
  have h' : List.lookup x ((if (k₀ == NameKind.free && sc.kind == .function && sc.names.lookup n == some .cell) = true then (n, NameKind.cell) else (n, k₀)) :: (r.map _)) = some k := h
  cases hx : x == n with
  | true =>
   simp only [List.lookup_cons, hx]
   by_cases hc : (k₀ == NameKind.free && sc.kind == .function && sc.names.lookup n == some .cell) = true
   ·rw [if_pos hc] at h'
    simp only [List.lookup_cons, hx] at h'
    cases h'
    simp only [Bool.and_eq_true, beq_iff_eq] at hc
    exact ⟨k₀, rfl, .inr ⟨hc.1.1, rfl⟩⟩
   ·rw [if_neg hc] at h'
    simp only [List.lookup_cons, hx] at h'
    cases h'
    exact ⟨_, rfl, .inl rfl⟩
  | false =>
   simp only [List.lookup_cons, hx]
   by_cases hc : (k₀ == NameKind.free && sc.kind == .function && sc.names.lookup n == some .cell) = true
   ·rw [if_pos hc] at h'
    simp only [List.lookup_cons, hx] at h'
    exact ih h'
   ·rw [if_neg hc] at h'
    simp only [List.lookup_cons, hx] at h'
    exact ih h'
structure BlkOk (N : List Str) (sc scope : Scope) (own : List (Str × Nat)) : Prop where
 kind : scope.kind = .function
 uniq : ∀ y ∈ scope.names, scope.names.lookup y.1 = some y.2
 ix : ∀ p ∈ own, N[p.2]? = some p.1
 free : ∀ y ∈ scope.names, y.2 = .free -> sc.names.lookup y.1 = some .cell ∨ sc.names.lookup y.1 = some .free
 own : ∀ y ∈ scope.names, y.2 = .local ∨ y.2 = .cell -> y.1 ∈ own.map (·.1) ∨ y.1 ∉ N
def wipe (σ : St) : List Nat -> St
 | [] => σ
 | v :: vs => (wipe σ vs).set v none
theorem wipe_length (σ : St) : ∀ vs : List Nat, (wipe σ vs).length = σ.length
 | [] => rfl
 | v :: vs => by unfold wipe; rw [List.length_set, wipe_length σ vs]
theorem wipe_some {σ : St} {i : Nat} {x : V} : ∀ {vs : List Nat}, (wipe σ vs)[i]? = some (some x) -> σ[i]? = some (some x) /\ i ∉ vs
 | [], h => ⟨h, by simp⟩
 | v :: vs, h => by
  unfold wipe at h
  by_cases hi : v = i
  ·subst hi
   by_cases hv : v < (wipe σ vs).length
   ·rw [List.getElem?_set_self hv] at h; cases h
   ·rw [List.getElem?_eq_none (by simpa using hv)] at h; cases h
  ·rw [List.getElem?_set_ne hi] at h
   obtain ⟨h1, h2⟩ := wipe_some h
   exact ⟨h1, by simp only [List.mem_cons, not_or]; exact ⟨fun e => hi e.symm, h2⟩⟩
abbrev Cx.blk (X : Cx) (s : Shared) (H : Hp) (scope : Scope) (cenv : Env) (fp : List Addr) : Cx := { X with s_0 := s, H_0 := H, env := cenv, outer := X.stack, ex := fp, fn := fun x => scope.names.lookup x == some .cell, pn := [], xe := fun _ _ => False }
section
variable {X : Cx} {pins : List (Addr × Obj)} {σ : St} {H : Hp} {s : Shared}
theorem block_start {scope : Scope} {own : List (Str × Nat)} {fp : List Addr} (I : Inv X pins σ H s) (ok : BlkOk X.N X.env.scope scope own) (hN : X.N.Nodup) (hfp : ∀ b ∈ fp, FpOk X pins H b /\ b < s.heap.objs.size) :
  Inv (X.blk s H scope (compEnvC scope (cellsFrom (s.heap.objs.size + 1) scope.names (cloFrom X.env.cells scope.names [])) s.heap.objs.size X.env) fp) [] (wipe σ (own.map (·.2))) H { s with heap := pushCells (s.heap.push { cls := .type "dict", data := .dict #[] }) scope.names } := by
 have hfree : ∀ y ∈ scope.names, y.2 = .free -> ∃ c, X.env.cells.lookup y.1 = some c := fun y hy e => by
  rcases ok.free y hy e with k | k
  ·exact I.ok.has _ (.inl k)
  ·exact I.ok.has _ (.inr k)
 generalize hcenv : compEnvC scope (cellsFrom (s.heap.objs.size + 1) scope.names (cloFrom X.env.cells scope.names [])) s.heap.objs.size X.env = cenv
 have kp : ∀ b o, s.heap.get? b = some o -> (pushCells (s.heap.push { cls := .type "dict", data := .dict #[] }) scope.names).get? b = some o := fun b o e => pushCells_keeps _ _ _ _ (Heap.get?_push_of_some _ e)
 have hL : cenv.locals = s.heap.objs.size := by rw [<- hcenv]; rfl
 have hcl : cenv.cells = cellsFrom (s.heap.objs.size + 1) scope.names (cloFrom X.env.cells scope.names []) := by rw [<- hcenv]; rfl
 have hsc : cenv.scope = relS scope X.env.scope := by rw [<- hcenv]; rfl
 rw [<- Heap.size_push s.heap { cls := .type "dict", data := .dict #[] }] at hcl
 have cm : ∀ {y c}, (y, c) ∈ cloFrom X.env.cells scope.names [] -> X.env.cells.lookup y = some c /\ c < s.heap.objs.size := fun {y c} hm => by
  rcases cloFrom_mem hm with hm | ⟨h1, rfl⟩
  ·cases hm
  ·obtain ⟨c, hc⟩ := hfree _ h1 rfl
   rw [hc]
   obtain ⟨w, z⟩ := I.cell _ _ hc
   exact ⟨rfl, z.lt⟩
 have mem : ∀ {y c}, cenv.cells.lookup y = some c -> (X.env.cells.lookup y = some c /\ c < s.heap.objs.size) ∨ (s.heap.objs.size + 1 <= c /\ CellAt (pushCells (s.heap.push { cls := .type "dict", data := .dict #[] }) scope.names) c none) := fun {y c} e => by
  rw [hcl] at e
  rcases cells_mem (PySem.mem_of_lookup e) with hm | ⟨_, h2, h3⟩
  ·exact .inl (cm hm)
  ·rw [Heap.size_push] at h2; exact .inr ⟨h2, h3⟩
 have look : ∀ {y}, scope.names.lookup y = some .free -> ∃ c, cenv.cells.lookup y = some c /\ X.env.cells.lookup y = some c := fun {y} hl => by
  have hy : (y, NameKind.free) ∈ scope.names := PySem.mem_of_lookup hl
  obtain ⟨c', e'⟩ := mem_lookup (cells_acc (names := scope.names) (n := (s.heap.push { cls := .type "dict", data := .dict #[] }).objs.size) (cloFrom_has (cells := X.env.cells) (acc := []) hy))
  rw [<- hcl] at e'
  refine ⟨c', e', ?_⟩
  rw [hcl] at e'
  rcases cells_mem (PySem.mem_of_lookup e') with hm | ⟨h1, _, _⟩
  ·exact (cm hm).1
  ·have := ok.uniq _ h1
   rw [hl] at this; cases this
 have okB : (X.blk s H scope cenv fp).Ok := by
  refine ⟨I.ok.mod, by show cenv.scope.kind = _; rw [hsc]; exact ok.kind, by show cenv.globals = _; rw [<- hcenv]; exact I.ok.glob, by show cenv.builtins = _; rw [<- hcenv]; exact I.ok.blt, by show s.heap.objs.size <= cenv.locals; rw [hL]; exact Nat.le_refl _,
   fun y z c e1 e2 => ?_, fun y hy => ?_, fun y c z e => ?_, I.ok.hd, I.ok.frames, .inl rfl, fun b hb => ⟨?_, fun y c e z => ?_⟩, I.bs, Nat.le_trans I.ok.bsz I.sz, fun b o e hb => ?_, fun b hb z => ?_, I.stack, I.stkFree⟩
  ·have e1 : cenv.cells.lookup y = some c := e1
   have e2 : cenv.cells.lookup z = some c := e2
   rw [hcl] at e1 e2
   refine cells_inj (fun p hp => ?_) (fun y z c a b => I.ok.inj y z c (cm a).1 (cm b).1) (PySem.mem_of_lookup e1) (PySem.mem_of_lookup e2)
   rw [Heap.size_push]
   exact Nat.lt_succ_of_lt (cm (y := p.1) (c := p.2) hp).2
  ·show ∃ c, cenv.cells.lookup y = some c
   have key : ∀ k, cenv.kindOf y = some k -> (k = .cell ∨ k = .free) -> ∃ c, cenv.cells.lookup y = some c := fun k hk hk' => by
    unfold Env.kindOf at hk
    rw [hsc] at hk
    obtain ⟨k', e, r⟩ := lookup_relS hk
    have : k' = .cell ∨ k' = .free := by
     rcases r with rfl | ⟨rfl, _⟩
     ·exact hk'
     ·exact .inr rfl
    rcases this with rfl | rfl
    ·obtain ⟨c, hm⟩ := cells_has (n := (s.heap.push { cls := .type "dict", data := .dict #[] }).objs.size) (acc := cloFrom X.env.cells scope.names []) (PySem.mem_of_lookup e)
     obtain ⟨c', e'⟩ := mem_lookup hm
     exact ⟨c', by rw [hcl]; exact e'⟩
    ·obtain ⟨c, h1, _⟩ := look e
     exact ⟨c, h1⟩
   rcases hy with hy | hy
   ·exact key _ hy (.inl rfl)
   ·exact key _ hy (.inr rfl)
  ·have z : (scope.names.lookup y == some NameKind.cell) = true := z
   have z : scope.names.lookup y = some .cell := by simpa using z
   have e : cenv.cells.lookup y = some c := e
   rw [hcl] at e
   rcases cells_mem (PySem.mem_of_lookup e) with hm | ⟨_, h2, _⟩
   ·rcases cloFrom_mem hm with hm | ⟨h1, _⟩
    ·cases hm
    ·have q := ok.uniq _ h1
     rw [z] at q; cases q
   ·rw [Heap.size_push] at h2
    exact Nat.le_of_succ_le h2
  ·show b ≠ cenv.locals
   rw [hL]; exact Nat.ne_of_lt (hfp b hb).2
  ·have e : cenv.cells.lookup y = some c := e
   rcases mem e with ⟨h1, _⟩ | ⟨h1, _⟩
   ·exact (hfp b hb).1.2.2.2.2.1 y c h1 z
   ·have h2 : s.heap.objs.size + 1 <= b := by rw [<- z]; exact h1
    exact absurd (Nat.lt_of_lt_of_le (hfp b hb).2 (Nat.le_of_succ_le h2)) (Nat.lt_irrefl _)
  ·rcases (hfp b hb).1.2.2.2.1 with z | z
   ·exact I.ok.noex b o e z
   ·exact absurd (Nat.lt_of_lt_of_le (Heap.lt_size e) (Nat.le_trans I.ok.bsz z)) (Nat.lt_irrefl _)
  ·rcases List.mem_cons.mp (I.stkSub b z) with z | z
   ·exact (hfp b hb).1.2.1 z
   ·exact (hfp b hb).1.2.2.1 z
 refine ⟨okB, rfl, I.bare, Un.kept kp, ⟨fun _ => none, ?_, fun i y av e1 e2 e3 => ?_⟩, fun y c e => ?_, ?_, fun y c e => ?_, fun p hp => ?_, I.hok.kept kp, by rw [wipe_length]; exact I.len⟩
 ·show Heap.Ns _ cenv.locals _
  rw [hL]
  exact Heap.Ns.keeps (Heap.Ns.new ..) fun b o e => pushCells_keeps _ _ _ _ e
 ·obtain ⟨e2, hne⟩ := wipe_some e2
  have hfr : scope.names.lookup y = some .free /\ (cenv.kindOf y = some .cell ∨ cenv.kindOf y = some .free) := by
   have key : ∀ k, cenv.scope.names.lookup y = some k -> k = .local ∨ k = .cell ∨ k = .free -> scope.names.lookup y = some .free /\ (cenv.kindOf y = some .cell ∨ cenv.kindOf y = some .free) := fun k hk hk' => by
    have hk0 := hk
    rw [hsc] at hk
    obtain ⟨k', e, r⟩ := lookup_relS hk
    have no : ¬ (k' = .local ∨ k' = .cell) := fun hh => by
     rcases ok.own _ (PySem.mem_of_lookup e) hh with e' | e'
     ·obtain ⟨p, hp, hpy⟩ := List.mem_map.mp e'
      have e3 := ok.ix p hp
      have : p.1 = y := hpy
      rw [this] at e3
      exact hne (List.mem_map.mpr ⟨p, hp, nodup_ix hN e3 e1⟩)
     ·exact e' (List.mem_of_getElem? e1)
    rcases r with rfl | ⟨rfl, rfl⟩
    ·rcases hk' with rfl | rfl | rfl
     ·exact absurd (.inl rfl) no
     ·exact absurd (.inr rfl) no
     ·exact ⟨e, .inr hk0⟩
    ·exact ⟨e, .inl hk0⟩
   have e3 : Vis cenv.scope y := e3
   rcases e3 with e3 | e3 | e3
   ·exact key _ e3 (.inl rfl)
   ·exact key _ e3 (.inr (.inl rfl))
   ·exact key _ e3 (.inr (.inr rfl))
  obtain ⟨m, hn, hl⟩ := I.loc
  have hvis : Vis X.env.scope y := (ok.free _ (PySem.mem_of_lookup hfr.1) rfl).elim (fun k => .inr (.inl k)) (fun k => .inr (.inr k))
  obtain ⟨w, r, q⟩ := hl i y av e1 e2 hvis
  refine ⟨w, r, .inr ⟨hfr.2, ?_⟩⟩
  obtain ⟨c, h1, h2⟩ := look hfr.1
  rcases q with ⟨k, _⟩ | ⟨_, c', e', z⟩
  ·have k : X.env.scope.names.lookup y = some .local := k
   rcases ok.free _ (PySem.mem_of_lookup hfr.1) rfl with k' | k' <;> rw [show X.env.scope.names.lookup y = _ from k'] at k <;> cases k
  ·rw [h2] at e'; cases e'
   exact ⟨c, h1, z.keeps kp⟩
 ·have e : cenv.cells.lookup y = some c := e
  rcases mem e with ⟨h1, _⟩ | ⟨_, z⟩
  ·obtain ⟨w, z⟩ := I.cell y c h1
   exact ⟨w, z.keeps kp⟩
  ·exact ⟨_, z⟩
 ·show H cenv.locals = none
  rw [hL]; exact I.hok.fresh (Nat.le_refl _)
 ·have e : cenv.cells.lookup y = some c := e
  rcases mem e with ⟨h1, _⟩ | ⟨h1, _⟩
  ·exact I.freeC y c h1
  ·exact I.hok.fresh (Nat.le_of_succ_le h1)
 ·exact absurd (show p ∈ ([] : List (Addr × Obj)) ++ [] from hp) (by simp)
theorem app_ok {E : Value -> Shared -> Prop} {D : Addr} {xs : List V} {y : V} {v : Value} {Q : Value -> Shared -> Prop} (I : Inv X pins σ H s) (hD : H D = some (.lst xs)) (hz : xs.length < sizeLine) (r : RelV y v)
  (h : ∀ s', Inv X pins σ (upd H D (.lst (xs ++ [y]))) s' -> Q .none s') : wpAny (model X.prog X.w) X.A (call (.builtin "list.append") [.ref D, v]) Q E s := by
 obtain ⟨hz', its, n, ri, e⟩ := I.hok D _ hD
 have hl := ri.length
 refine append_at (hsz := by rw [List.size_toArray]; omega) e fun h' sb ho' => ?_
 refine h { s with heap := h' } (I.write (t' := s.toks) (by rw [hD]; trivial) (.inl rfl) (fun b u hb q => (sb.2 b hb).trans q) ⟨_, ho'⟩ ⟨by rw [List.length_append]; exact hz, its ++ [v], n + 1, ri.append (.cons r .nil), ?_⟩)
 rw [ho']
 simp
def PTs (X : Cx) (ifs : List Expr) (t : TT) : Prop :=
 ∀ (pins : List (Addr × Obj)) (s : Shared) (σ : St) (H : Hp) (Q : Bool -> Hp -> Prop), Inv X pins σ H s -> t σ H Q ->
  wpAny (model X.prog X.w) X.A (forIn ifs true fun c r => if r = true then do let ok <- isTrue c X.env (eval c X.env); pure (ForInStep.yield ok) else pure (ForInStep.yield r)) (TP X pins σ Q) X.xe s
def tYes : TT := fun _ H Q => Q true H
theorem pts_nil : PTs X [] tYes := fun _ _ _ H _ I h => wpAny_tests_nil ⟨H, I, h⟩
theorem pts_one {c : Expr} {t : TT} (h : PT X c t) : PTs X [c] t := fun pins s σ H Q I hw => wpAny_tests_one (h pins s σ H Q I hw)
end
theorem thnF {α : Type} {t : Sem α} {Q Q' : α -> Shared -> Prop} {M : Model} {A : Around} {E : Value -> Shared -> Prop} {s : Shared} (h : wpAny M A t Q (fun _ _ => False) s) (hQ : ∀ a s, Q a s -> Q' a s) : wpAny M A t Q' E s := wpAny_mono h hQ fun _ _ z => False.elim z
theorem compLoop_any {prog : Program} {w : World} {A : Around} {R : Result -> Shared -> Prop} {s : Shared} {elt target iter : Expr} {ifs : List Expr} {scope : Scope} {pos : Pos} {it acc : Value} {env : Env} (I : Nat -> Shared -> Prop)
  (turn : ∀ n s, I n s -> wpAny (model prog w) A (pyNext it) (fun r s₁ => match r with
   | none => R (.ok .next) s₁
   | some v => wpAny (model prog w) A (letOwnedTupleGo target it v) (fun _ s₁' => wpAny (model prog w) A (assign target env v) (fun _ s₂ =>
     wpAny (model prog w) A (forIn ifs true fun c r => if r = true then do let ok <- isTrue c env (eval c env); pure (ForInStep.yield ok) else pure (ForInStep.yield r)) (fun ok s₃ =>
      if ok = true then wpAny (model prog w) A (eval elt env) (fun x s₄ =>
       wpAny (model prog w) A (call (.builtin "list.append") [acc, x]) (fun _ s₅ => ∃ m, m < n /\ I m s₅) (notedBy (model prog w) A env fun e s' => R (.error e) s') s₄) (notedBy (model prog w) A env fun e s' => R (.error e) s') s₃
      else ∃ m, m < n /\ I m s₃) (notedBy (model prog w) A env fun e s' => R (.error e) s') s₂) (notedBy (model prog w) A env fun e s' => R (.error e) s') s₁') (notedBy (model prog w) A env fun e s' => R (.error e) s') s₁) (notedBy (model prog w) A env fun e s' => R (.error e) s') s)
  (n : Nat) (h : I n s) :
  codeAny (model prog w) A (.compLoop (.ListComp elt [⟨target, iter, ifs, 0⟩] scope pos) 0 it acc env) R s := by
 refine codeAny_loop rfl I (fun n s hI => ?_) n h
 show wpAny _ A ((compTurn (.ListComp elt [⟨target, iter, ifs, 0⟩] scope pos) 0 it acc env).onRaise (fun x => do noteFrame x env; theTreesLotGoes x)) _ _ s
 refine wpAny_noted ?_
 rw [compTurn_list]
 refine wpAny_bind (wpAny_standAt (wpAny_bind (wpAny_mono (turn n s hI) (fun r s₁ h₁ => ?_) fun _ _ h' => h')))
 cases r with
 | none => exact wpAny_pure h₁
 | some v =>
  refine wpAny_bind (wpAny_mono h₁ (fun _ s₁' h₁' => ?_) fun _ _ h' => h')
  refine wpAny_bind (wpAny_mono h₁' (fun _ s₂ h₂ => wpAny_bind (wpAny_mono h₂ (fun ok s₃ h₃ => ?_) fun _ _ h' => h')) fun _ _ h' => h')
  cases ok with
  | false => exact wpAny_pure ⟨rfl, h₃⟩
  | true =>
   exact wpAny_bind (wpAny_bind (wpAny_mono h₃ (fun x s₄ h₄ => wpAny_bind (wpAny_mono h₄ (fun _ s₅ h₅ => wpAny_pure (wpAny_pure ⟨rfl, h₅⟩)) fun _ _ h' => h')) fun _ _ h' => h'))
section
variable {X : Cx}
def tLc (wi : TI) (g : TG) (tt : TT) (te : TE) (vs : List Nat) : TE := fun σ H Q => wi σ H fun J H1 => ∀ D, H1 D = none -> ∃ W : Nat -> Nat -> Hp -> Prop, (∃ m, W 0 m (upd H1 D (.lst []))) /\ ∀ i m H, W i m H ->
 (J.stop i H /\ Q (.ref D) H) ∨ (J.go i H /\ ∃ Nx : Hp -> Prop, (∀ H', Nx H' -> ∃ m', m' < m /\ W (i + 1) m' H') /\ ∀ x H', J.yld i H x H' -> g x (wipe σ vs) H' fun σ2 H2 => wipe σ2 vs = wipe σ vs /\ tt σ2 H2 fun b H3 =>
  if b = true then te σ2 H3 fun y H4 => ∃ acc, H4 D = some (.lst acc) /\ acc.length < sizeLine /\ Nx (upd H4 D (.lst (acc ++ [y]))) else Nx H3)
theorem lc_core {pins : List (Addr × Obj)} {s : Shared} {σ : St} {H : Hp} {Q : VK} {elt tg iter : Expr} {ifs : List Expr} {scope : Scope} {own : List (Str × Nat)} {pos pos' : Pos} {wi : TI} {g : TG} {tt : TT} {te : TE} {use : Option (Value -> Sem Unit)} {Qf : Value -> Shared -> Prop}
  (hc : X.calm = true) (hN : X.N.Nodup) (I : Inv X pins σ H s) (hi : PI X tg iter wi) (ok : BlkOk X.N X.env.scope scope own)
  (hg : ∀ (s : Shared) (H : Hp) (C : Addr) (cl : List (Str × Addr)) (fp : List Addr), PG (X.blk s H scope (compEnvC scope cl C X.env) fp) tg g) (ht : ∀ (s : Shared) (H : Hp) (C : Addr) (cl : List (Str × Addr)) (fp : List Addr), PTs (X.blk s H scope (compEnvC scope cl C X.env) fp) ifs tt)
  (he : ∀ (s : Shared) (H : Hp) (C : Addr) (cl : List (Str × Addr)) (fp : List Addr), PE (X.blk s H scope (compEnvC scope cl C X.env) fp) elt te) (hs : ∀ x, foldedSetIterable iter X.env x = pure x)
  (h : tLc wi g tt te (own.map (·.2)) σ H Q)
  (hRR : ∀ D C s' m H', Inv X pins σ H' s' -> Q (.ref D) H' -> s'.heap.Ns C m -> FpOk X pins H' C -> compPost (model X.prog X.w) X.A X.xe use Qf (.ref D) C (.ok .next) s') :
  wpAny (model X.prog X.w) X.A (comprehension (.ListComp elt [⟨tg, iter, ifs, 0⟩] scope pos) scope X.env pos' (newList []) false (eval iter X.env) use) Qf X.xe s := by
 have hfree : ∀ y ∈ scope.names, y.2 = .free -> ∃ c, X.env.cells.lookup y.1 = some c := fun y hy e => by
  rcases ok.free y hy e with k | k
  ·exact I.ok.has _ (.inl k)
  ·exact I.ok.has _ (.inr k)
 refine wpAny_comprehension_free (use := use) rfl hs (closure_ok hfree) ok.kind (fun y hy e => by rw [ok.uniq y hy, e])
  (thn (hi pins s σ H _ I h) fun xv s1 hx => thn hx fun itv s2 h2 => ?_)
 obtain ⟨it, fp, tn, J, H2, e, I2, T, st2, f2, q⟩ := h2
 subst e
 refine wpAny_newObj_type (newEnv_comp ?_) (by show 0 <= sizeLine; decide)
 generalize hD : s2.heap.objs.size = D
 have hDn : H2 D = none := I2.hok.fresh (Nat.le_of_eq hD)
 obtain ⟨W, ⟨m0, w0⟩, turn⟩ := q D hDn
 generalize hs3 : ({ s2 with heap := s2.heap.push { cls := .type "list", data := .seq ([] : List Value).toArray } } : Shared) = s3
 have I3 : Inv X pins σ (upd H2 D (.lst [])) s3 := by
  rw [<- hs3]
  refine I2.laid (t' := s2.toks) (fun b o e => Heap.get?_push_of_some _ e) (Nat.le_of_eq hD) ⟨Nat.zero_le _, [], 0, .nil, ?_⟩
  rw [<- hD]
  exact Heap.get?_push_size _ rfl
 have h3 : s3.heap = s2.heap.push { cls := .type "list", data := .seq ([] : List Value).toArray } := by rw [<- hs3]
 have sz : ∀ b ∈ fp, b < s2.heap.objs.size := fun b hb => by
  obtain ⟨o, e, _⟩ := T.obj _ _ st2 b hb
  exact Heap.lt_size e
 have f3 : ∀ b ∈ fp, FpOk X pins (upd H2 D (.lst [])) b /\ b < s3.heap.objs.size := fun b hb => by
  have hlt := sz b hb
  refine ⟨⟨?_, (f2 b hb).2⟩, by rw [h3, Heap.size_push]; exact Nat.lt_succ_of_lt hlt⟩
  rw [upd_ne (by rw [<- hD]; exact Nat.ne_of_lt hlt)]
  exact (f2 b hb).1
 have st3 : tn 0 s3.heap := T.keep _ _ _ st2 fun b _ o e => by rw [h3]; exact Heap.get?_push_of_some _ e
 have I4 := block_start I3 ok hN f3
 have pg := hg s3 (upd H2 D (.lst [])) s3.heap.objs.size (cellsFrom (s3.heap.objs.size + 1) scope.names (cloFrom X.env.cells scope.names [])) fp
 have pt := ht s3 (upd H2 D (.lst [])) s3.heap.objs.size (cellsFrom (s3.heap.objs.size + 1) scope.names (cloFrom X.env.cells scope.names [])) fp
 have pe := he s3 (upd H2 D (.lst [])) s3.heap.objs.size (cellsFrom (s3.heap.objs.size + 1) scope.names (cloFrom X.env.cells scope.names [])) fp
 show codeAny _ _ (.compStart (.ListComp elt [⟨tg, iter, ifs, 0⟩] scope pos) 0 (.ref it) (.ref D) (compEnvC scope (cellsFrom (s3.heap.objs.size + 1) scope.names (cloFrom X.env.cells scope.names [])) s3.heap.objs.size X.env)) (compPost (model X.prog X.w) X.A X.xe use Qf (.ref D) s3.heap.objs.size) { s3 with heap := pushCells (s3.heap.push { cls := .type "dict", data := .dict #[] }) scope.names }
 have nfp : ∀ b ∈ fp, (upd H2 D (.lst [])) b = none := fun b hb => (f3 b hb).1.1
 generalize hce : compEnvC scope (cellsFrom (s3.heap.objs.size + 1) scope.names (cloFrom X.env.cells scope.names [])) s3.heap.objs.size X.env = ce at I4 pg pt pe ⊢
 have cL : ce.locals = s3.heap.objs.size := by subst hce; rfl
 generalize hH3 : upd H2 D (.lst []) = H3 at I3 I4 pg pt pe w0 nfp f3
 generalize hs4 : ({ s3 with heap := pushCells (s3.heap.push { cls := .type "dict", data := .dict #[] }) scope.names } : Shared) = s4 at I4 ⊢
 have st4 : tn 0 s4.heap := T.keep _ _ _ st3 fun b _ o e => by rw [<- hs4]; exact pushCells_keeps _ _ _ _ (Heap.get?_push_of_some _ e)
 have stat : ∀ {σ' : St} {H' : Hp} {s' : Shared}, Inv (X.blk s3 H3 scope ce fp) [] σ' H' s' -> (∀ b ∈ fp, H' b = none) -> ∀ b ∈ fp, FpOk (X.blk s3 H3 scope ce fp) [] H' b := fun {σ' H' s'} I' hn b hb =>
  ⟨hn b hb, (I'.ok.exf b hb).1, I'.ok.exfs b hb, .inl hb, fun x c e => (I'.ok.exf b hb).2 x c e, fun p hp => absurd (show p ∈ ([] : List (Addr × Obj)) ++ [] from hp) (by simp)⟩
 have loop : codeAny (model X.prog X.w) X.A (.compLoop (.ListComp elt [⟨tg, iter, ifs, 0⟩] scope pos) 0 (.ref it) (.ref D) ce) (compPost (model X.prog X.w) X.A X.xe use Qf (.ref D) s3.heap.objs.size) s4 := by
  refine compLoop_any (fun n s' => ∃ i H', Inv (X.blk s3 H3 scope ce fp) [] (wipe σ (own.map (·.2))) H' s' /\ tn i s'.heap /\ (∀ b ∈ fp, H' b = none) /\ W i n H') ?_ m0 ⟨0, H3, I4, st4, nfp, w0⟩
  rintro n s5 ⟨i, H5, I5, st5, n5, w5⟩
  rcases turn i n H5 w5 with ⟨stop, qq⟩ | ⟨go, Nx, hNx, step⟩
  ·have td := T.done (X.blk s3 H3 scope ce fp) rfl rfl rfl hc i [] s5 _ H5 (fun _ _ => False) I5 (stat I5 n5) st5 stop
   refine thnF td fun r s6 ⟨hr, I6⟩ => ?_
   subst hr
   have I7 : Inv X pins σ H5 s6 := I3.call' (ch := fp) I6.os I6.base I6.hok I6.bare fun b hb => ⟨(f3 b hb).1.2.2.2.1, (f3 b hb).1.2.1, (f3 b hb).1.2.2.2.2.1, (f3 b hb).1.2.2.2.2.2⟩
   have nC : H5 s3.heap.objs.size = none := by
    have z : H5 ce.locals = none := I6.free
    rw [cL] at z
    exact z
   obtain ⟨m, hn, _⟩ := I6.loc
   have hn : s6.heap.Ns ce.locals m := hn
   rw [cL] at hn
   exact hRR D s3.heap.objs.size s6 m H5 I7 qq hn (I3.fpOk (Nat.le_refl _) nC)
  ·have ti := T.item (X.blk s3 H3 scope ce fp) rfl rfl rfl hc i [] s5 _ H5 (fun _ _ => False) I5 (stat I5 n5) st5 go
   refine thnF ti fun r s6 ⟨u, hr, h6⟩ => ?_
   subst hr
   refine thnF h6 fun _ s7 ⟨x, H7, I7, r7, y7, st7, n7⟩ => ?_
   have I7' := I7.pinned (stat I7 n7) (T.obj _ _ st7)
   refine thnF (pg _ s7 _ H7 x u _ I7' r7 (step x H7 y7)) fun _ s8 ⟨σ8, H8, I8, hw8, q8⟩ => ?_
   refine thnF (pt _ s8 σ8 H8 _ I8 q8) fun b s9 ⟨H9, I9, q9⟩ => ?_
   have fin : ∀ {s' : Shared} {H' : Hp}, Inv (X.blk s3 H3 scope ce fp) ([] ++ pinsAt fp s7.heap) σ8 H' s' -> Nx H' -> ∃ m, m < n /\ ∃ i H', Inv (X.blk s3 H3 scope ce fp) [] (wipe σ (own.map (·.2))) H' s' /\ tn i s'.heap /\ (∀ b ∈ fp, H' b = none) /\ W i m H' := fun {s' H'} I' nx => by
    obtain ⟨m', hm, w'⟩ := hNx H' nx
    have pin' : ∀ b ∈ fp, ∀ o, s7.heap.get? b = some o -> s'.heap.get? b = some o /\ H' b = none := fun b hb o e =>
     let z := I'.pin (b, o) (List.mem_append_right _ (List.mem_append_right _ (mem_pinsAt hb e)))
     ⟨z.1, z.2.1⟩
    have hl : (wipe σ (own.map (·.2))).length = σ8.length := by rw [<- hw8, wipe_length]
    refine ⟨m', hm, i + 1, H', (I'.unpinned (pins := [])).weak hl (fun j v e => ?_), T.keep _ _ _ st7 fun b hb o e => (pin' b hb o e).1, fun b hb => ?_, w'⟩
    ·rw [<- hw8] at e
     exact (wipe_some e).1
    ·obtain ⟨o, e, _⟩ := T.obj _ _ st7 b hb
     exact (pin' b hb o e).2
   cases b with
   | false =>
    simp only [Bool.false_eq_true, if_false] at q9 ⊢
    exact fin I9 q9
   | true =>
    simp only [if_true] at q9 ⊢
    refine thnF (pe _ s9 σ8 H9 _ I9 q9) fun z s10 ⟨yv, H10, I10, r10, acc, hD10, hz10, nx⟩ => ?_
    exact app_ok (X := X.blk s3 H3 scope ce fp) I10 hD10 hz10 r10 fun s11 I11 => fin I11 nx
 exact codeAny_compStart_list loop (T.self X.A 0 _ _ _ st4 loop)
theorem pe_lc {elt tg iter : Expr} {ifs : List Expr} {scope : Scope} {own : List (Str × Nat)} {pos : Pos} {wi : TI} {g : TG} {tt : TT} {te : TE} (hc : X.calm = true) (hN : X.N.Nodup) (hi : PI X tg iter wi) (ok : BlkOk X.N X.env.scope scope own)
  (hg : ∀ (s : Shared) (H : Hp) (C : Addr) (cl : List (Str × Addr)) (fp : List Addr), PG (X.blk s H scope (compEnvC scope cl C X.env) fp) tg g) (ht : ∀ (s : Shared) (H : Hp) (C : Addr) (cl : List (Str × Addr)) (fp : List Addr), PTs (X.blk s H scope (compEnvC scope cl C X.env) fp) ifs tt)
  (he : ∀ (s : Shared) (H : Hp) (C : Addr) (cl : List (Str × Addr)) (fp : List Addr), PE (X.blk s H scope (compEnvC scope cl C X.env) fp) elt te) (hs : ∀ x, foldedSetIterable iter X.env x = pure x := by intro _; rfl) :
  PE X (.ListComp elt [⟨tg, iter, ifs, 0⟩] scope pos) (tLc wi g tt te (own.map (·.2))) := by
 intro pins s σ H Q I h
 rw [eval_ListComp]
 refine lc_core hc hN I hi ok hg ht he hs h fun D C s' m H' I' q hn f => ⟨m, hn, fun h'' sb => ?_⟩
 obtain ⟨f0, f1, f2, f3, f4, f5⟩ := f
 exact ⟨.ref D, H', I'.turned (t' := s'.toks) (fun b o hb e => (sb.2 b hb).trans e) f0 f1 f3 f4 f5, rfl, q⟩
theorem ps_setLc {i : Nat} {y : Str} {py : Pos} {elt tg iter : Expr} {ifs : List Expr} {scope : Scope} {own : List (Str × Nat)} {pos spos : Pos} {wi : TI} {g : TG} {tt : TT} {te : TE} (hc : X.calm = true) (hN : X.N.Nodup) (hy : X.N[i]? = some y) (hyl : X.env.scope.names.lookup y = some .local)
  (hsw : swapsWith (.ListComp elt [⟨tg, iter, ifs, 0⟩] scope pos) (some (.Name y py)) spos.line X.env = pure true) (hi : PI X tg iter wi) (ok : BlkOk X.N X.env.scope scope own)
  (hg : ∀ (s : Shared) (H : Hp) (C : Addr) (cl : List (Str × Addr)) (fp : List Addr), PG (X.blk s H scope (compEnvC scope cl C X.env) fp) tg g) (ht : ∀ (s : Shared) (H : Hp) (C : Addr) (cl : List (Str × Addr)) (fp : List Addr), PTs (X.blk s H scope (compEnvC scope cl C X.env) fp) ifs tt)
  (he : ∀ (s : Shared) (H : Hp) (C : Addr) (cl : List (Str × Addr)) (fp : List Addr), PE (X.blk s H scope (compEnvC scope cl C X.env) fp) elt te) (hs : ∀ x, foldedSetIterable iter X.env x = pure x := by intro _; rfl) :
  PS X (.Assign [.Name y py] (.ListComp elt [⟨tg, iter, ifs, 0⟩] scope pos) spos) (tAsg (tLc wi g tt te (own.map (·.2))) (gName i)) := by
 intro pins s σ H D I h
 rw [exec_Assign_Name_used _ _ _ _ hsw]
 refine wpAny_bind (wpAny_standAt (wpAny_bind ?_))
 show wpAny _ X.A (do let _ <- comprehension (.ListComp elt [⟨tg, iter, ifs, 0⟩] scope pos) scope X.env (firstIterPos [⟨tg, iter, ifs, 0⟩] pos) (newList []) false (eval iter X.env) (some (assign (.Name y py) X.env))) _ _ s
 have h : tLc wi g tt te (own.map (·.2)) σ H (fun x H1 => gName i x σ H1 D.nx) := h
 refine wpAny_bind (thn (lc_core (Qf := fun _ s' => SP X pins D .next s') hc hN I hi ok hg ht he hs h fun L C s' m H' I' q hn f => ?_) fun _ s' hq => wpAny_pure (wpAny_pure hq))
 show wpAny _ _ (assign (.Name y py) X.env (.ref L)) _ _ _
 refine wpAny_assign_Name (store_ok2 (v := V.ref L) I' hN hy (.inl hyl) rfl (fun s2 I2 ⟨a, sb, ha⟩ => ?_) (.inr hyl))
 obtain ⟨f0, f1, f2, f3, f4, f5⟩ := f
 have haC : C ≠ a := by
  rcases ha with z | z
  ·rw [z]; exact f1
  ·exact fun e => f4 y a z e.symm
 refine ⟨m, hn.sameBut sb haC, fun h3 sb3 => ?_⟩
 exact ⟨_, H', I2.turned (t' := s2.toks) (fun b o hb e => (sb3.2 b hb).trans e) f0 f1 f3 f4 f5, q⟩
theorem sw_true {elt : Expr} {gs : List Comprehension} {scope : Scope} {pos py : Pos} {y : Str} {l : Nat} {env : Env} (hk : env.scope.kind = .function) (hy : env.scope.names.lookup y = some .local) (hl : (py.line == pos.line) = true)
  (ha : (scope.names.any fun (n, k) => n == y && (k == .local || k == .cell)) = false) : swapsWith (.ListComp elt gs scope pos) (some (.Name y py)) l env = pure true := by
 have ky : env.kindOf y = some .local := hy
 have hb : env.blockKind = .function := by unfold Env.blockKind; rw [hk]; rfl
 unfold swapsWith
 simp only [hb, ky, ha, Expr.pos, hl]
 rfl
end
theorem lc_range {lo : Int} {n : Nat} {g : TG} {tt : TT} {te : TE} {vs : List Nat} {σ : St} {H1 : Hp} {D : Addr} {Qd : Hp -> Prop} (Pv : Nat -> Hp -> Prop) (h0 : Pv 0 (upd H1 D (.lst [])))
  (hs : ∀ i H, i < n -> Pv i H -> g (.int (lo + i)) (wipe σ vs) H fun σ2 H2 => wipe σ2 vs = wipe σ vs /\ tt σ2 H2 fun b H3 =>
   if b = true then te σ2 H3 fun y H4 => ∃ acc, H4 D = some (.lst acc) /\ acc.length < sizeLine /\ Pv (i + 1) (upd H4 D (.lst (acc ++ [y]))) else Pv (i + 1) H3) (hd : ∀ H, Pv n H -> Qd H) :
  ∃ W : Nat -> Nat -> Hp -> Prop, (∃ m, W 0 m (upd H1 D (.lst []))) /\ ∀ i m H, W i m H ->
   ((Itr lo n).stop i H /\ Qd H) ∨ ((Itr lo n).go i H /\ ∃ Nx : Hp -> Prop, (∀ H', Nx H' -> ∃ m', m' < m /\ W (i + 1) m' H') /\ ∀ x H', (Itr lo n).yld i H x H' -> g x (wipe σ vs) H' fun σ2 H2 => wipe σ2 vs = wipe σ vs /\ tt σ2 H2 fun b H3 =>
    if b = true then te σ2 H3 fun y H4 => ∃ acc, H4 D = some (.lst acc) /\ acc.length < sizeLine /\ Nx (upd H4 D (.lst (acc ++ [y]))) else Nx H3) := by
 refine ⟨fun i m H => m = n - i /\ i <= n /\ Pv i H, ⟨n, by simp, Nat.zero_le _, h0⟩, ?_⟩
 rintro i m H ⟨rfl, hi, p⟩
 by_cases hlt : i < n
 ·refine .inr ⟨hlt, Pv (i + 1), fun H' p' => ⟨n - (i + 1), by omega, rfl, hlt, p'⟩, fun x H' y => ?_⟩
  obtain ⟨e, y⟩ := y
  subst e y
  exact hs i _ hlt p
 ·have e : i = n := by omega
  subst e
  exact .inl ⟨Nat.le_refl _, hd H p⟩
theorem lc_list {K : PySem.W.Frag} {a : Addr} {xs : List V} {g : TG} {tt : TT} {te : TE} {vs : List Nat} {σ : St} {H1 : Hp} {D : Addr} {Qd : Hp -> Prop} (Pv : Nat -> Hp -> Prop) (h0 : Pv 0 (upd H1 D (.lst []))) (hl : ∀ i H, i <= xs.length -> Pv i H -> SqL K H a xs)
  (hs : ∀ i x H, xs[i]? = some x -> Pv i H -> g x (wipe σ vs) H fun σ2 H2 => wipe σ2 vs = wipe σ vs /\ tt σ2 H2 fun b H3 =>
   if b = true then te σ2 H3 fun y H4 => ∃ acc, H4 D = some (.lst acc) /\ acc.length < sizeLine /\ Pv (i + 1) (upd H4 D (.lst (acc ++ [y]))) else Pv (i + 1) H3) (hd : ∀ H, Pv xs.length H -> Qd H) :
  ∃ W : Nat -> Nat -> Hp -> Prop, (∃ m, W 0 m (upd H1 D (.lst []))) /\ ∀ i m H, W i m H ->
   ((Itl K a).stop i H /\ Qd H) ∨ ((Itl K a).go i H /\ ∃ Nx : Hp -> Prop, (∀ H', Nx H' -> ∃ m', m' < m /\ W (i + 1) m' H') /\ ∀ x H', (Itl K a).yld i H x H' -> g x (wipe σ vs) H' fun σ2 H2 => wipe σ2 vs = wipe σ vs /\ tt σ2 H2 fun b H3 =>
    if b = true then te σ2 H3 fun y H4 => ∃ acc, H4 D = some (.lst acc) /\ acc.length < sizeLine /\ Nx (upd H4 D (.lst (acc ++ [y]))) else Nx H3) := by
 refine ⟨fun i m H => m = xs.length - i /\ i <= xs.length /\ Pv i H, ⟨xs.length, by simp, Nat.zero_le _, h0⟩, ?_⟩
 rintro i m H ⟨rfl, hi, p⟩
 have q := hl i H hi p
 by_cases hlt : i < xs.length
 ·refine .inr ⟨⟨xs, xs[i], q, by simp [hlt]⟩, Pv (i + 1), fun H' p' => ⟨xs.length - (i + 1), by omega, rfl, hlt, p'⟩, fun x H' y => ?_⟩
  obtain ⟨e, y⟩ := y
  subst e
  exact hs i x _ (y xs q) p
 ·have e : i = xs.length := by omega
  subst e
  exact .inl ⟨⟨xs, q, Nat.le_refl _⟩, hd H p⟩
def blkC (N : List Str) (sc scope : Scope) (own : List (Str × Nat)) : Bool :=
 (match scope.kind with | .function => true | _ => false) && (scope.names.all fun y => decide (scope.names.lookup y.1 = some y.2)) && (own.all fun p => decide (N[p.2]? = some p.1)) &&
  (scope.names.all fun y => match y.2 with
   | .free => (match sc.names.lookup y.1 with | some .cell => true | some .free => true | _ => false)
   | .local => decide (y.1 ∈ own.map (·.1)) || decide (y.1 ∉ N)
   | .cell => decide (y.1 ∈ own.map (·.1)) || decide (y.1 ∉ N)
   | _ => true)
theorem blkOk_by {N : List Str} {sc scope : Scope} {own : List (Str × Nat)} (h : blkC N sc scope own = true) : BlkOk N sc scope own := by
 unfold blkC at h
 simp only [Bool.and_eq_true, List.all_eq_true, decide_eq_true_eq] at h
 obtain ⟨⟨⟨h1, h2⟩, h3⟩, h4⟩ := h
 refine ⟨?_, h2, h3, fun y hy e => ?_, fun y hy e => ?_⟩
 ·split at h1
  ·assumption
  ·cases h1
 ·have q := h4 y hy
  simp only [e] at q
  split at q <;> first | exact .inl (by assumption) | exact .inr (by assumption) | cases q
 ·have q := h4 y hy
  rcases e with e | e <;> (simp only [e, Bool.or_eq_true, decide_eq_true_eq] at q; exact q)
section
variable {prog : Program} {w : World} {A : Around} {R : Result -> Shared -> Prop} {s : Shared} {elt t0 i0 t1 i1 : Expr} {ifs0 ifs1 : List Expr} {scope : Scope} {pos : Pos} {it acc : Value} {env : Env}
end
section
variable {X : Cx}
end
section
variable {κ : Type} [DecidableEq κ]
end
section
variable {P : Program} {w : World} {H : Hp} {h : Heap} {a : Addr}
end
section
variable {X : Cx} {pins : List (Addr × Obj)} {σ : St} {H : Hp} {s : Shared} {a : Addr} {y v : V} {u r : Value} {o : Option V} {A : Around} {E : Value -> Shared -> Prop}
end
section
variable {X : Cx} {pins : List (Addr × Obj)} {σ : St} {H : Hp} {s : Shared} {a : Addr} {kvs : List (Key × V)} {k : Key} {u : Value} {A : Around} {E : Value -> Shared -> Prop}
end
section
variable {X : Cx} {o i e value : Expr} {pos pos' tpos : Pos} {td ty tv : TE}
end
section
variable {X : Cx} {pos : Pos}
end
section
variable {X : Cx} {pins : List (Addr × Obj)} {σ : St} {H : Hp} {s : Shared} {a : Addr} {y d : V} {u r : Value} {o : Option V} {A : Around} {E : Value -> Shared -> Prop}
end
section
variable {X : Cx} {o e f : Expr} {apos cpos : Pos} {td ty tx : TE}
end
section
variable {X : Cx} {pins : List (Addr × Obj)} {σ : St} {H : Hp} {s : Shared} {a : Addr} {kvs : List (Key × V)} {A : Around} {E : Value -> Shared -> Prop}
end
section
variable {X : Cx} {pins : List (Addr × Obj)} {σ : St} {H : Hp} {s : Shared} {a : Addr} {y : V} {u : Value} {A : Around} {E : Value -> Shared -> Prop}
end
section
variable {prog : Program} {w : World} {A : Around} {E : Value -> Shared -> Prop}
end
section
variable {X : Cx}
end
section
variable {X : Cx} {pins : List (Addr × Obj)} {σ : St} {H : Hp} {s : Shared} {h' : Heap}
theorem Inv.turnedL {t' : Nat} {ch : List Addr} (I : Inv X pins σ H s) (k : ∀ b o, b ∉ ch -> s.heap.get? b = some o -> h'.get? b = some o) (hf : ∀ b ∈ ch, FpOk X pins H b) : Inv X pins σ H { s with heap := h', toks := t' } := by
 have nit : ∀ b u, H b = some u -> b ∉ ch := fun b u e z => by
  have q := (hf b z).1
  rw [q] at e; cases e
 refine I.step (g' := s.gens) (d' := s.drawn) (ch := ch) (fun b hb => ⟨(hf b hb).2.2.2.1, (hf b hb).2.1, (hf b hb).2.2.2.2.1, (hf b hb).2.2.2.2.2⟩) (fun b o _ _ hc e _ => k b o hc e) (fun b o _ _ hc e _ => ⟨o.slots, k b o hc e⟩)
  (fun _ _ _ _ n => n) (fun b o hc e => ⟨o, k b o hc e⟩) (fun _ _ e => e) (fun _ _ _ e => e) (fun b ps e => ⟨#[], by rw [e]; simp⟩) (fun m hm => ?_) (fun b u e => ?_) I.bare
 ·obtain ⟨o, es, ep, ho, r⟩ := hm
  exact ⟨o, es, ep, k _ o (fun z => (hf _ z).2.1 rfl) ho, r⟩
 ·refine (I.hok b u e).stay (fun c v hc q => k c v ?_ q) (fun _ q => q) fun _ _ q => q
  rcases hc with z | z
  ·rw [z]; exact nit b u e
  ·exact nit c _ z
theorem Inv.turnedNew {t' : Nat} {ch : List Addr} {T : Addr} {ob : HO} (I : Inv X pins σ H s) (k : ∀ b o, b ∉ ch -> s.heap.get? b = some o -> h'.get? b = some o) (hf : ∀ b ∈ ch, FpOk X pins H b) (hT : s.heap.objs.size <= T)
  (new : ObjOk X.prog X.w (upd H T ob) h' T ob) : Inv X pins σ (upd H T ob) { s with heap := h', toks := t' } := by
 have hn : H T = none := I.hok.fresh hT
 have nit : ∀ b u, H b = some u -> b ∉ ch := fun b u e z => by
  have q := (hf b z).1
  rw [q] at e; cases e
 refine I.step (g' := s.gens) (d' := s.drawn) (ch := ch) (fun b hb => ⟨(hf b hb).2.2.2.1, (hf b hb).2.1, (hf b hb).2.2.2.2.1, (hf b hb).2.2.2.2.2⟩) (fun b o _ _ hc e _ => k b o hc e) (fun b o _ _ hc e _ => ⟨o.slots, k b o hc e⟩)
  (fun b o _ e n => ?_) (fun b o hc e => ⟨o, k b o hc e⟩) (fun b xs e => ?_) (fun b o u e => ?_) (fun b ps e => ⟨#[], ?_⟩) (fun m hm => ?_) (fun b u e => ?_) I.bare
 ·rw [upd_ne (Nat.ne_of_lt (Nat.lt_of_lt_of_le (Heap.lt_size e) hT))]; exact n
 ·rw [upd_ne (ne_of_none e hn)]; exact e
 ·rw [upd_ne (ne_of_none e hn)]; exact e
 ·rw [upd_ne (ne_of_none e hn), e]; simp
 ·obtain ⟨o, es, ep, ho, r⟩ := hm
  exact ⟨o, es, ep, k _ o (fun z => (hf _ z).2.1 rfl) ho, r⟩
 ·by_cases hb : b = T
  ·subst hb
   rw [upd_same] at e
   cases e
   exact new
  ·rw [upd_ne hb] at e
   refine (I.hok b u e).stay (fun c v hc q => k c v ?_ q) (fun c q => by rw [upd_ne (ne_of_none q hn)]; exact q) fun c xs q => by rw [upd_ne (ne_of_none q hn)]; exact q
   rcases hc with z | z
   ·rw [z]; exact nit b u e
   ·exact nit c _ z
end
section
variable {X : Cx}
theorem pi_one {tg : Expr} {pins : List (Addr × Obj)} {σ : St} {H : Hp} {s : Shared} {R : It -> Hp -> Prop} {J : It} {tn : Nat -> Heap -> Prop} {tk : Nat} (I : Inv X pins σ H s) (o : Obj)
  (T : Turn X.prog X.w X.K tg J [s.heap.objs.size] s.heap.objs.size tn) (st : tn 0 (s.heap.push o)) (q : R J H) : PIE X pins σ tg R (.ref s.heap.objs.size) { s with heap := s.heap.push o, toks := tk } := by
 refine ⟨s.heap.objs.size, [s.heap.objs.size], tn, J, H, rfl, I.kept fun b ob e => Heap.get?_push_of_some _ e, T, st, fun b hb => ?_, q⟩
 have e : b = s.heap.objs.size := by simpa using hb
 subst e
 exact I.fpOk (Nat.le_refl _) (I.hok.fresh (Nat.le_refl _))
end
def Itc (lo c : Int) (n : Nat) : It := ⟨fun i _ => i < n, fun i H x H' => H' = H /\ x = .int (lo + (i : Nat) * c), fun i _ => n <= i⟩
theorem turn_rangeC {P : Program} {w : World} {K : PySem.W.Frag} {tg : Expr} (it : Addr) (lo c : Int) (n : Nat) : Turn P w K tg (Itc lo c n) [it] it (fun i h => IsRangeIter h it (lo + (i : Nat) * c) ((n : Int) - (i : Nat)) c) where
 mem := by simp
 obj := fun i h st b hb => by
  have e : b = it := by simpa using hb
  subst e
  exact ⟨_, st, fun v z => nomatch z⟩
 keep := fun i h h' st k => k it (by simp) _ st
 item := by
  intro X hP hw hK hc i pins s σ H E I hf st hg
  subst hP hw hK
  obtain ⟨f0, f1, f2, f3, f4, f5⟩ := hf it (by simp)
  have W := Walks.range (prog := X.prog) (w := X.w) (I.ok.hd hc) it lo c n
  refine W.item i s _ _ hg st fun v h' tk hv st' kk => ?_
  obtain ⟨t, rfl⟩ := hv
  have I1 : Inv X pins σ H { s with heap := h', toks := tk } := I.turned (fun b o hb e => kk b o (by simpa using hb) e) f0 f1 f3 f4 f5
  exact ⟨_, rfl, go_of (s := { s with heap := h', toks := tk }) (n := "range_iterator") st' rfl rfl (by decide) ⟨.int (lo + (i : Nat) * c), H, I1, ⟨t, rfl⟩, ⟨rfl, rfl⟩, st', fun b hb => (hf b hb).1⟩⟩
 done := by
  intro X hP hw hK hc i pins s σ H E I hf st hg
  subst hP hw hK
  obtain ⟨f0, f1, f2, f3, f4, f5⟩ := hf it (by simp)
  exact wpAny_pyNext_range_end (I.ok.hd hc) st (by have : n <= i := hg; omega) fun h' eb => ⟨rfl, I.turned (t' := s.toks) (fun b o hb e => eb b o hb e) f0 f1 f3 f4 f5⟩
 self := fun A i s Q E st h => wpAny_pyIter_rangeiter st h
def RgC (i j c : Int) (n : Nat) : Prop := c ≠ 0 /\ c.natAbs < 1073741824 /\ Builtin.Range.small i j c = true /\ Builtin.Range.rangeSize i j c = n
theorem RgC.neg {i j : Int} (ha : -(2 ^ 62) <= i) (ha' : i < 2 ^ 62) (hb : -(2 ^ 62) <= j) (hb' : j < 2 ^ 62) : RgC i j (-1) (i - j).toNat :=
 ⟨by decide, by decide, PySem.W.small_down ha ha' hb hb', PySem.W.rangeSize_downNat i j⟩
def iRng3 (ta : TA) : TI := fun σ H R => ta σ H fun vs H1 => ∃ (i j c : Int) (n : Nat), vs = [.int i, .int j, .int c] /\ RgC i j c n /\ R (Itc i c n) H1
section
variable {X : Cx} {tg : Expr}
theorem pi_range3 {a b c : Expr} {ta : TA} {p pos : Pos} (hg : Gl X "range") (hm : X.mg "range" = none) (ha : PA X [a, b, c] ta)
  (hs : starEach [a, b, c] X.env = (false, eval a X.env) :: starEach [b, c] X.env := by rfl) (hpl : (backTo pos (starEach [b, c] X.env)).any (·.1) = false := by rfl) :
  PI X tg (.Call (.Name "range" p) [a, b, c] [] pos) (iRng3 ta) := by
 intro pins s σ H R I h
 refine Call_ (ld_blt I hg hm boot_range (PyProof.Rows.callWith_type1 (thn (ha pos pins s σ H _ I h) fun us s1 ⟨vs, H1, I1, r1, q1⟩ => ?_) hs hpl))
 obtain ⟨i, j, k, n, e, ⟨c0, c1, c2, c3⟩, q⟩ := q1
 subst e
 cases r1 with
 | cons r rr =>
  cases rr with
  | cons r' rr =>
   cases rr with
   | cons r'' rr =>
    cases rr
    obtain ⟨t, rfl⟩ := r
    obtain ⟨t', rfl⟩ := r'
    obtain ⟨t'', rfl⟩ := r''
    refine call_range_3 c0 ?_ (.inl (PyProof.noPylong_small c1))
    refine wpAny_pyIter_range (IsRange.new ..) c2 ?_
    have I2 : Inv X pins σ H1 { s1 with heap := s1.heap.push { cls := .type "range", data := .fields #[.int i t, .int j t', .int k t''] } } := I1.kept (t' := s1.toks) fun b o e => Heap.get?_push_of_some _ e
    refine pi_one (tk := s1.toks) I2 _ (turn_rangeC _ i k n) ?_ q
    have e1 : i + ((0 : Nat) : Int) * k = i := by simp
    have e2 : (n : Int) - ((0 : Nat) : Int) = Builtin.Range.rangeSize i j k := by rw [c3]; simp
    show IsRangeIter _ _ (i + ((0 : Nat) : Int) * k) ((n : Int) - ((0 : Nat) : Int)) k
    rw [e1, e2]
    exact Heap.get?_push_size _ rfl
end
theorem for_rangeC {lo c : Int} {n : Nat} {g : TG} {tb : TS} {D : Ends} {σ : St} {H : Hp} (Pv : Nat -> St -> Hp -> Prop) (h0 : Pv 0 σ H)
  (hs : ∀ i σ H, i < n -> Pv i σ H -> g (.int (lo + (i : Nat) * c)) σ H fun σ2 H2 => tb { D with nx := Pv (i + 1), ct := Pv (i + 1), bk := D.nx } σ2 H2) (hd : ∀ σ H, Pv n σ H -> D.nx σ H) :
  ∃ W : Nat -> Nat -> St -> Hp -> Prop, (∃ m, W 0 m σ H) /\ ∀ i m σ H, W i m σ H ->
   ((Itc lo c n).stop i H /\ D.nx σ H) ∨ ((Itc lo c n).go i H /\ ∃ N : St -> Hp -> Prop, (∀ σ' H', N σ' H' -> ∃ m', m' < m /\ W (i + 1) m' σ' H') /\ ∀ x H', (Itc lo c n).yld i H x H' -> g x σ H' fun σ2 H2 => tb { D with nx := N, ct := N, bk := D.nx } σ2 H2) := by
 refine ⟨fun i m σ H => m = n - i /\ i <= n /\ Pv i σ H, ⟨n, by simp, Nat.zero_le _, h0⟩, ?_⟩
 rintro i m σ H ⟨rfl, hi, p⟩
 by_cases hlt : i < n
 ·refine .inr ⟨hlt, Pv (i + 1), fun σ' H' p' => ⟨n - (i + 1), by omega, rfl, hlt, p'⟩, fun x H' y => ?_⟩
  obtain ⟨e, y⟩ := y
  subst e y
  exact hs i σ _ hlt p
 ·have e : i = n := by omega
  subst e
  exact .inl ⟨Nat.le_refl _, hd σ H p⟩
section
variable {X : Cx} {tg : Expr}
end
section
variable {prog : Program} {w : World} {A : Around} {E : Value -> Shared -> Prop} {s : Shared}
end
section
variable {X : Cx} {pins : List (Addr × Obj)} {σ : St} {H : Hp} {s : Shared} {d : Addr} {o : Obj}
end
section
variable {P : Program} {w : World} {K : PySem.W.Frag} {tg : Expr} {d : Addr} {o : Obj} {es : Array DictEntry} {ep : Nat}
end
section
variable {X : Cx} {tg e : Expr} {td : TE} {apos cpos : Pos}
end
def Ite (K : PySem.W.Frag) (a : Addr) : It :=
 ⟨fun i H => ∃ (xs : List V) (x : V), SqL K H a xs /\ xs[i]? = some x, fun i H v H' => ∃ T x, v = .ref T /\ H T = none /\ H' = upd H T (.tup [.int (i : Nat), x]) /\ ∀ xs, SqL K H a xs -> xs[i]? = some x, fun i H => ∃ xs : List V, SqL K H a xs /\ xs.length <= i⟩
theorem turn_enum {P : Program} {w : World} {K : PySem.W.Frag} {elts : List Expr} {kk : Nat} {tpos : Pos} (a e it : Addr) :
  Turn P w K (.Tuple elts kk tpos) (Ite K a) [e, it] e (fun i h => (∃ old, IsEnum h e it ((i : Nat) : Int) old) /\ h.IsListIter it a i /\ e ≠ it) where
 mem := by simp
 obj := fun i h st b hb => by
  obtain ⟨⟨old, he⟩, ⟨o, ho, hc, hd⟩, _⟩ := st
  have e' : b = e ∨ b = it := by simpa using hb
  rcases e' with z | z
  ·rw [z]; exact ⟨_, he, fun v q => nomatch q⟩
  ·rw [z]; exact ⟨o, ho, fun v q => by rw [hd] at q; cases q⟩
 keep := fun i h h' st k => let ⟨⟨old, he⟩, hi, hne⟩ := st; ⟨⟨old, k e (by simp) _ he⟩, hi.at fun o q => k it (by simp) o q, hne⟩
 item := by
  intro X hP hw hK hc i pins s σ H E I hf st hg
  subst hP hw hK
  obtain ⟨⟨old, he⟩, hit, hne⟩ := st
  obtain ⟨xs, x, hq, hx⟩ := hg
  obtain ⟨its, rv, p, hz⟩ := I.list hq
  obtain ⟨u, hu, ru⟩ := rv.get hx
  have hel : e < s.heap.objs.size := Heap.lt_size he
  have hil : it < s.heap.objs.size := by obtain ⟨_, q, _⟩ := hit; exact Heap.lt_size q
  refine wpAny_pyNext_enum_item he hit p.isList (x := u) (by simpa using hu) hne fun h' ho hit' hT hsz hk => ?_
  refine ⟨_, rfl, wpAny_letOwnedTupleGo_enum (s := { s with heap := h', toks := s.toks + 1 }) ho fun h'' he' sb => ?_⟩
  have hT2 : h''.get? s.heap.objs.size = some { cls := .type "tuple", data := .seq #[.int i s.toks, u] } := (sb.2 _ (Nat.ne_of_gt hel)).trans hT
  have new : ObjOk X.prog X.w (upd H s.heap.objs.size (.tup [.int (i : Nat), x])) h'' s.heap.objs.size (.tup [.int (i : Nat), x]) :=
   ⟨by show 2 <= sizeLine; decide, [.int i s.toks, u], .cons ⟨_, rfl⟩ (.cons ru .nil), ⟨_, hT2, rfl, _, rfl⟩⟩
  have I1 : Inv X pins σ (upd H s.heap.objs.size (.tup [.int (i : Nat), x])) { s with heap := h'', toks := s.toks + 1 } :=
   I.turnedNew (ch := [e, it]) (fun b ob hb q => (sb.2 b (fun z => hb (by simp [z]))).trans (hk b ob (fun z => hb (by simp [z])) (fun z => hb (by simp [z])) q)) hf (Nat.le_refl _) new
  refine ⟨.ref s.heap.objs.size, _, I1, rfl, ⟨_, x, rfl, I.hok.fresh (Nat.le_refl _), rfl, fun ys hy => by rw [I.list_inj hy hq]; exact hx⟩, ⟨⟨u, ?_⟩, hit'.at fun o q => (sb.2 it (Ne.symm hne)).trans q, hne⟩, fun b hb => ?_⟩
  ·have e1 : ((i + 1 : Nat) : Int) = (i : Int) + 1 := by omega
   rw [e1]; exact he'
  ·have hb' : b < s.heap.objs.size := by
    have e' : b = e ∨ b = it := by simpa using hb
    rcases e' with z | z
    ·rw [z]; exact hel
    ·rw [z]; exact hil
   rw [upd_ne (Nat.ne_of_lt hb')]
   exact (hf b hb).1
 done := by
  intro X hP hw hK hc i pins s σ H E I hf st hg
  subst hP hw hK
  obtain ⟨⟨old, he⟩, hit, hne⟩ := st
  obtain ⟨xs, hq, hx⟩ := hg
  obtain ⟨its, rv, p, hz⟩ := I.list hq
  obtain ⟨f0, f1, f2, f3, f4, f5⟩ := hf it (by simp)
  have hl := rv.length
  exact wpAny_pyNext_enum_end (I.ok.hd hc) he hit p.isList (by simp; omega) fun h' eb => ⟨rfl, I.turned (t' := s.toks) (fun b o hb q => eb b o hb q) f0 f1 f3 f4 f5⟩
 self := fun A i s Q E st h => let ⟨⟨_, he⟩, _⟩ := st; wpAny_pyIter_enum he h
def iEnum (K : PySem.W.Frag) (ta : TA) : TI := fun σ H R => ta σ H fun vs H1 => ∃ a xs, vs = [.ref a] /\ SqL K H1 a xs /\ R (Ite K a) H1
theorem pi_enum {X : Cx} {e : Expr} {ta : TA} {p pos tpos : Pos} {elts : List Expr} {kk : Nat} (hg : Gl X "enumerate") (hm : X.mg "enumerate" = none) (ha : PA X [e] ta) (hs : starEach [e] X.env = [(false, eval e X.env)] := by rfl) :
  PI X (.Tuple elts kk tpos) (.Call (.Name "enumerate" p) [e] [] pos) (iEnum X.K ta) := by
 intro pins s σ H R I h
 refine Call_ (ld_blt I hg hm boot_enumerate (PyProof.Rows.callWith_type1 (thn (ha pos pins s σ H _ I h) fun us s1 ⟨vs, H1, I1, r1, q1⟩ => ?_) hs rfl))
 obtain ⟨a, xs, ex, hq, q⟩ := q1
 subst ex
 cases r1 with
 | cons r rr =>
  cases rr
  cases r
  obtain ⟨its, rv, p', hz⟩ := I1.list hq
  refine call_enumerate_list p'.isList fun h' he hit hsz hk => wpAny_pyIter_enum he ?_
  have I2 : Inv X pins σ H1 { s1 with heap := h' } := I1.kept (t' := s1.toks) hk
  refine ⟨s1.heap.objs.size + 1, [s1.heap.objs.size + 1, s1.heap.objs.size], _, _, H1, rfl, I2, turn_enum a (s1.heap.objs.size + 1) s1.heap.objs.size, ⟨⟨.none, he⟩, hit, Nat.succ_ne_self _⟩, fun b hb => ?_, q⟩
  have e' : b = s1.heap.objs.size + 1 ∨ b = s1.heap.objs.size := by simpa using hb
  have hle : s1.heap.objs.size <= b := by
   rcases e' with z | z
   ·rw [z]; exact Nat.le_add_right _ _
   ·rw [z]; exact Nat.le_refl _
  exact I1.fpOk hle (I1.hok.fresh hle)
theorem boot_zip5 : bootBuiltins "zip" = some (.type "zip") := by decide +kernel
def Itz (K : PySem.W.Frag) (a b : Addr) : It :=
 ⟨fun i H => ∃ (xs ys : List V) (x y : V), SqL K H a xs /\ SqL K H b ys /\ xs[i]? = some x /\ ys[i]? = some y,
  fun i H v H' => ∃ T x y, v = .ref T /\ H T = none /\ H' = upd H T (.tup [x, y]) /\ (∀ xs, SqL K H a xs -> xs[i]? = some x) /\ ∀ ys, SqL K H b ys -> ys[i]? = some y,
  fun i H => ∃ xs ys : List V, SqL K H a xs /\ SqL K H b ys /\ (xs.length <= i ∨ ys.length <= i)⟩
theorem turn_zip {P : Program} {w : World} {K : PySem.W.Frag} {elts : List Expr} {kk : Nat} {tpos : Pos} {a b z TI TO i1 i2 : Addr} (D : ZipApart z TI TO i1 i2 a b) :
  Turn P w K (.Tuple elts kk tpos) (Itz K a b) [z, TI, TO, i1, i2] z (fun i h => IsZip h z TI TO .none /\ IsPair h TI (.ref i1) (.ref i2) /\ (∃ x y, IsPair h TO x y) /\ h.IsListIter i1 a i /\ h.IsListIter i2 b i) where
 mem := by simp
 obj := fun i h st c hc => by
  obtain ⟨hz, hTI, ⟨x, y, hTO⟩, ⟨o1, e1, _, d1⟩, ⟨o2, e2, _, d2⟩⟩ := st
  have e' : c = z ∨ c = TI ∨ c = TO ∨ c = i1 ∨ c = i2 := by simpa using hc
  rcases e' with q | q | q | q | q
  ·rw [q]; exact ⟨_, hz, fun v q => nomatch q⟩
  ·rw [q]; exact ⟨_, hTI, fun v q => nomatch q⟩
  ·rw [q]; exact ⟨_, hTO, fun v q => nomatch q⟩
  ·rw [q]; exact ⟨o1, e1, fun v q => by rw [d1] at q; cases q⟩
  ·rw [q]; exact ⟨o2, e2, fun v q => by rw [d2] at q; cases q⟩
 keep := fun i h h' st k => by
  obtain ⟨hz, hTI, ⟨x, y, hTO⟩, h1, h2⟩ := st
  exact ⟨k z (by simp) _ hz, k TI (by simp) _ hTI, ⟨x, y, k TO (by simp) _ hTO⟩, h1.at fun o q => k i1 (by simp) o q, h2.at fun o q => k i2 (by simp) o q⟩
 item := by
  intro X hP hw hK hc i pins s σ H E I hf st hg
  subst hP hw hK
  obtain ⟨hz, hTI, ⟨x0, y0, hTO⟩, h1, h2⟩ := st
  obtain ⟨xs, ys, x, y, hqx, hqy, hx, hy⟩ := hg
  obtain ⟨its, rv, p, _⟩ := I.list hqx
  obtain ⟨its2, rv2, p2, _⟩ := I.list hqy
  obtain ⟨u, hu, ru⟩ := rv.get hx
  obtain ⟨u2, hu2, ru2⟩ := rv2.get hy
  have hzl : z < s.heap.objs.size := Heap.lt_size hz
  refine wpAny_pyNext_zip_item D hz hTI hTO h1 h2 p.isList p2.isList (x := u) (y := u2) (by simpa using hu) (by simpa using hu2) fun h' z' TO' h1' h2' hT hsz hk => ?_
  refine ⟨_, rfl, wpAny_letOwnedTupleGo_zip (s := { s with heap := h' }) z' fun h'' z'' sb => ?_⟩
  have hT2 : h''.get? s.heap.objs.size = some { cls := .type "tuple", data := .seq #[u, u2] } := (sb.2 _ (Nat.ne_of_gt hzl)).trans hT
  have new : ObjOk X.prog X.w (upd H s.heap.objs.size (.tup [x, y])) h'' s.heap.objs.size (.tup [x, y]) :=
   ⟨by show 2 <= sizeLine; decide, [u, u2], .cons ru (.cons ru2 .nil), ⟨_, hT2, rfl, _, rfl⟩⟩
  have I1 : Inv X pins σ (upd H s.heap.objs.size (.tup [x, y])) { s with heap := h'' } :=
   I.turnedNew (t' := s.toks) (ch := [z, TI, TO, i1, i2]) (fun c o hb q => (sb.2 c (fun q' => hb (by simp [q']))).trans (hk c o (fun q' => hb (by simp [q'])) (fun q' => hb (by simp [q'])) (fun q' => hb (by simp [q'])) (fun q' => hb (by simp [q'])) q)) hf (Nat.le_refl _) new
  refine ⟨.ref s.heap.objs.size, _, I1, rfl, ⟨_, x, y, rfl, I.hok.fresh (Nat.le_refl _), rfl, fun l hl => by rw [I.list_inj hl hqx]; exact hx, fun l hl => by rw [I.list_inj hl hqy]; exact hy⟩, ⟨z'', ?_, ⟨u, u2, ?_⟩, ?_, ?_⟩, fun c hcm => ?_⟩
  ·exact (sb.2 _ D.TIz).trans (hk _ _ D.TIz D.TITO D.TIi1 D.TIi2 hTI)
  ·exact (sb.2 _ D.TOz).trans TO'
  ·exact h1'.at fun o q => (sb.2 _ D.i1z).trans q
  ·exact h2'.at fun o q => (sb.2 _ D.i2z).trans q
  ·have hlt : c < s.heap.objs.size := by
    have e' : c = z ∨ c = TI ∨ c = TO ∨ c = i1 ∨ c = i2 := by simpa using hcm
    rcases e' with q | q | q | q | q
    ·rw [q]; exact hzl
    ·rw [q]; exact Heap.lt_size hTI
    ·rw [q]; exact Heap.lt_size hTO
    ·rw [q]; obtain ⟨_, e1, _⟩ := h1; exact Heap.lt_size e1
    ·rw [q]; obtain ⟨_, e2, _⟩ := h2; exact Heap.lt_size e2
   rw [upd_ne (Nat.ne_of_lt hlt)]
   exact (hf c hcm).1
 done := by
  intro X hP hw hK hc i pins s σ H E I hf st hg
  subst hP hw hK
  obtain ⟨hz, hTI, ⟨x0, y0, hTO⟩, h1, h2⟩ := st
  obtain ⟨xs, ys, hqx, hqy, hend⟩ := hg
  obtain ⟨its, rv, p, _⟩ := I.list hqx
  obtain ⟨its2, rv2, p2, _⟩ := I.list hqy
  have l1 := rv.length
  have l2 := rv2.length
  have he : its.toArray[i]? = none ∨ its2.toArray[i]? = none := by
   rcases hend with q | q
   ·exact .inl (by simp; omega)
   ·exact .inr (by simp; omega)
  exact wpAny_pyNext_zip_end (I.ok.hd hc) D hz hTI hTO h1 h2 p.isList p2.isList he fun h' hk => ⟨rfl, I.turnedL (t' := s.toks) (ch := [z, TI, TO, i1, i2]) (fun c o hb q =>
   hk c o (fun q' => hb (by simp [q'])) (fun q' => hb (by simp [q'])) (fun q' => hb (by simp [q'])) (fun q' => hb (by simp [q'])) q) hf⟩
 self := fun A i s Q E st h => wpAny_pyIter_zip st.1 h
def iZip (K : PySem.W.Frag) (ta : TA) : TI := fun σ H R => ta σ H fun vs H1 => ∃ a b xs ys, vs = [.ref a, .ref b] /\ SqL K H1 a xs /\ SqL K H1 b ys /\ R (Itz K a b) H1
theorem pi_zip {X : Cx} {e e2 : Expr} {ta : TA} {p pos tpos : Pos} {elts : List Expr} {kk : Nat} (hg : Gl X "zip") (hm : X.mg "zip" = none) (ha : PA X [e, e2] ta)
  (hs : starEach [e, e2] X.env = (false, eval e X.env) :: starEach [e2] X.env := by rfl) (hpl : (backTo pos (starEach [e2] X.env)).any (·.1) = false := by rfl) :
  PI X (.Tuple elts kk tpos) (.Call (.Name "zip" p) [e, e2] [] pos) (iZip X.K ta) := by
 intro pins s σ H R I h
 refine Call_ (ld_blt I hg hm boot_zip5 (PyProof.Rows.callWith_type1 (thn (ha pos pins s σ H _ I h) fun us s1 ⟨vs, H1, I1, r1, q1⟩ => ?_) hs hpl))
 obtain ⟨a, b, xs, ys, ex, hqx, hqy, q⟩ := q1
 subst ex
 cases r1 with
 | cons r rr =>
  cases rr with
  | cons r' rr =>
   cases rr
   cases r
   cases r'
   obtain ⟨its, rv, p1, _⟩ := I1.list hqx
   obtain ⟨its2, rv2, p2, _⟩ := I1.list hqy
   have la : a < s1.heap.objs.size := p1.lt
   have lb : b < s1.heap.objs.size := p2.lt
   refine call_zip_2 p1.isList p2.isList fun h' hz hTI hTO h1 h2 hsz hk => wpAny_pyIter_zip hz ?_
   have I2 : Inv X pins σ H1 { s1 with heap := h' } := I1.kept (t' := s1.toks) hk
   refine ⟨s1.heap.objs.size + 4, [s1.heap.objs.size + 4, s1.heap.objs.size + 2, s1.heap.objs.size + 3, s1.heap.objs.size, s1.heap.objs.size + 1], _, _, H1, rfl, I2, turn_zip (PySem.W.ktu_apart s1.heap.objs.size a b la lb), ⟨hz, hTI, ⟨_, _, hTO⟩, h1, h2⟩, fun c hcm => ?_, q⟩
   have e' : c = s1.heap.objs.size + 4 ∨ c = s1.heap.objs.size + 2 ∨ c = s1.heap.objs.size + 3 ∨ c = s1.heap.objs.size ∨ c = s1.heap.objs.size + 1 := by simpa using hcm
   have hle : s1.heap.objs.size <= c := by
    rcases e' with z | z | z | z | z
    ·rw [z]; exact Nat.le_add_right _ _
    ·rw [z]; exact Nat.le_add_right _ _
    ·rw [z]; exact Nat.le_add_right _ _
    ·rw [z]; exact Nat.le_refl _
    ·rw [z]; exact Nat.le_add_right _ _
   exact I1.fpOk hle (I1.hok.fresh hle)
end L2
section
namespace Bits
open PySem PyProof.Rows
end Bits
end
section
namespace TL
open PySem PySem.Builtin PySem.Builtin.Str PySem.StrLaws
end TL
end
namespace L2
open PySem PySem.Spec PyProof.Rows
section
variable {X : Cx} {pins : List (Addr × Obj)} {σ : St} {H : Hp} {s : Shared} {Q : VK}
end
section
variable {X : Cx}
end
section
variable {X : Cx} {o e : Expr} {to te : TE}
end
section
variable {X : Cx}
end
end L2
namespace Att
open PySem PySem.W PySem.Calls PyProof.Rows
section
variable {prog : Program} {w : World} {A : Around} {E : Value -> Shared -> Prop} {s : Shared} {K : Frag}
def noObjs (h : Heap) : Heap := { h with objs := #[] }
theorem noObjs_get (h : Heap) (b : Addr) : (noObjs h).get? b = none := by
 cases e : (noObjs h).get? b with
 | none => rfl
 | some o => exact absurd (Heap.lt_size e) (Nat.not_lt_zero _)
def ledger (h : Heap) (L d : Addr) : List (Addr × Obj) := (List.range h.objs.size).filterMap fun a => if a = L ∨ a = d then none else (h.get? a).map fun o => (a, o)
theorem mem_ledger {h : Heap} {L d a : Addr} {o : Obj} : (a, o) ∈ ledger h L d ↔ a ≠ L /\ a ≠ d /\ h.get? a = some o := by
 unfold ledger
 rw [List.mem_filterMap]
 constructor
 ·rintro ⟨b, _, e⟩
  split at e
  ·cases e
  ·rename_i hb
   obtain ⟨o', ho, e'⟩ := Option.map_eq_some_iff.mp e
   cases e'
   exact ⟨fun q => hb (.inl q), fun q => hb (.inr q), ho⟩
 ·rintro ⟨n1, n2, ho⟩
  refine ⟨a, List.mem_range.mpr (Heap.lt_size ho), ?_⟩
  rw [if_neg (show ¬ (a = L ∨ a = d) from fun q => q.elim n1 n2), ho] <;> rfl
theorem fr_all {h : Heap} {L : Addr} {m : Str -> Option Value} (n : h.Ns L m) : Fr (noObjs h) L h m :=
 ⟨n, fun b o e => (by rw [noObjs_get] at e; cases e), Nat.zero_le _⟩
end
end Att
namespace L2
open PySem PySem.Spec PyProof.Rows
def inClass (s : Stmt) (j : Nat) : Stmt := match s with
 | .ClassDef _ _ _ body _ _ _ _ _ _ _ => body.getD j (.Pass ⟨0, 0, 0, 0⟩)
 | _ => .Pass ⟨0, 0, 0, 0⟩
def defArgs (s : Stmt) : Arguments := match s with
 | .FunctionDef _ a _ _ _ _ _ _ _ _ => a
 | _ => { posonlyargs := [], args := [], vararg := none, kwonlyargs := [], kw_defaults := [], kwarg := none, defaults := [] }
def defBody (s : Stmt) : List Stmt := match s with
 | .FunctionDef _ _ b _ _ _ _ _ _ _ => b
 | _ => []
def defScope (s : Stmt) : Scope := match s with
 | .FunctionDef _ _ _ _ _ _ sc _ _ _ => sc
 | _ => { kind := .function, names := [], isGenerator := false, isCoroutine := false }
abbrev CX0 : CXT := fun _ _ _ _ _ _ => False
abbrev E0 : XK := fun _ _ _ => False
theorem pass0 {X : Cx} : Passes CX0 X E0 := fun _ _ _ _ _ _ _ h => h.elim
structure Fun (K : PySem.W.Frag) (x qual : Str) (st : Stmt) (f : Addr) (fd : FuncData) : Prop where
 ex : ∃ (oc : Value) (od : Option Addr) (kV doc pm : Value) (an : Option Addr) (cdv ct : Value) (osl : Array (Option Value)),
  fd = PySem.W.fnOf x qual (defArgs st) (defBody st) (defScope st) .none kV doc pm an cdv ct /\ K.lookup f = some ⟨oc, od, .func fd, osl⟩ /\ PySem.W.codeIn K cdv qual = true
 kp : PySem.W.keepIn K (.ref f) = true
section
variable {P : Program} {w : World} {K : PySem.W.Frag} {mg : Str -> Option Value} {base : Heap}
theorem Fun.ok {x qual : Str} {st : Stmt} {f : Addr} {fd : FuncData} {N ps : List Str} {k : Nat} {sp : Sp} (F : Fun K x qual st f fd) (S : FnScope N ps (defScope st)) (len : ∀ vs H Q E, sp vs H Q E -> vs.length = ps.length)
  (hbody : ∀ (cdv : Value) (A : Around) (outer : List Env) (s : Shared) (H : Hp) (vs : List V) (Q : VK) (E : XK), Room k (A.deeper (envOfC qual (defScope st) s.heap.objs.size f cdv)) -> sp vs H Q E ->
   ∃ t, PSs (cxOf CX0 P w K mg base N qual (defScope st) f cdv A outer s H E).nox (defBody st) t /\ t { nx := fun _ H' => Q .non H', rt := Q } (start N vs) H) : FnOk P w K mg base CX0 (k + 1) f fd ps sp := by
 obtain ⟨oc, od, kV, doc, pm, an, cdv, ct, osl, rfl, lk, hcd⟩ := F.ex
 refine fn_of lk hcd S len fun A outer s H vs Q E hr hsp => ?_
 obtain ⟨t, h, q⟩ := hbody cdv A outer s H vs Q E hr hsp
 exact ⟨t, h.nox, q⟩
theorem Fun.binds {x qual : Str} {st : Stmt} {f : Addr} {fd : FuncData} {ps : List Str} (F : Fun K x qual st f fd)
  (h : ∀ (kV doc pm : Value) (an : Option Addr) (cdv ct : Value) (us : List Value), us.length = ps.length -> bindArgs (PySem.W.fnOf x qual (defArgs st) (defBody st) (defScope st) .none kV doc pm an cdv ct) ⟨us, []⟩ = pure (ps.zip us)) : Binds K fd ps [] := by
 obtain ⟨oc, od, kV, doc, pm, an, cdv, ct, osl, rfl, lk, hcd⟩ := F.ex
 exact .all (h kV doc pm an cdv ct)
theorem fun_mk {x qual : Str} {st : Stmt} {f : Addr} {oc : Value} {od an : Option Addr} {osl : Array (Option Value)} {kV doc pm cdv ct : Value} (l : K.lookup f = some ⟨oc, od, .func (PySem.W.fnOf x qual (defArgs st) (defBody st) (defScope st) .none kV doc pm an cdv ct), osl⟩)
  (c : PySem.W.codeIn K cdv qual = true) (k : PySem.W.keepIn K (.ref f) = true) : Fun K x qual st f (PySem.W.fnOf x qual (defArgs st) (defBody st) (defScope st) .none kV doc pm an cdv ct) := ⟨⟨oc, od, kV, doc, pm, an, cdv, ct, osl, rfl, l, c⟩, k⟩
end
section
variable {X : Cx}
theorem pv (i : Nat) {x : Str} {pos : Pos} (hN : X.N[i]? = some x := by rfl) (hv : Vis X.env.scope x := by first | exact Or.inl rfl | exact Or.inr (Or.inl rfl) | exact Or.inr (Or.inr rfl)) (hd : (x == ("__debug__" : Str)) = false := by decide)
  (hcd : (x == ("__classdict__" : Str)) = false := by decide) : PE X (.Name x pos) (tVar i) := pe_var hN hv hd hcd
end
theorem iteF {A B : Prop} (h : B) : if false = true then A else B := by
 rw [if_neg Bool.false_ne_true]
 exact h
theorem iteT {A B : Prop} (h : A) : if true = true then A else B := by
 rw [if_pos rfl]
 exact h
theorem ite2 {c A B : Prop} [Decidable c] (h1 : c -> A) (h2 : ¬ c -> B) : if c then A else B := by
 by_cases h : c
 ·rw [if_pos h]
  exact h1 h
 ·rw [if_neg h]
  exact h2 h
def Same (H H' : Hp) : Prop := ∀ b o, H b = some o -> H' b = some o
theorem Same.trans {H H1 H2 : Hp} (a : Same H H1) (b : Same H1 H2) : Same H H2 := fun c o h => b c o (a c o h)
theorem Same.free {H H' : Hp} (e : Same H H') {l : Addr} (h : H' l = Option.none) : H l = Option.none := by
 cases q : H l with
 | none => rfl
 | some o =>
  rw [e l o q] at h
  cases h
theorem Same.seq {K : PySem.W.Frag} {H H' : Hp} {a : Addr} {xs : List V} (e : Same H H') (h : SqL K H a xs) : SqL K H' a xs := by
 rcases h with (h | ⟨o, h⟩) | h
 ·exact .inl (.inl (e _ _ h))
 ·exact .inl (.inr ⟨o, e _ _ h⟩)
 ·exact .inr h
section
variable {κ : Type} [DecidableEq κ]
end
theorem at_of {xs : List V} {z : Int} {j : Nat} {v : V} (e : z = (j : Int)) (h : xs[j]? = some v) : atI xs z = some v := by
 rw [e]
 exact atI_nat h
theorem nd_ix {α : Type} {l : List α} (hN : l.Nodup) {i j : Nat} {x : α} (a : l[i]? = some x) (b : l[j]? = some x) : i = j := by
 obtain ⟨h1, e1⟩ := List.getElem?_eq_some_iff.mp a
 obtain ⟨h2, e2⟩ := List.getElem?_eq_some_iff.mp b
 exact (List.getElem_inj hN).mp (e1.trans e2.symm)
end L2
section
namespace L2
open PySem PySem.Spec PyProof.Rows
open PySem.W (WData Codec OpenSpec Well WellAll ReadsW ReadsAllW)
mutual
inductive Dw (K : PySem.W.Frag) (H : Hp) : V -> WData -> Prop
 | non : Dw K H .non .none
 | bl (b : Bool) : Dw K H (.bl b) (.bool b)
 | int (i : Int) : Dw K H (.int i) (.int i)
 | str (x : Str) : Dw K H (.str x) (.str x)
 | byt (b : Array UInt8) : Dw K H (.byt b) (.bytes b.toList)
 | lst {a : Addr} {xs : List V} {ds : List WData} : SqL K H a xs -> DwAll K H xs ds -> Dw K H (.ref a) (.list ds)
 | tup {a : Addr} {xs : List V} {ds : List WData} : SqT K H a xs -> DwAll K H xs ds -> Dw K H (.ref a) (.tuple ds)
inductive DwAll (K : PySem.W.Frag) (H : Hp) : List V -> List WData -> Prop
 | nil : DwAll K H [] []
 | cons {v : V} {vs : List V} {d : WData} {ds : List WData} : Dw K H v d -> DwAll K H vs ds -> DwAll K H (v :: vs) (d :: ds)
end
theorem dw_ints {K : PySem.W.Frag} {H : Hp} : ∀ ns : List Int, DwAll K H (ns.map V.int) (ns.map WData.int)
 | [] => .nil
 | n :: r => .cons (.int n) (dw_ints r)
theorem ints_dw {K : PySem.W.Frag} {H : Hp} : ∀ (ns : List Int) (xs : List V), DwAll K H xs (ns.map WData.int) -> xs = ns.map V.int
 | [], xs, h => by
  cases h
  rfl
 | n :: r, xs, h => by
  cases h with
  | cons h1 h2 =>
   cases h1
   rw [ints_dw r _ h2] <;> rfl
section
variable {P : Program} {w : World} {K : PySem.W.Frag} {H : Hp} {h : Heap} {R : PySem.W.WRecords} {cl : Str -> Option Addr}
theorem sqL_at {a : Addr} {xs : List V} (hok : HOk P w H h) (KX : K.In h) (q : SqL K H a xs) : ∃ (its : List Value) (o : Obj) (n : Nat), Vals xs its /\ h.get? a = some o /\ o.cls = .type "list" /\ o.data = .seq its.toArray n := by
 rcases q with q | ⟨o, its, n, e, hc, _, hd, _, hv⟩
 ·obtain ⟨_, its, n, hv, e⟩ := (show ObjOk P w H h a (.lst xs) from q.ok hok)
  exact ⟨its, _, n, hv, e, rfl, rfl⟩
 ·exact ⟨its.toList, o, n, hv, KX _ _ e, hc, by simp [hd]⟩
theorem sqT_at {a : Addr} {xs : List V} (hok : HOk P w H h) (KX : K.In h) (q : SqT K H a xs) : ∃ (its : List Value) (o : Obj) (n : Nat), Vals xs its /\ h.get? a = some o /\ o.cls = .type "tuple" /\ o.data = .seq its.toArray n := by
 rcases q with q | ⟨o, its, n, e, hc, hd, _, hv⟩
 ·obtain ⟨_, its, hv, o, e, hc, n, hd⟩ := (show ObjOk P w H h a (.tup xs) from q.ok hok)
  exact ⟨its, o, n, hv, e, hc, hd⟩
 ·exact ⟨its.toList, o, n, hv, KX _ _ e, hc, by simp [hd]⟩
mutual
theorem Dw.reads (hok : HOk P w H h) (KX : K.In h) : ∀ (d : WData) (v : V) (u : Value), Dw K H v d -> RelV v u -> ∃ as, ReadsW R cl h u d as
 | .none, _, _, x, r => by
  cases x
  cases r
  exact ⟨_, ReadsW.none⟩
 | .bool b, _, _, x, r => by
  cases x
  cases r
  exact ⟨_, ReadsW.bool b⟩
 | .int i, _, _, x, r => by
  cases x
  obtain ⟨t, rfl⟩ := r
  exact ⟨_, ReadsW.int i t⟩
 | .str s, _, _, x, r => by
  cases x
  obtain ⟨t, rfl⟩ := r
  exact ⟨_, ReadsW.str s t⟩
 | .bytes b, _, _, x, r => by
  cases x
  obtain ⟨t, rfl⟩ := r
  exact ⟨_, ReadsW.bytes _ t⟩
 | .list ds, _, _, x, r => by
  cases x with
  | lst hs ha =>
   cases r
   obtain ⟨its, o, n, rv, ho, hc, hd⟩ := sqL_at hok KX hs
   obtain ⟨as, hr⟩ := Dw.readsAll hok KX ds _ its ha rv
   exact ⟨_, ReadsW.list ho hc hd hr⟩
 | .tuple ds, _, _, x, r => by
  cases x with
  | tup hs ha =>
   cases r
   obtain ⟨its, o, n, rv, ho, hc, hd⟩ := sqT_at hok KX hs
   obtain ⟨as, hr⟩ := Dw.readsAll hok KX ds _ its ha rv
   exact ⟨_, ReadsW.tuple ho hc hd hr⟩
 | .float _, _, _, x, _ => by cases x
 | .dict _, _, _, x, _ => by cases x
 | .bytearray _, _, _, x, _ => by cases x
 | .set _, _, _, x, _ => by cases x
 | .frozenset _, _, _, x, _ => by cases x
 | .obj _ _, _, _, x, _ => by cases x
theorem Dw.readsAll (hok : HOk P w H h) (KX : K.In h) : ∀ (ds : List WData) (vs : List V) (us : List Value), DwAll K H vs ds -> Vals vs us -> ∃ as, ReadsAllW R cl h us ds as
 | [], _, _, x, r => by
  cases x
  cases r
  exact ⟨_, ReadsAllW.nil⟩
 | d :: ds, _, _, x, r => by
  cases x with
  | cons h1 h2 =>
   cases r with
   | cons r1 r2 =>
    obtain ⟨as, q1⟩ := Dw.reads hok KX d _ _ h1 r1
    obtain ⟨bs, q2⟩ := Dw.readsAll hok KX ds _ _ h2 r2
    exact ⟨_, ReadsAllW.cons q1 q2⟩
end
end
mutual
def plW : WData -> Bool
 | .none => true
 | .bool _ => true
 | .int _ => true
 | .str _ => true
 | .bytes _ => true
 | .list xs => plWs xs
 | .tuple xs => plWs xs
 | _ => false
def plWs : List WData -> Bool
 | [] => true
 | x :: r => plW x && plWs r
end
theorem plWs_map {α : Type} {f : α -> WData} (h : ∀ a, plW (f a) = true) : ∀ l : List α, plWs (l.map f) = true
 | [] => rfl
 | x :: r => by
  show (plW (f x) && plWs (r.map f)) = true
  rw [h x, plWs_map h r] <;> rfl
theorem pl_enc : ∀ (c : Codec) (a : c.denote), plW (c.enc a) = true
 | .unit, _ => rfl
 | .bool, _ => rfl
 | .int _ _, _ => rfl
 | .nat _ _, _ => rfl
 | .u8, _ => rfl
 | .bytes _ _, _ => rfl
 | .text _ _ _ _, _ => rfl
 | .list _ _ c, a => plWs_map (fun x => pl_enc c x) a
 | .pair c d, a => by
  show (plW (c.enc a.1) && (plW (d.enc a.2) && true)) = true
  rw [pl_enc c a.1, pl_enc d a.2] <;> rfl
 | .triple c d e, a => by
  show (plW (c.enc a.1) && (plW (d.enc a.2.1) && (plW (e.enc a.2.2) && true))) = true
  rw [pl_enc c a.1, pl_enc d a.2.1, pl_enc e a.2.2] <;> rfl
 | .option c, none => rfl
 | .option c, some x => pl_enc c x
theorem pl_encAll : ∀ (cs : List Codec) (a : Codec.denoteAll cs), plWs (Codec.encAll cs a) = true
 | [], _ => rfl
 | c :: cs, a => by
  show (plW (c.enc a.1) && plWs (Codec.encAll cs a.2)) = true
  rw [pl_enc c a.1, pl_encAll cs a.2] <;> rfl
theorem weight_mem : ∀ {xs : List WData} {d : WData}, d ∈ xs -> d.weight <= WData.weightAll xs
 | [], d, h => absurd h (by simp)
 | x :: r, d, h => by
  show d.weight <= x.weight + 1 + WData.weightAll r
  rcases List.mem_cons.mp h with e | m
  ·rw [e]
   omega
  ·have z := weight_mem m
   omega
def toV : Value -> V
 | .none => .non
 | .bool b => .bl b
 | .int i _ => .int i
 | .str x _ => .str x
 | .bytes b _ => .byt b
 | .ref a => .ref a
 | _ => .non
def OkU (A : List Addr) : Value -> Prop
 | .none => True
 | .bool _ => True
 | .int _ _ => True
 | .str _ _ => True
 | .bytes _ _ => True
 | .ref a => a ∈ A
 | _ => False
theorem OkU.mono {A B : List Addr} (h : ∀ a ∈ A, a ∈ B) : ∀ {u : Value}, OkU A u -> OkU B u := fun {u} x => by
 cases u with
 | ref a => exact h a x
 | none => trivial
 | bool b => trivial
 | int i t => trivial
 | str s t => trivial
 | bytes b t => trivial
 | _ => exact False.elim x
theorem relV_toV {A : List Addr} {u : Value} (x : OkU A u) : RelV (toV u) u := by
 cases u with
 | ref a => rfl
 | none => rfl
 | bool b => rfl
 | int i t => exact ⟨t, rfl⟩
 | str s t => exact ⟨t, rfl⟩
 | bytes b t => exact ⟨t, rfl⟩
 | _ => exact False.elim x
theorem vals_toV {A : List Addr} : ∀ {vs : List Value}, (∀ u ∈ vs, OkU A u) -> Vals (vs.map toV) vs
 | [], _ => .nil
 | u :: r, h => .cons (relV_toV (h u (List.mem_cons_self ..))) (vals_toV fun x hx => h x (List.mem_cons_of_mem _ hx))
def ArgOb (h : Heap) (A : List Addr) (a : Addr) : Prop := ∃ vs : List Value, vs.length <= sizeLine /\ (∀ u ∈ vs, OkU A u) /\
 (h.get? a = some { cls := .type "list", data := .seq vs.toArray } ∨ h.get? a = some { cls := .type "tuple", data := .seq vs.toArray })
theorem ArgOb.mono {h : Heap} {A B : List Addr} {a : Addr} (k : ∀ a ∈ A, a ∈ B) (x : ArgOb h A a) : ArgOb h B a := by
 obtain ⟨vs, h1, h2, h3⟩ := x
 exact ⟨vs, h1, fun u hu => (h2 u hu).mono k, h3⟩
theorem wellAll_len {P : Params} {h : Heap} : ∀ {vs : List Value} {ds : List WData}, WellAll P h vs ds -> vs.length = ds.length
 | _, _, .nil => rfl
 | _, _, .cons _ b => by
  show _ + 1 = _ + 1
  rw [wellAll_len b]
theorem well_list {P : Params} {h : Heap} {v : Value} {ds : List WData} (x : Well P h v (.list ds)) : ∃ (a : Addr) (vs : List Value), v = .ref a /\ h.get? a = some { cls := .type "list", data := .seq vs.toArray } /\ WellAll P h vs ds := by
 cases x with
 | list ho hall => exact ⟨_, _, rfl, ho, hall⟩
theorem well_tuple {P : Params} {h : Heap} {v : Value} {ds : List WData} (x : Well P h v (.tuple ds)) : ∃ (a : Addr) (vs : List Value), v = .ref a /\ h.get? a = some { cls := .type "tuple", data := .seq vs.toArray } /\ WellAll P h vs ds := by
 cases x with
 | tuple ho hall => exact ⟨_, _, rfl, ho, hall⟩
theorem well_cons {P : Params} {h : Heap} {us : List Value} {d : WData} {ds : List WData} (x : WellAll P h us (d :: ds)) : ∃ (v : Value) (vs : List Value), us = v :: vs /\ Well P h v d /\ WellAll P h vs ds := by
 cases x with
 | cons a b => exact ⟨_, _, rfl, a, b⟩
theorem line_of {n : Nat} (h : n <= 1048576) : n <= sizeLine := Nat.le_trans h (by decide)
section
variable {P : Params} {h : Heap}
mutual
theorem area_one : ∀ (d : WData) (v : Value), Well P h v d -> plW d = true -> d.weight <= 1048576 -> ∃ A : List Addr, OkU A v /\ ∀ a ∈ A, ArgOb h A a
 | .none, _, x, _, _ => by
  cases x
  exact ⟨[], trivial, fun a m => absurd m (by simp)⟩
 | .bool b, _, x, _, _ => by
  cases x
  exact ⟨[], trivial, fun a m => absurd m (by simp)⟩
 | .int i, _, x, _, _ => by
  cases x
  exact ⟨[], trivial, fun a m => absurd m (by simp)⟩
 | .str s, _, x, _, _ => by
  cases x
  exact ⟨[], trivial, fun a m => absurd m (by simp)⟩
 | .bytes b, _, x, _, _ => by
  cases x
  exact ⟨[], trivial, fun a m => absurd m (by simp)⟩
 | .list ds, _, x, p, z => by
  obtain ⟨a, vs, rfl, ho, hall⟩ := well_list x
  have z2 : WData.weightAll ds <= 1048576 := z
  obtain ⟨A, h1, h2⟩ := area_all ds _ hall p fun d hd => Nat.le_trans (weight_mem hd) z2
  have k : ∀ b ∈ A, b ∈ a :: A := fun b hb => List.mem_cons_of_mem _ hb
  refine ⟨a :: A, List.mem_cons_self .., fun b hb => ?_⟩
  rcases List.mem_cons.mp hb with e | m
  ·rw [e]
   exact ⟨vs, line_of (by rw [wellAll_len hall]; exact Nat.le_trans (PySem.W.length_le_weightAllW ds) z2), fun u hu => (h1 u hu).mono k, .inl ho⟩
  ·exact (h2 b m).mono k
 | .tuple ds, _, x, p, z => by
  obtain ⟨a, vs, rfl, ho, hall⟩ := well_tuple x
  have z2 : WData.weightAll ds <= 1048576 := z
  obtain ⟨A, h1, h2⟩ := area_all ds _ hall p fun d hd => Nat.le_trans (weight_mem hd) z2
  have k : ∀ b ∈ A, b ∈ a :: A := fun b hb => List.mem_cons_of_mem _ hb
  refine ⟨a :: A, List.mem_cons_self .., fun b hb => ?_⟩
  rcases List.mem_cons.mp hb with e | m
  ·rw [e]
   exact ⟨vs, line_of (by rw [wellAll_len hall]; exact Nat.le_trans (PySem.W.length_le_weightAllW ds) z2), fun u hu => (h1 u hu).mono k, .inr ho⟩
  ·exact (h2 b m).mono k
 | .float _, _, _, p, _ => Bool.noConfusion (show false = true from p)
 | .dict _, _, _, p, _ => Bool.noConfusion (show false = true from p)
 | .bytearray _, _, _, p, _ => Bool.noConfusion (show false = true from p)
 | .set _, _, _, p, _ => Bool.noConfusion (show false = true from p)
 | .frozenset _, _, _, p, _ => Bool.noConfusion (show false = true from p)
 | .obj _ _, _, _, p, _ => Bool.noConfusion (show false = true from p)
theorem area_all : ∀ (ds : List WData) (vs : List Value), WellAll P h vs ds -> plWs ds = true -> (∀ d ∈ ds, d.weight <= 1048576) -> ∃ A : List Addr, (∀ u ∈ vs, OkU A u) /\ ∀ a ∈ A, ArgOb h A a
 | [], _, x, _, _ => by
  cases x
  exact ⟨[], fun u m => absurd m (by simp), fun a m => absurd m (by simp)⟩
 | d :: ds, _, x, p, z => by
  obtain ⟨v, vs, rfl, x1, x2⟩ := well_cons x
  have q : plW d = true /\ plWs ds = true := Bool.and_eq_true_iff.mp p
  obtain ⟨A, a1, a2⟩ := area_one d v x1 q.1 (z d (List.mem_cons_self ..))
  obtain ⟨B, b1, b2⟩ := area_all ds vs x2 q.2 fun e he => z e (List.mem_cons_of_mem _ he)
  have kA : ∀ b ∈ A, b ∈ A ++ B := fun b hb => List.mem_append.mpr (.inl hb)
  have kB : ∀ b ∈ B, b ∈ A ++ B := fun b hb => List.mem_append.mpr (.inr hb)
  refine ⟨A ++ B, fun u hu => ?_, fun b hb => ?_⟩
  ·rcases List.mem_cons.mp hu with e | m
   ·rw [e]
    exact a1.mono kA
   ·exact (b1 u m).mono kB
  ·rcases List.mem_append.mp hb with m | m
   ·exact (a2 b m).mono kA
   ·exact (b2 b m).mono kB
end
end
def hoOf (o : Obj) : Option HO := match o.data with
 | .seq vs _ => if (o.cls == Value.type "list") = true then some (.frz o (.lst (vs.toList.map toV))) else some (.frz o (.tup (vs.toList.map toV)))
 | _ => none
def argH (K : PySem.W.Frag) (h : Heap) (A : List Addr) : Hp := fun b => if b ∈ A then (if (K.lookup b).isNone = true then (h.get? b).bind hoOf else none) else none
def OnlyF (H : Hp) : Prop := ∀ b, H b = none ∨ ∃ o u, H b = some (.frz o u)
theorem hoOf_lst (vs : List Value) : hoOf { cls := .type "list", data := .seq vs.toArray } = some (.frz { cls := .type "list", data := .seq vs.toArray } (.lst (vs.map toV))) := by
 show (if (Value.type "list" == Value.type "list") = true then some (HO.frz { cls := .type "list", data := .seq vs.toArray } (.lst (vs.toArray.toList.map toV))) else some (HO.frz { cls := .type "list", data := .seq vs.toArray } (.tup (vs.toArray.toList.map toV)))) = _
 rw [if_pos (beq_self_eq_true _)]
theorem hoOf_tup (vs : List Value) : hoOf { cls := .type "tuple", data := .seq vs.toArray } = some (.frz { cls := .type "tuple", data := .seq vs.toArray } (.tup (vs.map toV))) := by
 show (if (Value.type "tuple" == Value.type "list") = true then some (HO.frz { cls := .type "tuple", data := .seq vs.toArray } (.lst (vs.toArray.toList.map toV))) else some (HO.frz { cls := .type "tuple", data := .seq vs.toArray } (.tup (vs.toArray.toList.map toV)))) = _
 rw [if_neg (by decide)]
section
variable {P : Program} {w : World} {K : PySem.W.Frag} {h : Heap} {A : List Addr}
theorem argH_at {b : Addr} {o : Obj} (hb : b ∈ A) (hk : K.lookup b = none) (e : h.get? b = some o) : argH K h A b = hoOf o := by
 unfold argH
 rw [if_pos hb, hk, if_pos (show (none : Option Obj).isNone = true from rfl), e] <;> rfl
theorem of_argH {b : Addr} {u : HO} (q : argH K h A b = some u) : b ∈ A /\ K.lookup b = none := by
 unfold argH at q
 by_cases hb : b ∈ A
 ·rw [if_pos hb] at q
  cases hk : K.lookup b with
  | none => exact ⟨hb, rfl⟩
  | some o =>
   rw [hk, if_neg (by simp)] at q
   cases q
 ·rw [if_neg hb] at q
  cases q
theorem argH_is (ar : ∀ a ∈ A, ArgOb h A a) {b : Addr} {u : HO} (q : argH K h A b = some u) : K.lookup b = none /\ ∃ vs : List Value, vs.length <= sizeLine /\ (∀ u ∈ vs, OkU A u) /\
  ((h.get? b = some { cls := .type "list", data := .seq vs.toArray } /\ u = .frz { cls := .type "list", data := .seq vs.toArray } (.lst (vs.map toV))) ∨
   (h.get? b = some { cls := .type "tuple", data := .seq vs.toArray } /\ u = .frz { cls := .type "tuple", data := .seq vs.toArray } (.tup (vs.map toV)))) := by
 obtain ⟨hb, hk⟩ := of_argH q
 obtain ⟨vs, h1, h2, h3⟩ := ar b hb
 refine ⟨hk, vs, h1, h2, ?_⟩
 rcases h3 with e | e
 ·rw [argH_at hb hk e, hoOf_lst] at q
  exact .inl ⟨e, (Option.some.inj q).symm⟩
 ·rw [argH_at hb hk e, hoOf_tup] at q
  exact .inr ⟨e, (Option.some.inj q).symm⟩
theorem argH_only (ar : ∀ a ∈ A, ArgOb h A a) : OnlyF (argH K h A) := fun b => by
 cases q : argH K h A b with
 | none => exact .inl rfl
 | some u =>
  obtain ⟨_, vs, _, _, ⟨_, e⟩ | ⟨_, e⟩⟩ := argH_is ar q
  ·exact .inr ⟨_, _, by rw [e]⟩
  ·exact .inr ⟨_, _, by rw [e]⟩
theorem argH_ok (ar : ∀ a ∈ A, ArgOb h A a) : HOk P w (argH K h A) h := fun b u q => by
 obtain ⟨_, vs, h1, h2, ⟨e, rfl⟩ | ⟨e, rfl⟩⟩ := argH_is ar q
 ·exact ⟨e, by rw [List.length_map]; exact h1, vs, _, vals_toV h2, e⟩
 ·exact ⟨e, by rw [List.length_map]; exact h1, vs, vals_toV h2, _, e, rfl, _, rfl⟩
theorem seq_inj {c c' : Value} {vs us : List Value} (e : (some { cls := c, data := .seq vs.toArray } : Option Obj) = some { cls := c', data := .seq us.toArray }) : c = c' /\ vs = us := by
 have e1 := Option.some.inj e
 have e2 : c = c' := congrArg Obj.cls e1
 have e3 : Data.seq vs.toArray = Data.seq us.toArray := congrArg Obj.data e1
 injection e3 with e4
 refine ⟨e2, ?_⟩
 have e5 := congrArg Array.toList e4
 simpa using e5
theorem argL (KX : K.In h) (ar : ∀ a ∈ A, ArgOb h A a) {a : Addr} {vs : List Value} (ha : a ∈ A) (e : h.get? a = some { cls := .type "list", data := .seq vs.toArray }) : (∀ u ∈ vs, OkU A u) /\ SqL K (argH K h A) a (vs.map toV) := by
 obtain ⟨us, h1, h2, h3⟩ := ar a ha
 have hu : us = vs := by
  rcases h3 with q | q
  ·rw [e] at q
   exact (seq_inj q).2.symm
  ·rw [e] at q
   exact absurd (Value.type.inj (seq_inj q).1) (by decide)
 subst hu
 refine ⟨h2, ?_⟩
 cases hk : K.lookup a with
 | none => exact .inl (.inr ⟨_, by rw [argH_at ha hk e, hoOf_lst]⟩)
 | some o =>
  have e2 := KX a o hk
  rw [e] at e2
  obtain rfl := Option.some.inj e2
  exact .inr ⟨_, us.toArray, _, hk, rfl, rfl, rfl, by rw [List.size_toArray]; exact h1, by simpa using vals_toV h2⟩
theorem argT (KX : K.In h) (ar : ∀ a ∈ A, ArgOb h A a) {a : Addr} {vs : List Value} (ha : a ∈ A) (e : h.get? a = some { cls := .type "tuple", data := .seq vs.toArray }) : (∀ u ∈ vs, OkU A u) /\ SqT K (argH K h A) a (vs.map toV) := by
 obtain ⟨us, h1, h2, h3⟩ := ar a ha
 have hu : us = vs := by
  rcases h3 with q | q
  ·rw [e] at q
   exact absurd (Value.type.inj (seq_inj q).1) (by decide)
  ·rw [e] at q
   exact (seq_inj q).2.symm
 subst hu
 refine ⟨h2, ?_⟩
 cases hk : K.lookup a with
 | none => exact .inl (.inr ⟨_, by rw [argH_at ha hk e, hoOf_tup]⟩)
 | some o =>
  have e2 := KX a o hk
  rw [e] at e2
  obtain rfl := Option.some.inj e2
  exact .inr ⟨_, us.toArray, _, hk, rfl, rfl, by rw [List.size_toArray]; exact h1, by simpa using vals_toV h2⟩
mutual
theorem dw_one {Pm : Params} (KX : K.In h) (ar : ∀ a ∈ A, ArgOb h A a) : ∀ (d : WData) (v : Value), Well Pm h v d -> plW d = true -> OkU A v -> Dw K (argH K h A) (toV v) d
 | .none, _, x, _, _ => by
  cases x
  exact .non
 | .bool b, _, x, _, _ => by
  cases x
  exact .bl b
 | .int i, _, x, _, _ => by
  cases x
  exact .int i
 | .str s, _, x, _, _ => by
  cases x
  exact .str s
 | .bytes b, _, x, _, _ => by
  cases x
  have z := Dw.byt (K := K) (H := argH K h A) b.toArray
  exact z
 | .list ds, _, x, p, hu => by
  obtain ⟨a, vs, rfl, ho, hall⟩ := well_list x
  obtain ⟨h2, hs⟩ := argL KX ar hu ho
  exact .lst hs (dw_all KX ar ds _ hall p h2)
 | .tuple ds, _, x, p, hu => by
  obtain ⟨a, vs, rfl, ho, hall⟩ := well_tuple x
  obtain ⟨h2, hs⟩ := argT KX ar hu ho
  exact .tup hs (dw_all KX ar ds _ hall p h2)
 | .float _, _, _, p, _ => Bool.noConfusion (show false = true from p)
 | .dict _, _, _, p, _ => Bool.noConfusion (show false = true from p)
 | .bytearray _, _, _, p, _ => Bool.noConfusion (show false = true from p)
 | .set _, _, _, p, _ => Bool.noConfusion (show false = true from p)
 | .frozenset _, _, _, p, _ => Bool.noConfusion (show false = true from p)
 | .obj _ _, _, _, p, _ => Bool.noConfusion (show false = true from p)
theorem dw_all {Pm : Params} (KX : K.In h) (ar : ∀ a ∈ A, ArgOb h A a) : ∀ (ds : List WData) (vs : List Value), WellAll Pm h vs ds -> plWs ds = true -> (∀ u ∈ vs, OkU A u) -> DwAll K (argH K h A) (vs.map toV) ds
 | [], _, x, _, _ => by
  cases x
  exact .nil
 | d :: ds, _, x, p, hu => by
  obtain ⟨v, vs, rfl, x1, x2⟩ := well_cons x
  have q : plW d = true /\ plWs ds = true := Bool.and_eq_true_iff.mp p
  exact .cons (dw_one KX ar d v x1 q.1 (hu _ (List.mem_cons_self ..))) (dw_all KX ar ds vs x2 q.2 fun u m => hu u (List.mem_cons_of_mem _ m))
end
end
theorem layable_weight {ds : List WData} (h : WData.layableAll ds = true) : ∀ d ∈ ds, d.weight <= 1048576 := fun d hd =>
 (PySem.W.layableW_iff.mp (List.all_eq_true.mp h d hd)).2.2
theorem encAll_len : ∀ (cs : List Codec) (a : Codec.denoteAll cs), (Codec.encAll cs a).length = cs.length
 | [], _ => rfl
 | c :: cs, a => by
  show (Codec.encAll cs a.2).length + 1 = cs.length + 1
  rw [encAll_len cs a.2]
end L2
end
namespace L2
open PySem PySem.Spec PyProof.Rows
open PySem.W (CodeHd tabObj kla_obj kla_fn codeHdIn)
structure LamCx (X : Cx) (c P : Addr) : Prop where
 code : X.env.code = .ref c
 hd : codeHdIn X.K c P = true
 bm : ∃ bm ob, X.mg "__builtins__" = some (.ref bm) /\ bm ≠ builtinsNs /\ bm ≠ mainGlobals /\ X.base.get? bm = some ob /\ ob.cls = .type "module" /\ ob.dict = some builtinsNs /\ ob.data = .plain
def LamTab (P : Addr) (pos : Pos) (qual : Str) (H : Hp) : Prop := H P = some (.tbl #[]) ∨ ∃ c', H P = some (.tbl #[rawInt pos.line, rawInt pos.col, .ref c']) /\ ∃ φ, H c' = some (.ext φ) /\ ∀ h, φ h -> h.CodeRec (.ref c') qual
def phiC (c' : Addr) (qual : Str) (h : Heap) : Prop := h.CodeRec (.ref c') qual
def phiF (f : Addr) (o : Obj) (h : Heap) : Prop := h.get? f = some o
theorem phiC_stay {c' : Addr} {qual : Str} : ∀ h1 h2 : Heap, phiC c' qual h1 -> (∀ o, h1.get? c' = some o -> h2.get? c' = some o) -> phiC c' qual h2 := fun h1 h2 x k => by
 obtain ⟨c, o, vs, t, e, g, r⟩ := x
 cases e
 exact ⟨c', o, vs, t, rfl, k _ g, r⟩
theorem phiF_stay {f : Addr} {o : Obj} : ∀ h1 h2 : Heap, phiF f o h1 -> (∀ o, h1.get? f = some o -> h2.get? f = some o) -> phiF f o h2 := fun _ _ x k => k _ x
section
variable {X : Cx} {pins : List (Addr × Obj)} {σ : St} {H : Hp} {s : Shared}
theorem Inv.lambda {P c' f : Addr} {ps more : Array Value} {φ ψ : Heap -> Prop} {h' : Heap} {t' : Nat} (I : Inv X pins σ H s) (hP : H P = some (.tbl ps)) (hx : Heap.ExtBut P s.heap h') (hT : h'.get? P = some (tabObj (ps ++ more)))
  (hc : s.heap.objs.size <= c') (hcf : c' < f) (oc : ObjOk X.prog X.w H h' c' (.ext φ)) (of : ObjOk X.prog X.w H h' f (.ext ψ)) :
  Inv X pins σ (upd (upd (upd H P (.tbl (ps ++ more))) c' (.ext φ)) f (.ext ψ)) { s with heap := h', toks := t' } := by
 have nP : ∀ b, H b = none -> b ≠ P := fun b n z => by rw [z, hP] at n; cases n
 have lt : ∀ b o, s.heap.get? b = some o -> b ≠ c' /\ b ≠ f := fun b o e =>
  have q := Nat.lt_of_lt_of_le (Heap.lt_size e) hc
  ⟨Nat.ne_of_lt q, Nat.ne_of_lt (Nat.lt_trans q hcf)⟩
 have ltH : ∀ b u, H b = some u -> b ≠ c' /\ b ≠ f := fun b u e =>
  have q := Nat.lt_of_lt_of_le (I.hok.lt e) hc
  ⟨Nat.ne_of_lt q, Nat.ne_of_lt (Nat.lt_trans q hcf)⟩
 have hcf' : c' ≠ f := Nat.ne_of_lt hcf
 have old : ∀ b u, H b = some u -> b ≠ P -> (upd (upd (upd H P (.tbl (ps ++ more))) c' (.ext φ)) f (.ext ψ)) b = some u := fun b u e n => by
  rw [upd_ne (ltH b u e).2, upd_ne (ltH b u e).1, upd_ne n]; exact e
 have th : ∀ b o, s.heap.get? b = some o -> ∃ o', h'.get? b = some o' := fun b o e => by
  by_cases z : b = P
  ·rw [z]; exact ⟨_, hT⟩
  ·exact ⟨o, hx b o z e⟩
 refine I.un (h' := h') (t' := t') ⟨fun b o e n _ _ => hx b o (nP b n) e, fun b o e n _ _ => ⟨o.slots, hx b o (nP b n) e⟩, fun b o e n _ => ?_, fun b o e _ => th b o e, fun b xs e => ?_, fun b o u e => ?_, fun b qs e => ?_⟩ fun b u e => ?_
 ·rw [upd_ne (lt b o e).2, upd_ne (lt b o e).1, upd_ne (nP b n)]; exact n
 ·exact old b _ e fun z => by rw [z, hP] at e; cases e
 ·exact old b _ e fun z => by rw [z, hP] at e; cases e
 ·by_cases z : b = P
  ·subst z
   rw [hP] at e
   cases e
   exact ⟨more, by rw [upd_ne (ltH _ _ hP).2, upd_ne (ltH _ _ hP).1, upd_same]⟩
  ·exact ⟨#[], by rw [old b _ e z]; simp⟩
 ·by_cases z1 : b = f
  ·subst z1
   rw [upd_same] at e
   cases e
   exact of
  ·rw [upd_ne z1] at e
   by_cases z2 : b = c'
   ·subst z2
    rw [upd_same] at e
    cases e
    exact oc
   ·rw [upd_ne z2] at e
    by_cases z3 : b = P
    ·subst z3
     rw [upd_same] at e
     cases e
     exact hT
    ·rw [upd_ne z3] at e
     refine (I.hok b u e).stay (fun d v hd q => hx d v ?_ q) (fun d q => old d _ q fun z => ?_) fun d xs q => old d _ q fun z => ?_
     ·rcases hd with z | z
      ·rw [z]; exact z3
      ·exact fun y => by rw [y, hP] at z; cases z
     ·rw [z, hP] at q; cases q
     ·rw [z, hP] at q; cases q
theorem Inv.codeHd {c P : Addr} (I : Inv X pins σ H s) (L : LamCx X c P) : CodeHd s.heap c P := PySem.W.codeHd_of_K I.kIn L.hd
theorem Inv.tbl {P : Addr} {ps : Array Value} (I : Inv X pins σ H s) (hP : H P = some (.tbl ps)) : s.heap.get? P = some (tabObj ps) := I.hok P _ hP
theorem Inv.bmod {c P : Addr} {ps : Array Value} (I : Inv X pins σ H s) (L : LamCx X c P) (hP : H P = some (.tbl ps)) : s.heap.BuiltinsAt X.mg P := by
 obtain ⟨bm, ob, h1, h2, h3, h4, h5, h6, h7⟩ := L.bm
 have e := I.bk bm ob h4
 refine ⟨bm, ob, h1, h2, h3, fun z => ?_, e, h5, h6, h7⟩
 rw [z, I.tbl hP] at e
 cases e
 cases h5
theorem Inv.globNe {P : Addr} {ps : Array Value} (I : Inv X pins σ H s) (hP : H P = some (.tbl ps)) : mainGlobals ≠ P := fun z => by
 obtain ⟨o, es, ep, e, hd, _⟩ := I.mod.glob.keeps I.bk
 rw [z, I.tbl hP] at e
 cases e
 cases hd
theorem lam_made {c P : Addr} {clos : List (Str × Addr)} {params : Arguments} {body : Expr} {scope : Scope} {pos : Pos} {Q : Value -> Shared -> Prop} (I : Inv X pins σ H s) (L : LamCx X c P) (hT : LamTab P pos (X.env.qual ++ "<lambda>") H) (hdef : defaultsOf params X.env = ([], [])) (hcl : closureFor scope X.env = pure clos)
  (hglob : X.env.globals = mainGlobals)
  (h : ∀ (f c' : Addr) (ctv : Value) (s' : Shared) (H' : Hp), Inv X pins σ H' s' -> H' f = some (.ext (phiF f (kla_obj "<lambda>" (X.env.qual ++ "<lambda>") params body scope clos ((X.mg "__name__").getD .none) c' ctv))) -> s'.heap.CodeRec (.ref c') (X.env.qual ++ "<lambda>") ->
   LamTab P pos (X.env.qual ++ "<lambda>") H' -> (∀ b u, H b = some u -> b ≠ P -> H' b = some u) -> Q (.ref f) s') :
  wpAny (model X.prog X.w) X.A (eval (.Lambda params body scope pos) X.env) Q X.xe s := by
 refine PySem.W.kla_eval hdef ?_
 rcases hT with hP | ⟨c', hP, φ, hc', hφ⟩
 ·refine PySem.W.kla_makeFunction (mg := X.mg) (clos := clos) hcl hglob (I.mod.glob.keeps I.bk) L.code (I.codeHd L) (I.tbl hP) (by trivial) rfl (I.globNe hP) (I.bmod L hP) fun c' ctv h' tk hx hge hlt hrec htb => ?_
  have hx2 : Heap.ExtBut P s.heap (h'.push (kla_obj "<lambda>" (X.env.qual ++ "<lambda>") params body scope clos ((X.mg "__name__").getD .none) c' ctv)) := fun b o hb e => Heap.get?_push_of_some _ (hx b o hb e)
  have hrec2 := hrec.push (kla_obj "<lambda>" (X.env.qual ++ "<lambda>") params body scope clos ((X.mg "__name__").getD .none) c' ctv)
  have hf := Heap.get?_push_size h' (o := kla_obj "<lambda>" (X.env.qual ++ "<lambda>") params body scope clos ((X.mg "__name__").getD .none) c' ctv) rfl
  have oc : ∃ o, (h'.push (kla_obj "<lambda>" (X.env.qual ++ "<lambda>") params body scope clos ((X.mg "__name__").getD .none) c' ctv)).get? c' = some o := by
   obtain ⟨c2, o2, vs, t, e, g, _⟩ := hrec2
   cases e
   exact ⟨_, g⟩
  have J := I.lambda (t' := tk) (f := h'.objs.size) (φ := phiC c' (X.env.qual ++ "<lambda>")) (ψ := phiF h'.objs.size (kla_obj "<lambda>" (X.env.qual ++ "<lambda>") params body scope clos ((X.mg "__name__").getD .none) c' ctv)) hP hx2 (Heap.get?_push_of_some _ htb) hge hlt
   ⟨hrec2, oc, phiC_stay⟩ ⟨hf, ⟨_, hf⟩, phiF_stay⟩
  have lt : ∀ b u, H b = some u -> b ≠ c' /\ b ≠ h'.objs.size := fun b u e =>
   have q := Nat.lt_of_lt_of_le (I.hok.lt e) hge
   ⟨Nat.ne_of_lt q, Nat.ne_of_lt (Nat.lt_trans q hlt)⟩
  refine h _ c' ctv _ _ J upd_same hrec2 (.inr ⟨c', ?_, phiC c' (X.env.qual ++ "<lambda>"), ?_, fun h z => z⟩) fun b u e hb => ?_
  ·rw [upd_ne (lt _ _ hP).2, upd_ne (lt _ _ hP).1, upd_same]
   rfl
  ·rw [upd_ne (Nat.ne_of_lt hlt), upd_same]
  ·rw [upd_ne (lt _ _ e).2, upd_ne (lt _ _ e).1, upd_ne hb]
   exact e
 ·have hcr := hφ _ (I.hok _ _ hc').1
  refine PySem.W.kla_makeFunctionHit (mg := X.mg) (clos := clos) (cv := .ref c') hcl hglob (I.mod.glob.keeps I.bk) L.code (I.codeHd L) (I.tbl hP) (by trivial) (by simp [codeAmong, rawInt]) (I.bmod L hP) fun ctv h' tk hk hsz => ?_
  have hf := Heap.get?_push_size h' (o := kla_obj "<lambda>" (X.env.qual ++ "<lambda>") params body scope clos ((X.mg "__name__").getD .none) c' ctv) rfl
  have J := I.laid (a := h'.objs.size) (o := .ext (phiF h'.objs.size (kla_obj "<lambda>" (X.env.qual ++ "<lambda>") params body scope clos ((X.mg "__name__").getD .none) c' ctv))) (t' := tk) (fun b o e => Heap.get?_push_of_some _ (hk b o e)) hsz ⟨hf, ⟨_, hf⟩, phiF_stay⟩
  have nf : ∀ b u, H b = some u -> b ≠ h'.objs.size := fun b u e => Nat.ne_of_lt (Nat.lt_of_lt_of_le (I.hok.lt e) hsz)
  refine h _ c' ctv _ _ J upd_same ((hcr.keeps hk).push _) (.inr ⟨c', ?_, φ, ?_, hφ⟩) fun b u e _ => ?_
  ·rw [upd_ne (nf _ _ hP)]; exact hP
  ·rw [upd_ne (nf _ _ hc')]; exact hc'
  ·rw [upd_ne (nf _ _ e)]; exact e
end
theorem key_turn {prog : Program} {w : World} {A : Around} {E : Value -> Shared -> Prop} {s : Shared} {K : PySem.W.Frag} {f a c' dx C : Addr} {qual x fld : Str} {params : Arguments} {scope : Scope} {pm ctv u : Value} {p1 p2 : Pos} {mA : Str -> Option Value} {Q : Value -> Shared -> Prop}
  (hroom : A.depth < recursionLimit) (ho : s.heap.get? f = some (kla_obj "<lambda>" qual params (.Attribute (.Name x p1) fld p2) scope [] pm c' ctv)) (hcd : s.heap.CodeRec (.ref c') qual) (hlim : s.heap.NoLimit) (KX : K.In s.heap)
  (hb : bindArgs (kla_fn "<lambda>" qual params (.Attribute (.Name x p1) fld p2) scope [] pm (.ref c') ctv) ⟨[.ref a], []⟩ = pure [(x, .ref a)]) (hloc : scope.names.lookup x = some .local)
  (hco : scope.isCoroutine = false) (hgen : scope.isGenerator = false) (hk : scope.kind = .function) (hcell : ∀ x ∈ scope.names, x.2 ≠ .cell) (hxd : (x == ("__debug__" : Str)) = false)
  (hab : ∀ env, attributeBase (.Name x p1) fld env (eval (.Name x p1) env) = eval (.Name x p1) env)
  (O : ObjM s.heap a dx C mA) (c : Cls K C) (n : NoAttr K C fld) (hv : mA fld = some u) (hu : PySem.W.handedIn u = true)
  (h : ∀ h' tk, (∀ b o, s.heap.get? b = some o -> h'.get? b = some o) -> Q u { s with heap := h', toks := tk }) :
  wpAny (model prog w) A (call (.ref f) [.ref a]) Q E s := by
 refine wpAny_call (PySem.W.kla_callFunE hroom ho rfl hco hgen rfl hcd ?_)
 rw [hb]
 refine wpAny_pure (wpAny_newFunctionEnv hcell (fun y hy => by rw [List.mem_singleton.mp hy]; exact hloc) (fun h₁ hns hsb => ⟨hlim.fresh _ hsb, ?_⟩) hk)
 show codeAny _ _ (.expr (.Attribute (.Name x p1) fld p2) (PySem.W.envX qual scope s.heap.objs.size f (.ref c') [])) _ _
 have hk₁ : ∀ b o, s.heap.get? b = some o -> h₁.get? b = some o := fun b o e => hsb.extBut b o (Nat.ne_of_lt (Heap.lt_size e)) (Heap.get?_push_of_some _ e)
 refine PySem.W.kla_codeExpr (attr_of (hab _) ?_)
 have hkx : (PySem.W.envX qual scope s.heap.objs.size f (.ref c') []).kindOf x = some .local := hloc
 refine wpAny_Name (wpAny_loadName_local hk hkx hns (v := .ref a) ?_ ?_) hxd
 ·show ([(x, Value.ref a)] : List (Str × Value)).reverse.lookup x = some (.ref a)
  simp
 ·exact get_map (KX.keeps hk₁) ⟨hk₁ _ _ O.obj, O.ns.at fun o e => hk₁ _ _ e, O.ne⟩ (c.get fld) c.hd n hv hu (h h₁ _ hk₁)
def unref : Value -> Addr
 | .ref a => a
 | _ => 0
theorem vals_refs : ∀ {as : List Addr} {us : List Value}, Vals (as.map V.ref) us -> us = as.map Value.ref
 | [], us, h => by
  rw [List.map_nil] at h
  cases h
  rfl
 | a :: as, us, h => by
  rw [List.map_cons] at h
  cases h with
  | cons r t =>
   cases r
   rw [vals_refs t, List.map_cons]
theorem refs_vals : ∀ (as : List Addr), Vals (as.map V.ref) (as.map Value.ref)
 | [] => .nil
 | _ :: as => .cons rfl (refs_vals as)
theorem sort_out {kz : List Int} {as : List Addr} {out : List Value} (h : KskOut false kz (as.map Value.ref) out) : ∃ ys : List (Int × Addr), ys.Perm (kz.zip as) /\ ys.Pairwise (fun p q => p.1 <= q.1) /\ out = (ys.map (·.2)).map Value.ref := by
 obtain ⟨ps, hp, ho, hs⟩ := h
 have e1 : (kz.zip (as.map Value.ref)).map (fun p => (p.1, unref p.2)) = kz.zip as := by
  rw [List.zip_map_right, List.map_map]
  exact (List.map_congr_left fun p _ => rfl).trans (List.map_id _)
 refine ⟨ps.map fun p => (p.1, unref p.2), by rw [<- e1]; exact hp.map _, (by rw [List.pairwise_map]; exact hs.imp fun {p q} z => by simpa using z), ?_⟩
 rw [ho, List.map_map, List.map_map]
 refine List.map_congr_left fun p hq => ?_
 have m := hp.mem_iff.mp hq
 rw [List.zip_map_right] at m
 obtain ⟨z, _, e⟩ := List.mem_map.mp m
 subst e
 rfl
theorem ns_det {h h' : Heap} {L : Addr} {m m' : Str -> Option Value} (a : h.Ns L m) (b : h.Ns L m') : m = m' := by
 obtain ⟨o, es, ep, e1, e2, _, e4⟩ := a
 obtain ⟨o', es', ep', f1, f2, _, f4⟩ := b
 rw [e1] at f1
 cases f1
 rw [e2] at f2
 cases f2
 funext x
 rw [<- e4 x, <- f4 x]
theorem Inv.laidF {X : Cx} {pins : List (Addr × Obj)} {σ : St} {H : Hp} {s : Shared} {h' : Heap} {t' : Nat} {D : Addr} {xs : List V} {out : Array Value} {c : Nat} {m : Str -> Option Value} (I : Inv X pins σ H s) (hm : s.heap.Ns X.env.locals m)
  (hm' : h'.Ns X.env.locals m) (hk : ∀ b o, b ≠ X.env.locals -> s.heap.get? b = some o -> h'.get? b = some o) (hD : ∀ b o, s.heap.get? b = some o -> b ≠ D) (ho : h'.get? D = some (seqObj "list" out c)) (hz : xs.length <= sizeLine) (hv : Vals xs out.toList) :
  H D = none /\ Inv X pins σ (upd H D (.lst xs)) { s with heap := h', toks := t' } := by
 have ex : ∀ b u, H b = some u -> ∃ o, s.heap.get? b = some o := fun b u e => by
  have := I.hok.lt e
  have q := I.hok b u e
  clear this
  revert q
  generalize hH : H = H0
  intro q
  clear hH e
  induction u with
  | lst xs => obtain ⟨_, _, _, _, e⟩ := q; exact ⟨_, e⟩
  | tup xs => obtain ⟨_, _, _, o, e, _⟩ := q; exact ⟨_, e⟩
  | dK kvs => obtain ⟨_, _, _, _, o, _, _, e, _⟩ := q; exact ⟨_, e⟩
  | dT kvs => obtain ⟨_, _, _, _, o, _, _, e, _⟩ := q; exact ⟨_, e⟩
  | set S n => obtain ⟨o, _, _, _, e, _⟩ := q; exact ⟨_, e⟩
  | ins C dx fs => obtain ⟨_, _, _, e, _⟩ := q; exact ⟨_, e⟩
  | own y => obtain ⟨_, e⟩ := q; exact ⟨_, e⟩
  | xd fs => obtain ⟨_, ⟨_, _, _, e, _⟩, _⟩ := q; exact ⟨_, e⟩
  | rng lo hi => obtain ⟨_, _, _, e⟩ := q; exact ⟨_, e⟩
  | frz ob u _ => obtain ⟨e, _⟩ := q; exact ⟨_, e⟩
  | tbl ps => exact ⟨_, show s.heap.get? b = some _ from q⟩
  | met f y => exact ⟨_, show s.heap.get? b = some _ from q⟩
  | ext φ => obtain ⟨_, ⟨_, e⟩, _⟩ := q; exact ⟨_, e⟩
 have nD : ∀ b u, H b = some u -> b ≠ D := fun b u e => by
  obtain ⟨o, q⟩ := ex b u e
  exact hD b o q
 have hn : H D = none := by
  cases q : H D with
  | none => rfl
  | some u => exact absurd rfl (nD D u q)
 have nL : ∀ b u, H b = some u -> b ≠ X.env.locals := fun b u e z => by rw [z, I.free] at e; cases e
 refine ⟨hn, I.step (g' := s.gens) (d' := s.drawn) (t' := t') (ch := []) (fun _ z => nomatch z) (fun b o hL _ _ e _ => hk b o hL e) (fun b o hL _ _ e _ => ⟨o.slots, hk b o hL e⟩) (fun b o _ e n => by rw [upd_ne (hD b o e)]; exact n) (fun b o _ e => ?_)
  (fun b ys e => by rw [upd_ne (nD b _ e)]; exact e) (fun b o u e => by rw [upd_ne (nD b _ e)]; exact e) (fun b ps e => ⟨#[], by rw [upd_ne (nD b _ e), e]; simp⟩) (fun m2 hm2 => ?_) (fun b u e => ?_) I.bare⟩
 ·by_cases z : b = X.env.locals
  ·obtain ⟨o', _, _, e', _⟩ := hm'
   rw [z]
   exact ⟨o', e'⟩
  ·exact ⟨o, hk b o z e⟩
 ·rw [ns_det (h' := h') hm2 hm]
  exact hm'
 ·by_cases z : b = D
  ·subst z
   rw [upd_same] at e
   cases e
   exact ⟨hz, out.toList, c, hv, by rw [Array.toArray_toList]; exact ho⟩
  ·rw [upd_ne z] at e
   refine (I.hok b u e).stay (fun d v hd q => hk d v ?_ q) (fun d q => by rw [upd_ne (nD d _ q)]; exact q) fun d ys q => by rw [upd_ne (nD d _ q)]; exact q
   rcases hd with y | y
   ·rw [y]; exact nL b u e
   ·exact nL d _ y
def rSortK (K : PySem.W.Frag) (P : Addr) (lpos : Pos) (qual : Str) (C : Addr) (fld : Str) (Q : VK) (x : V) (H1 : Hp) : Prop := ∃ (a : Addr) (as : List Addr) (kz : List Int), x = .ref a /\ SqL K H1 a (as.map V.ref) /\ kz.length = as.length /\ LamTab P lpos qual H1 /\
 (∀ (i : Nat) (b : Addr) (k : Int), as[i]? = some b -> kz[i]? = some k -> ∃ dx fs, H1 b = some (.ins C dx fs) /\ fs.lookup fld = some (.int k)) /\
 ∀ (ys : List (Int × Addr)) (D : Addr) (H2 : Hp), ys.Perm (kz.zip as) -> ys.Pairwise (fun p q => p.1 <= q.1) -> H2 D = none -> LamTab P lpos qual H2 -> (∀ b u, H1 b = some u -> b ≠ P -> H2 b = some u) -> Q (.ref D) (upd H2 D (.lst ((ys.map (·.2)).map V.ref)))
def tSortK (K : PySem.W.Frag) (P : Addr) (lpos : Pos) (qual : Str) (C : Addr) (fld : Str) (te : TE) : TE := fun σ H Q => te σ H fun x H1 => rSortK K P lpos qual C fld Q x H1
theorem pe_sortK {X : Cx} {c P C : Addr} {e : Expr} {te : TE} {params : Arguments} {x fld : Str} {scope : Scope} {p p1 p2 lpos kpos pos : Pos} {k : Nat} (he : PE X e te) (L : LamCx X c P) (hr : Room k X.A) (hg : Gl X "sorted") (hm : X.mg "sorted" = none) (hv : bootBuiltins "sorted" = some (.builtin "sorted")) (hcl : closureFor scope X.env = pure []) (hglob : X.env.globals = mainGlobals) (cc : Cls X.K C) (nf : NoAttr X.K C fld)
  (hb : ∀ (qual : Str) (pm cdv ctv v : Value), bindArgs (kla_fn "<lambda>" qual params (.Attribute (.Name x p1) fld p2) scope [] pm cdv ctv) ⟨[v], []⟩ = pure [(x, v)]) (hloc : scope.names.lookup x = some .local)
  (hco : scope.isCoroutine = false) (hgen : scope.isGenerator = false) (hk : scope.kind = .function) (hcell : ∀ x ∈ scope.names, x.2 ≠ .cell) (hxd : (x == ("__debug__" : Str)) = false)
  (hab : ∀ env, attributeBase (.Name x p1) fld env (eval (.Name x p1) env) = eval (.Name x p1) env) (hdef : defaultsOf params X.env = ([], []))
  (hst : starEach [e] X.env = [(false, eval e X.env)] := by rfl) :
  PE X (.Call (.Name "sorted" p) [e] [⟨some "key", .Lambda params (.Attribute (.Name x p1) fld p2) scope lpos, kpos⟩] pos) (tSortK X.K P lpos (X.env.qual ++ "<lambda>") C fld te) := by
 intro pins s σ H Q I h
 have ha : PA X [e] (tCons te tNil) := pa_cons he pa_nil hst
 refine wpAny_Call_Name_kw (ld_blt (x := "sorted") (u := .builtin "sorted") I hg hm hv ?_)
 have hbt : backTo pos (starEach [e] X.env) = (false, eval e X.env) :: backTo pos (starEach [] X.env) := by rw [hst]; rfl
 refine callWith_kw (thn (ha pos pins s σ H (fun vs H1 => match vs with | [y] => rSortK X.K P lpos (X.env.qual ++ "<lambda>") C fld Q y H1 | _ => False) I h) fun us s1 hq => ?_) hbt (by rw [hbt]; rfl)
 obtain ⟨vs, H1, I1, r1, hq⟩ := hq
 match vs, r1, hq with
 | [y], r1, hq => ?_
 | [], _, hq => exact hq.elim
 | _ :: _ :: _, _, hq => exact hq.elim
 obtain ⟨a, as, kz, hx, hs, hlen, hT, hit, q⟩ := hq
 show wpAny _ _ (evalAll ((do let v <- eval (.Lambda params (.Attribute (.Name x p1) fld p2) scope lpos) X.env; standAt pos; pure v) :: [])) _ _ s1
 refine wpAny_evalAll_cons (wpAny_bind (lam_made I1 L hT hdef hcl hglob fun f c' ctv s2 H2 I2 hf hrec hT2 hold => ?_))
 refine wpAny_bind (wpAny_standAt (wpAny_pure (wpAny_evalAll_nil ?_)))
 have eus : us = [.ref a] := by
  cases r1 with
  | cons ra rt =>
   cases rt
   have hx' : _ = V.ref a := hx
   subst hx'
   cases ra
   rfl
 subst eus
 show wpAny _ X.A (call (.builtin "sorted") [.ref a] [(Str.ofString "key", .ref f)]) _ _ s2
 have nP : ∀ b u, H1 b = some u -> (∀ ps, u ≠ .tbl ps) -> H2 b = some u := fun b u e n => hold b u e fun z => by
  subst z
  rcases hT with t | ⟨_, t, _⟩ <;> (rw [t] at e; cases e; exact n _ rfl)
 have hs2 : SqL X.K H2 a (as.map V.ref) := by
  rcases hs with (z | ⟨o, z⟩) | z
  ·exact .inl (.inl (nP _ _ z fun _ y => by cases y))
  ·exact .inl (.inr ⟨o, nP _ _ z fun _ y => by cases y⟩)
  ·exact .inr z
 obtain ⟨its, rv, hl, hz⟩ := I2.list hs2
 have eits := vals_refs rv
 subst eits
 have hz' : as.length <= sizeLine := by
  have : (as.map V.ref).length <= sizeLine := hz
  rw [List.length_map] at this
  exact this
 obtain ⟨m, hnm, _⟩ := id I2.loc
 have led : News (Att.noObjs s2.heap) X.env.locals s2.heap (Att.ledger s2.heap X.env.locals X.env.locals) := fun ⟨b, o⟩ hp => by
  obtain ⟨n1, _, e⟩ := Att.mem_ledger.mp hp
  exact ⟨e, n1, Att.noObjs_get _ _⟩
 have inl : ∀ b o, b ≠ X.env.locals -> s2.heap.get? b = some o -> (b, o) ∈ Att.ledger s2.heap X.env.locals X.env.locals := fun b o n e => Att.mem_ledger.mpr ⟨n, n, e⟩
 have nLb : ∀ b o, X.base.get? b = some o -> b ≠ X.env.locals := fun b o e => Nat.ne_of_lt (Nat.lt_of_lt_of_le (Heap.lt_size e) (Nat.le_trans I2.ok.bsz I2.ok.above))
 refine ksk_sortedAny (b := false) (kz := kz) (vs := as.map Value.ref) (Att.fr_all hnm) led hl.isList (by rw [List.length_map]; exact hlen) (by rw [List.length_map]; exact hz') (ksk_s1 _ _) (fun y => ksk_l1 _ _) (fun y => ksk_t1 f y) (fun i v kk hv hkk h' tk own F' N' => ?_) fun D h' tk out cc' F' N' hlt ko => ?_
 ·
  rw [List.getElem?_map] at hv
  obtain ⟨b, hb', rfl⟩ := Option.map_eq_some_iff.mp hv
  obtain ⟨dx, fs, hin, hfl⟩ := hit i b kk hb' hkk
  have hin2 := nP _ _ hin fun _ y => by cases y
  obtain ⟨mA, O, rO, _, _, ho⟩ := ins_get I2.hok hin2
  have kp : ∀ b o, b ≠ X.env.locals -> s2.heap.get? b = some o -> h'.get? b = some o := fun b o n e => (N' (b, o) (List.mem_append_left _ (inl b o n e))).1
  have nL : ∀ b u, H2 b = some u -> b ≠ X.env.locals := fun b u e z => by rw [z, I2.free] at e; cases e
  have kb : ∀ b o, X.base.get? b = some o -> h'.get? b = some o := fun b o e => kp b o (nLb b o e) (I2.bk b o e)
  obtain ⟨u, hu, ru⟩ := RelO.some_of (v := V.int kk) (o := mA fld) (by rw [<- hfl]; exact rO fld)
  obtain ⟨tt, rfl⟩ := ru
  have hcl' : (c' : Addr) ≠ X.env.locals := fun z => by
   obtain ⟨c2, o2, vs2, t2, e2, g2, d2, _⟩ := hrec
   cases e2
   obtain ⟨oL, es, ep, eL, dL, _⟩ := hnm
   rw [z, eL] at g2
   cases g2
   rw [dL] at d2
   cases d2
  have hrec' : h'.CodeRec (.ref c') (X.env.qual ++ "<lambda>") := by
   obtain ⟨c2, o2, vs2, t2, e2, g2, r2⟩ := hrec
   cases e2
   exact ⟨c', o2, vs2, t2, rfl, kp _ _ hcl' g2, r2⟩
  refine key_turn (K := X.K) (s := { s2 with heap := h', toks := tk }) (E := fun _ _ => False) (dx := dx) (C := C) (mA := mA) (hr.depth) (kp f _ (nL f _ hf) (I2.hok f _ hf).1) hrec' (I2.ok.mod.nolimit.keeps kb) (I2.ok.mod.kin.keeps kb) (hb _ _ _ _ _) hloc hco hgen hk hcell hxd hab
   ⟨kp _ _ (nL b _ hin2) O.obj, O.ns.at fun o e => kp _ _ (nL dx _ ho) e, O.ne⟩ cc nf hu rfl fun h2 tk2 hk2 => ?_
  exact ⟨h2, tk2, tt, rfl, rfl, F'.kept hk2, N'.grown hk2⟩
 ·
  obtain ⟨ys, y1, y2, y3⟩ := sort_out ko
  have kp : ∀ b o, b ≠ X.env.locals -> s2.heap.get? b = some o -> h'.get? b = some o := fun b o n e => (N' (b, o) (List.mem_cons_of_mem _ (inl b o n e))).1
  have hDn := (N' (D, seqObj "list" out cc') List.mem_cons_self)
  have hylen : ((ys.map (·.2)).map V.ref).length <= sizeLine := by
   rw [List.length_map, List.length_map, y1.length_eq, List.length_zip, hlen, Nat.min_self]
   exact hz'
  have hne : ∀ b o, s2.heap.get? b = some o -> b ≠ D := fun b o e => by
   by_cases z : b = X.env.locals
   ·rw [z]
    exact fun y => hDn.2.1 y.symm
   ·exact Nat.ne_of_lt (hlt (b, o) (inl b o z e))
  obtain ⟨n1, I3⟩ := I2.laidF (t' := tk) (D := D) (xs := (ys.map (·.2)).map V.ref) (out := out) (c := cc') hnm F'.ns kp hne hDn.1 hylen (by rw [y3]; exact refs_vals _)
  exact ⟨.ref D, _, I3, rfl, q ys D H2 y1 y2 n1 hT2 hold⟩
section
variable {prog : Program} {w : World} {A : Around} {R : Result -> Shared -> Prop} {I S : Addr} {fp wr : List Addr} {n : Nat} {P : Nat -> Value -> Prop} {St : Nat -> Heap -> Prop}
theorem maxD_loop (W : Walks prog w A.in1 I fp wr n P St) (nums : Nat -> Int) (hc : CmpOf prog w A.in1 .Gt P fun i j => decide (nums i > nums j)) (out : S ∉ fp) (dv : Value) : ∀ (k j : Nat) (s : Shared) (old : Array Value) (c : Nat), j + k = n -> St j s.heap ->
  s.heap.get? S = some (seqObj "list" old c) -> ((j = 0 /\ old = #[]) ∨ ∃ i v, i < j /\ old = #[v, v] /\ P i v /\ ∀ i', i' < j -> nums i' <= nums i) ->
  (∀ v h' tk, ((n = 0 /\ v = dv) ∨ ∃ i, i < n /\ P i v /\ ∀ i', i' < n -> nums i' <= nums i) -> (∀ b o, b ∉ wr -> b ≠ S -> s.heap.get? b = some o -> h'.get? b = some o) -> R (.ok (.ret v)) { s with heap := h', toks := tk }) ->
  codeAny (model prog w) A (.builtin "max.loop" ⟨[.ref I, .none, .ref S], [("default", dv)]⟩) R s := by
 have out2 : S ∉ wr := fun z => out (W.sub _ z)
 have nm : (toString "max" ++ toString ".loop" : String) = "max.loop" := by decide
 intro k
 induction k with
 | zero =>
  intro j s old c hj st hS ho fin
  have ej : j = n := by omega
  subst ej
  refine codeAny_builtin F.entry_max_loop (by
   rw [Around.under_plainId F.plain_max_loop _]
   refine wpAny_bind (m := seqItems? (.ref S)) (wpAny_seqItems hS rfl ?_)
   refine wpAny_bind (wpAny_tryCatch (W.done s _ _ st fun h1 tk hk => ?_))
   rcases ho with ⟨z, e⟩ | ⟨i, v, hi, e, hp, hm⟩
   ·subst e
    refine wpAny_bind (wpAny_rule (wpAny_pure ?_))
    exact fin dv h1 tk (.inl ⟨z, rfl⟩) fun b o hb _ q => hk b o hb q
   ·subst e
    refine wpAny_bind (m := updateSeq S fun _ => #[]) (wpAny_updateSeq (hk S _ out2 hS) rfl (wpAny_bind (wpAny_letGo (wpAny_pure ?_))))
    exact fin v _ tk (.inr ⟨i, hi, hp, hm⟩) fun b o hb hbS q => (Heap.get?_update_other _ _ (Ne.symm hbS)).trans (hk b o hb q))
 | succ k ih =>
  intro j s old c hj st hS ho fin
  have lt : j < n := by omega
  refine codeAny_builtin F.entry_max_loop (by
   rw [Around.under_plainId F.plain_max_loop _]
   refine wpAny_bind (m := seqItems? (.ref S)) (wpAny_seqItems hS rfl ?_)
   refine wpAny_bind (wpAny_tryCatch (W.item j s _ _ lt st fun v h1 tk hp st1 hk => ?_))
   have hS1 := hk S _ out2 hS
   rcases ho with ⟨z, e⟩ | ⟨i, vb, hi, e, hpb, hm⟩
   ·subst e
    refine wpAny_bind (m := updateSeq S fun _ => #[v, v]) (wpAny_updateSeq hS1 rfl ?_)
    rw [nm]
    refine wpAny_pure ⟨plainId_quiet F.plain_max_loop _, ih (j + 1) _ #[v, v] _ (by omega) (W.frame _ _ _ st1 fun b hb o q => ?_) (Heap.get?_update_self _ hS1 rfl) (.inr ⟨j, v, by omega, rfl, hp, fun i' hi' => ?_⟩) fun v2 h2 tk2 hv hk2 => ?_⟩
    ·exact (Heap.get?_update_other _ _ (fun z : S = b => out (by rw [z]; exact hb))).trans q
    ·have : i' = j := by omega
     rw [this]
     exact Int.le_refl _
    ·exact fin v2 h2 tk2 hv fun b o hb hbS q => hk2 b o hb hbS ((Heap.get?_update_other _ _ (Ne.symm hbS)).trans (hk b o hb q))
   ·subst e
    show wpAny _ A.in1 (tryCatch (holding [v, v] (richCompare .Gt v vb >>= _)) _ >>= _) _ _ _
    refine wpAny_bind (wpAny_tryCatch (wpAny_holding (wpAny_bind (hc j i v vb _ _ _ hp hpb (wpAny_bind (wpAny_holding (wpAny_truthy_bool (wpAny_bind (wpAny_letGo (wpAny_pure ?_))))))))))
    by_cases hb : nums j > nums i
    ·rw [if_pos (decide_eq_true hb)]
     refine wpAny_bind (wpAny_updateSeq hS1 rfl (wpAny_bind (wpAny_letGo ?_)))
     rw [nm]
     refine wpAny_pure ⟨plainId_quiet F.plain_max_loop _, ih (j + 1) _ #[v, v] _ (by omega) (W.frame _ _ _ st1 fun b hb o q => ?_) (Heap.get?_update_self _ hS1 rfl) (.inr ⟨j, v, by omega, rfl, hp, fun i' hi' => ?_⟩) fun v2 h2 tk2 hv hk2 => ?_⟩
     ·exact (Heap.get?_update_other _ _ (fun z : S = b => out (by rw [z]; exact hb))).trans q
     ·by_cases e : i' = j
      ·rw [e]; exact Int.le_refl _
      ·have := hm i' (by omega)
       omega
     ·exact fin v2 h2 tk2 hv fun b o hb hbS q => hk2 b o hb hbS ((Heap.get?_update_other _ _ (Ne.symm hbS)).trans (hk b o hb q))
    ·rw [if_neg (by simpa using hb)]
     refine wpAny_bind (wpAny_letGo ?_)
     rw [nm]
     refine wpAny_pure ⟨plainId_quiet F.plain_max_loop _, ih (j + 1) _ #[vb, vb] _ (by omega) st1 hS1 (.inr ⟨i, vb, by omega, rfl, hpb, fun i' hi' => ?_⟩) fun v2 h2 tk2 hv hk2 => ?_⟩
     ·by_cases e : i' = j
      ·rw [e]; omega
      ·exact hm i' (by omega)
     ·exact fin v2 h2 tk2 hv fun b o hb hbS q => hk2 b o hb hbS (hk b o hb q))
end
theorem call_treeK {prog : Program} {w : World} {A : Around} {E : Value -> Shared -> Prop} {s : Shared} {id : String} {b : Builtin} {us : List Value} {kw : List (Str × Value)} {Q : Value -> Shared -> Prop} (hk : builtinKind id = none) (hp : plainId id = true) (hb : entryFor table id = some b) (ha : argsOk id ⟨us, kw⟩)
  (h : wpAny (model prog w) A.in1 (b ⟨us, kw⟩) (fun fin s' => match fin with | .done f => (match (Except.ok f : Result) with | .ok (.ret v) => Q v s' | .ok _ => False | .error e => E e s') | .again c' => c'.quiet = true /\ codeAny (model prog w) A c' (fun r s' => match r with | .ok (.ret v) => Q v s' | .ok _ => False | .error e => E e s') s') E s) :
  wpAny (model prog w) A (call (.builtin id) us kw) Q E s := by
 refine wpAny_call (codeAny_call_builtin hp hb (by
  simp only [checkBuiltinCall, hk]
  cases sg : Manifest.signature? id with
  | none => exact wpAny_pure h
  | some sig =>
   have h2 : Bind.checkArgs id sig ⟨us, kw⟩ = pure () := by simpa only [argsOk, sg] using ha
   simp only [h2]
   exact wpAny_pure h))
theorem args_maxD (a d : Value) : argsOk "max" ⟨[a], [("default", d)]⟩ := by unfold argsOk; kernel_rfl
section
variable {X : Cx}
def rMaxD (K : PySem.W.Frag) (d : Int) (Q : VK) (x : V) (H : Hp) : Prop := ∃ (a : Addr) (ns : List Int), x = V.ref a /\ SqL K H a (ns.map V.int) /\ (ns = [] -> Q (.int d) H) /\ ∀ m, m ∈ ns -> (∀ y, y ∈ ns -> y <= m) -> Q (.int m) H
def tMaxD (K : PySem.W.Frag) (d : Int) (te : TE) : TE := fun σ H Q => te σ H (rMaxD K d Q)
theorem pe_maxD {e : Expr} {te : TE} {d : Int} {j : Nat} {p kpos dpos pos : Pos} (hcalm : X.calm = true) (he : PE X e te) (hg : Gl X "max") (hm : X.mg "max" = none) (hv : bootBuiltins "max" = some (.builtin "max")) (hst : starEach [e] X.env = [(false, eval e X.env)] := by rfl) :
  PE X (.Call (.Name "max" p) [e] [⟨some "default", .Constant (.int d) j dpos, kpos⟩] pos) (tMaxD X.K d te) := by
 intro pins s σ H Q I h
 have ha : PA X [e] (tCons te tNil) := pa_cons he pa_nil hst
 refine wpAny_Call_Name_kw (ld_blt (x := "max") (u := .builtin "max") I hg hm hv ?_)
 have hbt : backTo pos (starEach [e] X.env) = (false, eval e X.env) :: backTo pos (starEach [] X.env) := by rw [hst]; rfl
 refine callWith_kw (thn (ha pos pins s σ H (fun vs H1 => match vs with | [y] => rMaxD X.K d Q y H1 | _ => False) I h) fun us s1 hq => ?_) hbt (by rw [hbt]; rfl)
 obtain ⟨vs, H1, I1, r1, hq⟩ := hq
 match vs, r1, hq with
 | [y], r1, hq => ?_
 | [], _, hq => exact hq.elim
 | _ :: _ :: _, _, hq => exact hq.elim
 obtain ⟨a, ns, hy, hs, q0, q⟩ := hq
 have hy' : y = V.ref a := hy
 subst hy'
 show wpAny _ _ (evalAll ((do let v <- eval (.Constant (.int d) j dpos) X.env; standAt pos; pure v) :: [])) _ _ s1
 refine wpAny_evalAll_cons (wpAny_bind (wpAny_Constant_int (wpAny_bind (wpAny_standAt (wpAny_pure (wpAny_evalAll_nil ?_))))))
 rw [Vals.ref1 r1]
 have I2 := I1.tok (s1.toks + 1)
 obtain ⟨its, rv, hl, _⟩ := I2.list hs
 have hi := rv.ints
 generalize hs2 : ({ s1 with toks := s1.toks + 1 } : Shared) = s2 at I2 hl
 show wpAny _ X.A (call (.builtin "max") [.ref a] [("default", Value.int d _)]) _ _ s2
 generalize hdv : Value.int d _ = dv
 have nm : (toString "max" ++ toString ".loop" : String) = "max.loop" := by decide
 refine call_treeK F.kind_max F.plain_max F.entry_max (args_maxD _ _) ?_
 refine wpAny_bind (m := Builtin.Builtins.bindParams "max" ["key", "default"] 0 ⟨[], [("default", dv)]⟩) (wpAny_of_eq (show _ = pure [none, some dv] from rfl) ?_)
 refine wpAny_bind (wpAny_pure (wpAny_bind (iter_any hl.isList fun s3 e3 st3 hne3 => ?_)))
 refine wpAny_bind (wpAny_newObj_type ?_)
 rw [nm]
 have W := Walks.list (prog := X.prog) (w := X.w) (A := X.A.in1) (I2.ok.hd hcalm) _ a hne3 its.toArray
 have la : a < s2.heap.objs.size := by
  obtain ⟨o, _, eo, _⟩ := hl
  exact Heap.lt_size eo
 have sz3 : s3.heap.objs.size = s2.heap.objs.size + 1 := by rw [e3]; exact Heap.size_push _ _
 have hP : ∀ (i : Nat) (v : Value), its.toArray[i]? = some v -> ∃ t, v = Value.int (ns.getD i 0) t := fun i v e => by
  have e' : its[i]? = some v := by simpa using e
  have hlt := (List.getElem?_eq_some_iff.mp e').1
  have hln := hi.length
  have hn : ns[i]? = some ns[i] := List.getElem?_eq_getElem (by omega)
  obtain ⟨t, ht⟩ := hi.get i _ hn
  rw [e'] at ht
  exact ⟨t, by rw [Option.some.inj ht, List.getD_eq_getElem?_getD, hn]; rfl⟩
 have hsz : its.toArray.size = ns.length := by rw [List.size_toArray]; exact hi.length
 refine wpAny_pure ⟨plainId_quiet F.plain_max_loop _, maxD_loop W (fun i => ns.getD i 0) (CmpOf.ints_gt _ hP) (S := s3.heap.objs.size) ?out dv its.toArray.size 0 _ #[] 0 (Nat.zero_add _) ?st (Heap.get?_push_size _ rfl) (.inl ⟨rfl, rfl⟩) fun v h' tk hv hk => ?fin⟩
 case out =>
  intro z
  rw [sz3] at z
  rcases List.mem_cons.mp z with z | z
  ·exact absurd z (Nat.ne_of_gt (Nat.lt_succ_self _))
  ·have z' := List.mem_singleton.mp z
   rw [<- z'] at la
   exact absurd la (Nat.not_lt_of_lt (Nat.lt_succ_self _))
 case st => exact W.frame _ _ _ st3 fun b _ o e => Heap.get?_push_of_some _ e
 case fin =>
  have kp : ∀ b o, s2.heap.get? b = some o -> h'.get? b = some o := fun b o e => by
   have hb := Heap.lt_size e
   refine hk b o (fun z => ?_) (fun z => ?_) (Heap.get?_push_of_some _ ?_)
   ·exact absurd (List.mem_singleton.mp z) (Nat.ne_of_lt hb)
   ·rw [sz3] at z
    exact absurd z (Nat.ne_of_lt (Nat.lt_succ_of_lt hb))
   ·rw [e3]
    exact Heap.get?_push_of_some _ e
  have I4 : Inv X pins σ H1 { s2 with heap := h', toks := tk } := I2.kept kp
  have es : ({ s3 with heap := h', toks := tk } : Shared) = { s2 with heap := h', toks := tk } := by rw [e3]
  show EP X pins σ Q v { s3 with heap := h', toks := tk }
  rw [es]
  rcases hv with ⟨z, rfl⟩ | ⟨i, hin, hpi, hm⟩
  ·have en : ns = [] := List.length_eq_zero_iff.mp (by omega)
   exact ⟨.int d, H1, I4, ⟨_, hdv.symm⟩, q0 en⟩
  ·obtain ⟨t, rfl⟩ := hP i v hpi
   have hil : i < ns.length := by omega
   have eg : ns.getD i 0 = ns[i] := by rw [List.getD_eq_getElem?_getD, List.getElem?_eq_getElem hil]; rfl
   refine ⟨.int (ns.getD i 0), H1, I4, ⟨t, rfl⟩, q _ (by rw [eg]; exact List.getElem_mem hil) fun y hy => ?_⟩
   obtain ⟨j, hj, e⟩ := List.mem_iff_getElem.mp hy
   have := hm j (by omega)
   have ej : ns.getD j 0 = ns[j] := by rw [List.getD_eq_getElem?_getD, List.getElem?_eq_getElem hj]; rfl
   rw [<- e, <- ej]
   exact this
end
section
variable {X : Cx} {pins : List (Addr × Obj)} {σ : St} {H : Hp} {s : Shared}
theorem tup_inj (I : Inv X pins σ H s) {p : Addr} {ms ms' : List Int} (a : SqT X.K H p (ms.map V.int)) (b : SqT X.K H p (ms'.map V.int)) : ms = ms' := by
 obtain ⟨i1, r1, t1, _⟩ := I.tuple a
 obtain ⟨i2, r2, t2, _⟩ := I.tuple b
 obtain ⟨o1, e1, c1, n1, d1⟩ := t1
 obtain ⟨o2, e2, c2, n2, d2⟩ := t2
 rw [e1] at e2
 cases e2
 rw [d1] at d2
 injection d2 with q1 q2
 have q3 : i1 = i2 := by simpa using q1
 subst q3
 rw [<- r1.ints.nums, <- r2.ints.nums]
theorem dp_ints (K : PySem.W.Frag) (H : Hp) : ∀ ns : List Int, DpAll K H (ns.map V.int) (ns.map PyData.int)
 | [] => .nil
 | n :: ns => .cons (.int n) (dp_ints K H ns)
theorem eqvAll_ints : ∀ a b : List Int, PyData.eqvAll (a.map PyData.int) (b.map PyData.int) = decide (a = b)
 | [], [] => rfl
 | [], _ :: _ => rfl
 | _ :: _, [] => rfl
 | x :: a, y :: b => by
  have ih := eqvAll_ints a b
  show (PyData.eqv (.int x) (.int y) && PyData.eqvAll (a.map PyData.int) (b.map PyData.int)) = _
  rw [ih]
  show ((x == y) && _) = _
  by_cases h : x = y
  ·subst h
   by_cases h2 : a = b
   ·subst h2; simp
   ·simp [h2]
  ·simp [h]
theorem shaped_ints {ns : List Int} (h : ns.length <= 8) : SeqAt.shaped (.tuple (ns.map PyData.int)) = true := by
 match ns, h with
 | [], _ => rfl
 | [_], _ => rfl
 | [_, _], _ => rfl
 | [_, _, _], _ => rfl
 | [_, _, _, _], _ => rfl
 | [_, _, _, _, _], _ => rfl
 | [_, _, _, _, _, _], _ => rfl
 | [_, _, _, _, _, _, _], _ => rfl
 | [_, _, _, _, _, _, _, _], _ => rfl
 | _ :: _ :: _ :: _ :: _ :: _ :: _ :: _ :: _ :: _, h => exact absurd h (by simp only [List.length_cons]; omega)
def rEqT (K : PySem.W.Frag) (neg : Bool) : R2 := fun x y H Q => ∃ (a b : Addr) (ns ms : List Int), x = .ref a /\ y = .ref b /\ SqT K H a (ns.map V.int) /\ SqT K H b (ms.map V.int) /\ ns.length <= 8 /\ ms.length <= 8 /\ Q (.bl (if neg then !decide (ns = ms) else decide (ns = ms))) H
theorem op_eqT (hu : X.A.units + 64 < cLine) : OpR X (compareOp .Eq) (rEqT X.K false) := fun pins s σ H x y v u Q I rx ry h => by
 obtain ⟨a, b, ns, ms, rfl, rfl, ha, hb, h1, h2, q⟩ := h
 refine op_eqD hu pins s σ H _ _ v u Q I rx ry ⟨.tuple (ns.map .int), .tuple (ms.map .int), .tup ha (dp_ints _ _ _), .tup hb (dp_ints _ _ _), shaped_ints h1, shaped_ints h2, ?_⟩
 show Q (.bl (PyData.eqvAll _ _)) H
 rw [eqvAll_ints]
 exact q
theorem op_neT (hu : X.A.units + 64 < cLine) : OpR X (compareOp .NotEq) (rEqT X.K true) := fun pins s σ H x y v u Q I rx ry h => by
 obtain ⟨a, b, ns, ms, rfl, rfl, ha, hb, h1, h2, q⟩ := h
 refine op_neD hu pins s σ H _ _ v u Q I rx ry ⟨.tuple (ns.map .int), .tuple (ms.map .int), .tup ha (dp_ints _ _ _), .tup hb (dp_ints _ _ _), shaped_ints h1, shaped_ints h2, ?_⟩
 show Q (.bl (!PyData.eqvAll _ _)) H
 rw [eqvAll_ints]
 exact q
def TupsAt (K : PySem.W.Frag) (H : Hp) : List Addr -> List (List Int) -> Prop := Paired fun p c => SqT K H p (c.map V.int) /\ c.length <= 8
theorem TupsAt.mem {K : PySem.W.Frag} {H : Hp} {p : Addr} : ∀ {ps : List Addr} {cs : List (List Int)}, TupsAt K H ps cs -> p ∈ ps -> ∃ c : List Int, SqT K H p (c.map V.int) /\ c.length <= 8
 | _, _, .nil, h => by cases h
 | _, _, .cons r t, h => by
  rcases List.mem_cons.mp h with rfl | h
  ·exact ⟨_, r⟩
  ·exact TupsAt.mem t h
open Classical in
noncomputable def isT (K : PySem.W.Frag) (H : Hp) (ns : List Int) (u : Value) : Bool := match u with
 | .ref p => decide (SqT K H p (ns.map V.int))
 | _ => false
theorem isT_any (I : Inv X pins σ H s) {ns : List Int} : ∀ {ps : List Addr} {cs : List (List Int)}, TupsAt X.K H ps cs -> (ps.map Value.ref).any (isT X.K H ns) = cs.any fun c => decide (c = ns)
 | _, _, .nil => rfl
 | p :: ps, c :: cs, .cons r t => by
  rw [List.map_cons, List.any_cons, List.any_cons, isT_any I t]
  congr 1
  show @decide _ (Classical.propDecidable _) = _
  by_cases e : c = ns
  ·subst e
   rw [@decide_eq_true _ (Classical.propDecidable _) r.1, decide_eq_true rfl]
  ·rw [decide_eq_false e, @decide_eq_false _ (Classical.propDecidable _) fun z => e (tup_inj I r.1 z)]
def rInT (K : PySem.W.Frag) : R2 := fun x y H Q => ∃ (a l : Addr) (ns : List Int) (ps : List Addr) (cs : List (List Int)), x = .ref a /\ y = .ref l /\ SqT K H a (ns.map V.int) /\ ns.length <= 8 /\ SqL K H l (ps.map V.ref) /\ TupsAt K H ps cs /\ Q (.bl (cs.any fun c => decide (c = ns))) H
theorem op_inT (hu : X.A.units + 100 < cLine) : OpR X (compareOp .In) (rInT X.K) := by
 intro pins s σ H x y v u Q I rx ry h
 obtain ⟨a, l, ns, ps, cs, rfl, rfl, ha, hn, hl, ht, q⟩ := h
 cases rx
 cases ry
 obtain ⟨its, r, pl, _⟩ := I.list hl
 have e := vals_refs r
 subst e
 refine SeqAt.in_listAt (isT X.K H ns) pl.isList (fun z hz => ?_) ⟨.bl _, H, I, rfl, ?_⟩
 ·have hz' : z ∈ ps.map Value.ref := by simpa using hz
  obtain ⟨p, hp, rfl⟩ := List.mem_map.mp hz'
  obtain ⟨c, hc, hc8⟩ := ht.mem hp
  obtain ⟨as, r1⟩ := Dp.reads I (.tuple (c.map .int)) (.ref p) (.ref p) (.tup hc (dp_ints _ _ _)) rfl
  obtain ⟨bs, r2⟩ := Dp.reads I (.tuple (ns.map .int)) (.ref a) (.ref a) (.tup ha (dp_ints _ _ _)) rfl
  have q2 := SeqAt.eqAt_reads _ _ X.A.in1 s _ _ as bs r1 r2 (SeqAt.canLay_of_shaped (shaped_ints hc8)) (SeqAt.canLay_of_shaped (shaped_ints hn)) (SeqAt.room_of_shaped (shaped_ints hc8) (by show X.A.units + 1 + 64 < cLine; omega))
  have e2 : PyData.eqv (.tuple (c.map .int)) (.tuple (ns.map .int)) = isT X.K H ns (.ref p) := by
   show PyData.eqvAll _ _ = @decide _ (Classical.propDecidable _)
   rw [eqvAll_ints]
   by_cases e : c = ns
   ·subst e
    rw [@decide_eq_true _ (Classical.propDecidable _) hc, decide_eq_true rfl]
   ·rw [decide_eq_false e, @decide_eq_false _ (Classical.propDecidable _) fun z => e (tup_inj I hc z)]
  rw [<- e2]
  exact q2
 ·have e3 : (ps.map Value.ref).toArray.any (isT X.K H ns) = (ps.map Value.ref).any (isT X.K H ns) := by simp
  rw [e3, isT_any I ht]
  exact q
end
section
variable {X : Cx} {CX : CXT} {k i : Nat} {E : XK} {x : Str} {p pos : Pos} {e : Expr} {es : List Expr} {t : TA}
def tCallV (X : Cx) (CX : CXT) (k i : Nat) (E : XK) (t : TA) : TE := fun σ H Q => ∃ (f : Addr) (fd : FuncData) (ps : List Str) (sp : Sp), σ[i]? = some (some (.ref f)) /\ FnOk X.prog X.w X.K X.mg X.base CX k f fd ps sp /\ PySem.W.keepIn X.K (.ref f) = true /\ Binds X.K fd ps [] /\ t σ H fun vs H1 => sp vs H1 Q E
theorem pe_callV (hN : X.N[i]? = some x) (hv : Vis X.env.scope x) (hr : Room k X.A) (hx : Passes CX X E) (ha : PA X (e :: es) t) (hd : (x == ("__debug__" : Str)) = false := by decide) (hcd : (x == ("__classdict__" : Str)) = false := by decide)
  (he : starEach (e :: es) X.env = (false, eval e X.env) :: starEach es X.env := by rfl) (hpl : (backTo pos (starEach es X.env)).any (·.1) = false := by rfl) : PE X (.Call (.Name x p) (e :: es) [] pos) (tCallV X CX k i E t) := by
 intro pins s σ H Q I h
 obtain ⟨f, fd, ps, sp, h1, F, hk, hb, q⟩ := h
 refine wpAny_Call_Name_kw (thn (pe_var hN hv hd hcd pins s σ H (fun v H1 => v = .ref f /\ H1 = H) I ⟨.ref f, h1, rfl, rfl⟩) fun u s1 hq => ?_)
 obtain ⟨v, H1, I1, r1, e1, e2⟩ := hq
 subst e1 e2
 cases r1
 refine PySem.W.callWith_K (h₀ := X.base) I.ok.mod.kin hk (thn (ha pos pins s1 σ H1 _ I1 q) fun us s2 ⟨vs, H2, I2, r2, q2⟩ => ⟨I2.kIn, ?_⟩) he hpl
 have q3 : sp (vs ++ []) H2 Q E := by rw [List.append_nil]; exact q2
 exact run_fn (ds := []) (dvs := []) F hr hb .nil hx I2 r2 q3
end
open PySem.W (WData Codec OpenSpec Well WellAll ReadsW ReadsAllW)
def BMx (mg : Str -> Option Value) (base : Heap) : Prop := ∃ bm ob, mg "__builtins__" = some (.ref bm) /\ bm ≠ builtinsNs /\ bm ≠ mainGlobals /\ base.get? bm = some ob /\ ob.cls = .type "module" /\ ob.dict = some builtinsNs /\ ob.data = .plain
def OnlyT (ts : List Addr) (H : Hp) : Prop := (∀ b ∈ ts, H b = some (.tbl #[])) /\ ∀ b, b ∉ ts -> H b = none ∨ ∃ o u, H b = some (.frz o u)
def withT (ts : List Addr) (H : Hp) : Hp := fun b => if b ∈ ts then some (.tbl #[]) else H b
theorem withT_in {ts : List Addr} {H : Hp} {b : Addr} (h : b ∈ ts) : withT ts H b = some (.tbl #[]) := if_pos h
theorem withT_out {ts : List Addr} {H : Hp} {b : Addr} (h : b ∉ ts) : withT ts H b = H b := if_neg h
theorem frz_same {K : PySem.W.Frag} {H H' : Hp} (h : ∀ b o u, H b = some (.frz o u) -> H' b = some (.frz o u)) (hO : OnlyF H) : (∀ {a xs}, SqL K H a xs -> SqL K H' a xs) /\ (∀ {a xs}, SqT K H a xs -> SqT K H' a xs) := by
 have rd : ∀ {a u}, Rd H a u -> Rd H' a u := fun {a u} x => by
  rcases x with x | ⟨o, x⟩
  ·rcases hO a with z | ⟨o, v, z⟩
   ·rw [z] at x; cases x
   ·rw [z] at x
    cases x
    exact .inl (h _ _ _ z)
  ·exact .inr ⟨o, h _ _ _ x⟩
 exact ⟨fun {a xs} x => x.imp rd id, fun {a xs} x => x.imp rd id⟩
mutual
theorem Dw.withT {K : PySem.W.Frag} {H H' : Hp} (hl : ∀ {a xs}, SqL K H a xs -> SqL K H' a xs) (ht : ∀ {a xs}, SqT K H a xs -> SqT K H' a xs) : ∀ {v : V} {d : WData}, Dw K H v d -> Dw K H' v d
 | _, _, .non => .non
 | _, _, .bl b => .bl b
 | _, _, .int i => .int i
 | _, _, .str x => .str x
 | _, _, .byt x => .byt x
 | _, _, .lst a b => .lst (hl a) (DwAll.withT hl ht b)
 | _, _, .tup a b => .tup (ht a) (DwAll.withT hl ht b)
theorem DwAll.withT {K : PySem.W.Frag} {H H' : Hp} (hl : ∀ {a xs}, SqL K H a xs -> SqL K H' a xs) (ht : ∀ {a xs}, SqT K H a xs -> SqT K H' a xs) : ∀ {vs : List V} {ds : List WData}, DwAll K H vs ds -> DwAll K H' vs ds
 | _, _, .nil => .nil
 | _, _, .cons a b => .cons (Dw.withT hl ht a) (DwAll.withT hl ht b)
end
theorem spec_callT {P : Program} {w : World} {K : PySem.W.Frag} {mg mb : Str -> Option Value} {CX : CXT} {k : Nat} {fa : Addr} {fd : FuncData} {ps : List Str} {sp : Sp} {s₁ : Shared} {vals : List Value} {ds : List WData} {R : PySem.W.WRecords} {cl : Str -> Option Addr} {d0 : WData}
  {ts : List (Addr × Addr)} (hts : ∀ q ∈ ts, PySem.W.codeHdIn K q.1 q.2 = true /\ s₁.heap.get? q.2 = some (PySem.W.tabObj #[]) /\ K.lookup q.2 = none) (hbm : ∃ bm ob, mg "__builtins__" = some (.ref bm) /\ bm ≠ builtinsNs /\ s₁.heap.get? bm = some ob /\ ob.cls = .type "module" /\ ob.dict = some builtinsNs /\ ob.data = .plain) (KX : K.In s₁.heap) (hns : s₁.heap.Ns mainGlobals mg) (hb : s₁.heap.Ns builtinsNs mb) (hbb : ∀ x : Str, x ≠ "__name__" -> mb x = bootBuiltins x) (hlim : s₁.heap.NoLimit) (hg : s₁.gens = #[])
  (hwl : WellAll w.params s₁.heap vals ds) (hpl : plWs ds = true) (hwt : ∀ d ∈ ds, d.weight <= 1048576) (hr : Room k callerA)
  (F : ∀ base : Heap, K.In base -> base.Ns mainGlobals mg -> BMx mg base -> FnOk P w K mg base CX k fa fd ps sp) (hbind : ∀ (s : Shared) (us : List Value), us.length = ps.length -> BindsTo s fd ⟨us, []⟩ (ps.zip us)) (hlen : ds.length = ps.length)
  (hsp : ∀ (H : Hp) (xs : List V), OnlyT (ts.map (·.2)) H -> DwAll K H xs ds -> sp xs H (fun v H' => Dw K H' v d0) fun _ _ _ => False)
  (hCX : ∀ H e s', CX [] H s₁ (fun _ _ _ => False) e s' -> False) :
  codeAny (model P w) callerA (.call (.ref fa) ⟨vals, []⟩) (fun r s' => ∃ u as, r = .ok (.ret u) /\ ReadsW R cl s'.heap u d0 as /\ OldK s₁.heap s'.heap /\ s'.os = s₁.os /\ AllBare s'.gens) s₁ := by
 obtain ⟨A, ho, ar⟩ := area_all ds vals hwl hpl hwt
 have hO : OnlyF (argH K s₁.heap A) := argH_only ar
 have hok : HOk P w (argH K s₁.heap A) s₁.heap := argH_ok ar
 have hS := dw_all KX ar ds vals hwl hpl ho
 have hV := vals_toV ho
 have hK : ∀ b u, argH K s₁.heap A b = some u -> K.lookup b = none := fun b u q => (argH_is ar q).1
 have isSeq : ∀ {b : Addr} {o : Obj} {u : HO}, s₁.heap.get? b = some o -> argH K s₁.heap A b = some u -> ∃ vs n, o.data = .seq vs n := fun {b o u} e q => by
  obtain ⟨_, vs, _, _, ⟨e2, _⟩ | ⟨e2, _⟩⟩ := argH_is ar q
  ·rw [e2] at e; cases e; exact ⟨_, _, rfl⟩
  ·rw [e2] at e; cases e; exact ⟨_, _, rfl⟩
 generalize argH K s₁.heap A = H0 at hO hok hS hK isSeq
 have tsN : ∀ b ∈ ts.map (·.2), H0 b = none /\ s₁.heap.get? b = some (PySem.W.tabObj #[]) /\ K.lookup b = none := fun b hb => by
  obtain ⟨q, hq, rfl⟩ := List.mem_map.mp hb
  obtain ⟨_, e, k⟩ := hts q hq
  refine ⟨?_, e, k⟩
  cases z : H0 q.2 with
  | none => rfl
  | some u =>
   obtain ⟨vs, n, d⟩ := isSeq e z
   cases d
 have hOT : OnlyT (ts.map (·.2)) (withT (ts.map (·.2)) H0) := ⟨fun b hb => withT_in hb, fun b hb => by rw [withT_out hb]; exact hO b⟩
 have sub : ∀ b u, H0 b = some u -> withT (ts.map (·.2)) H0 b = some u := fun b u e => by
  rw [withT_out fun z => (by rw [(tsN b z).1] at e; cases e)]
  exact e
 have hok2 : HOk P w (withT (ts.map (·.2)) H0) s₁.heap := fun b u e => by
  by_cases hb : b ∈ ts.map (·.2)
  ·rw [withT_in hb] at e
   cases e
   exact (tsN b hb).2.1
  ·rw [withT_out hb] at e
   exact (hok b u e).stay (fun _ _ _ q => q) (fun c q => sub c _ q) fun c xs q => sub c _ q
 have hS2 : DwAll K (withT (ts.map (·.2)) H0) (vals.map toV) ds := by
  obtain ⟨s1, s2⟩ := frz_same (K := K) (H := H0) (H' := withT (ts.map (·.2)) H0) (fun b o u e => sub b _ e) hO
  exact hS.withT s1 s2
 have nodict : ∀ {b : Addr} {o : Obj}, s₁.heap.get? b = some o -> (∀ vs n, o.data ≠ .seq vs n) -> (∀ vs, o.data ≠ .fields vs) -> withT (ts.map (·.2)) H0 b = none := fun {b o} e d1 d2 => by
  by_cases hb : b ∈ ts.map (·.2)
  ·rw [(tsN b hb).2.1] at e
   cases e
   exact absurd rfl (d2 _)
  ·rw [withT_out hb]
   cases q : H0 b with
   | none => rfl
   | some u =>
    obtain ⟨vs, n, z⟩ := isSeq e q
    exact absurd z (d1 _ _)
 have nK : ∀ b o, K.lookup b = some o -> withT (ts.map (·.2)) H0 b = none := fun b o e => by
  by_cases hb : b ∈ ts.map (·.2)
  ·rw [(tsN b hb).2.2] at e
   cases e
  ·rw [withT_out hb]
   cases q : H0 b with
   | none => rfl
   | some u =>
    rw [hK b u q] at e
    cases e
 generalize hHH : withT (ts.map (·.2)) H0 = H at hOT hok2 hS2 nodict nK
 have base_of : ∀ {b : Addr} {o : Obj}, s₁.heap.get? b = some o -> H b = none -> (hidT s₁.heap H).get? b = some o := fun e n => hidT_get e n
 have nsK : ∀ {b : Addr} {m : Str -> Option Value}, s₁.heap.Ns b m -> (hidT s₁.heap H).Ns b m := fun {b m} ⟨o, es, ep, e, d, r⟩ => ⟨o, es, ep, base_of e (nodict e (fun _ _ z => by rw [d] at z; cases z) fun _ z => by rw [d] at z; cases z), d, r⟩
 have hKb : K.In (hidT s₁.heap H) := fun b o e => base_of (KX b o e) (nK b o e)
 have hM : Mod K mg (hidT s₁.heap H) := ⟨hKb, nsK hns, ⟨mb, nsK hb, hbb⟩, let ⟨mc, h1, h2⟩ := hlim; ⟨mc, nsK h1, h2⟩⟩
 have hBM : BMx mg (hidT s₁.heap H) := by
  obtain ⟨bm, ob, b1, b2, b3, b4, b5, b6⟩ := hbm
  refine ⟨bm, ob, b1, b2, fun q => ?_, base_of b3 (nodict b3 (fun _ _ z => by rw [b6] at z; cases z) fun _ z => by rw [b6] at z; cases z), b4, b5, b6⟩
  obtain ⟨o, es, ep, e, hd, _⟩ := hns
  rw [q, e] at b3
  cases b3
  rw [hd] at b6
  cases b6
 have e0 : Env0 P w K mg (hidT s₁.heap H) callerA [] s₁ H := ⟨rfl, hM, fun b o e => of_hidT e, Nat.le_of_eq (hidT_size _ _), trivial, fun b hb => absurd (show b ∈ ([] : List Addr) from hb) (by simp), hok2, .of_eq hg⟩
 have hl : vals.length = ps.length := by rw [wellAll_len hwl]; exact hlen
 refine codeAny_mono ((F _ hKb (nsK hns) hBM).run callerA [] s₁ H ⟨vals, []⟩ vals (vals.map toV) _ _ hr e0 (hbind s₁ vals hl) hV (hsp H _ hOT hS2)) fun r s' x => ?_
 cases r with
 | error e => exact (hCX H e s' x).elim
 | ok fl =>
  cases fl with
  | next => exact False.elim x
  | brk => exact False.elim x
  | cont => exact False.elim x
  | ret u =>
   obtain ⟨v, H', os, bare, un, hok', r', q⟩ := x
   have kept : ∀ b o, b ∉ ts.map (·.2) -> s₁.heap.get? b = some o -> s'.heap.get? b = some o := fun b o hb e => by
    cases q2 : H b with
    | none => exact un.keep b o e q2 (by intro z; exact absurd (show b ∈ ([] : List Addr) from z) (by simp)) (by simp)
    | some u2 =>
     rcases hOT.2 b hb with z | ⟨ob, u3, z⟩
     ·rw [q2] at z
      cases z
     ·have z2 := un.frzs b ob _ z
      obtain ⟨e1, _⟩ := hok2 b _ z
      obtain ⟨e2, _⟩ := hok' b _ z2
      rw [e] at e1
      cases e1
      exact e2
   have grown : ∀ b ∈ ts.map (·.2), ∃ more, s'.heap.get? b = some (PySem.W.tabObj more) := fun b hb => by
    obtain ⟨more, e⟩ := un.tbls b _ (hOT.1 b hb)
    exact ⟨#[] ++ more, hok' b _ e⟩
   have KX' : K.In s'.heap := fun b o e => kept b o (fun z => (by rw [(tsN b z).2.2] at e; cases e)) (KX b o e)
   obtain ⟨as, hrd⟩ := Dw.reads (R := R) (cl := cl) hok' KX' d0 v u q r'
   refine ⟨u, as, rfl, hrd, ⟨fun b o e => ?_, fun b o e => ?_⟩, os, bare⟩
   ·by_cases hb' : b ∈ ts.map (·.2)
    ·obtain ⟨more, e2⟩ := grown b hb'
     obtain ⟨z, hz, rfl⟩ := List.mem_map.mp hb'
     have e3 := (hts z hz).2.1
     rw [e3] at e
     cases e
     obtain ⟨oc, vs, _, _, _, _, _, _, _, c1, c2, c3, c4, _⟩ := PySem.W.codeHd_of_K KX (hts z hz).1
     exact .inr (.inl ⟨⟨z.1, oc, vs, c1, c2, c3, c4⟩, rfl, #[], more, rfl, by rw [e2]; simp⟩)
    ·exact .inl (kept b o hb' e)
   ·by_cases hb' : b ∈ ts.map (·.2)
    ·obtain ⟨more, e2⟩ := grown b hb'
     exact ⟨_, e2⟩
    ·exact ⟨o, kept b o hb' e⟩
theorem walk_specT {r : OpenSpec} {k : Nat} {q : Program} {loose : List Str} {XP : (Str -> Option Value) -> Heap -> Prop} {YP : World -> Heap -> Prop} {d : DefRec} {K : Params -> PySem.W.Frag} {CX : CXT} {ps : List Str} {sp : PySem.W.Frag -> Sp} {ts : List (Addr × Addr)}
  (hwell : r.wellSaid = true) (hdf : d.params.defaults = []) (hlen : r.args.length = ps.length) (hr : Room k callerA)
  (hY : ∀ (w : World) (h : Heap), YP w h -> (K w.params).In h /\ ∀ P ∈ ts.map (·.2), h.get? P = some (PySem.W.tabObj #[]))
  (hT : ∀ (w : World), ∀ t ∈ ts, PySem.W.codeHdIn (K w.params) t.1 t.2 = true /\ (K w.params).lookup t.2 = none)
  (F : ∀ (w : World) (mg : Str -> Option Value) (fa : Addr) (h : Heap), YP w h -> (K w.params).In h -> h.Ns mainGlobals mg -> mg d.name = some (.ref fa) ->
   ∃ fd : FuncData, (∀ (s : Shared) (us : List Value), us.length = ps.length -> BindsTo s fd ⟨us, []⟩ (ps.zip us)) /\
    ∀ base : Heap, (K w.params).In base -> base.Ns mainGlobals mg -> BMx mg base -> FnOk r.prog w (K w.params) mg base CX k fa fd ps (sp (K w.params)))
  (hsp : ∀ (K : PySem.W.Frag) (H : Hp) (xs : List V) (a : Codec.denoteAll r.args), OnlyT (ts.map (·.2)) H -> Codec.withinAll r.args a = true -> Codec.app r.args r.asked a = true -> DwAll K H xs (Codec.encAll r.args a) ->
   sp K xs H (fun v H' => Dw K H' v (r.ret.enc (Codec.app r.args r.f a))) fun _ _ _ => False)
  (hCX : ∀ (H : Hp) (s : Shared) (e : Value) (s' : Shared), CX [] H s (fun _ _ _ => False) e s' -> False) :
  PySem.W.WalkOS q loose XP YP r d [] (fun f vs => PySem.call f vs) := by
 intro w s_0 s₁ mg mb G Y fa o pm cd doc dV kV ho hd hcd hD hmg hg args vals as hpre hlay hrd hwl hlo
 obtain ⟨a, e1, e2⟩ := PySem.W.os_pre_some hpre
 obtain ⟨e3, hwi⟩ := Codec.encAll_of_decAll r.args args a e1
 subst e3
 obtain ⟨KX, TX⟩ := hY w _ Y
 obtain ⟨fd, hb, hF⟩ := F w mg fa _ Y KX G.T.g hmg
 refine PySem.W.enter_call (codeAny_mono (spec_callT (ts := ts) (R := []) (cl := classAt s_0.heap) (d0 := r.ret.enc (Codec.app r.args r.f a)) (fun t ht => ⟨(hT w t ht).1, TX t.2 (List.mem_map.mpr ⟨t, ht, rfl⟩), (hT w t ht).2⟩) G.T.bmain KX G.T.g G.T.b G.T.builtins G.T.nolimit hg hwl (pl_encAll _ _) (layable_weight hlay) hr hF hb (by rw [encAll_len]; exact hlen)
  (fun H xs hO hS => hsp (K w.params) H xs a hO hwi e2 hS) fun H e s' => hCX H s₁ e s') fun r' s' hq => ?_)
 obtain ⟨u, as', rfl, h1, h2, h3, h4⟩ := hq
 exact ⟨.inl ⟨u, _, as', rfl, fun _ => rfl, h1, (OpenSpec.post_iff hwell hwi _ _).mpr rfl, fun z => Bool.noConfusion (show false = true from z)⟩, h2, h3, h4⟩
open PySem.W (CodeHd tabObj kla_obj kla_fn codeHdIn)
theorem lexLt_trans : ∀ {a b c : List Int}, HT.lexLt a b = true -> HT.lexLt b c = true -> HT.lexLt a c = true
 | [], [], _, h, _ => by cases h
 | [], _ :: _, [], _, h => by cases h
 | [], _ :: _, _ :: _, _, _ => rfl
 | _ :: _, [], _, h, _ => by cases h
 | _ :: _, _ :: _, [], _, h => by cases h
 | x :: a, y :: b, z :: c, h1, h2 => by
  rw [HT.lexLt_cons] at h1 h2 ⊢
  by_cases e1 : x = y
  ·subst e1
   rw [if_pos rfl] at h1
   by_cases e2 : x = z
   ·subst e2
    rw [if_pos rfl] at h2 ⊢
    exact lexLt_trans h1 h2
   ·rw [if_neg e2] at h2 ⊢
    exact h2
  ·rw [if_neg e1] at h1
   have h1 := of_decide_eq_true h1
   by_cases e2 : y = z
   ·subst e2
    rw [if_neg e1]
    exact decide_eq_true h1
   ·rw [if_neg e2] at h2
    have h2 := of_decide_eq_true h2
    rw [if_neg (by omega)]
    exact decide_eq_true (by omega)
def KeyAt (h : Heap) (v : Value) (ns : List Int) : Prop := ∃ p its, v = .ref p /\ IsTup h p its /\ IntsAre its.toList ns
theorem KeyAt.go {h h' : Heap} {v : Value} {ns : List Int} (k : KeyAt h v ns) (g : ∀ p o, h.get? p = some o -> o.cls = .type "tuple" -> h'.get? p = some o) : KeyAt h' v ns := by
 obtain ⟨p, its, e, ⟨o, h1, h2, h3⟩, i⟩ := k
 exact ⟨p, its, e, ⟨o, g _ _ h1 h2, h2, h3⟩, i⟩
theorem isList_go {h h' : Heap} {l : Addr} {a : Array Value} (k : h.IsList l a) (g : ∀ b o, h.get? b = some o -> h'.get? b = some o) : h'.IsList l a := by
 obtain ⟨o, h1, h2⟩ := k
 exact ⟨o, g _ _ h1, h2⟩
section
variable {prog : Program} {w : World} {A : Around} {E : Value -> Shared -> Prop} {s : Shared} {h0 : Heap} {l q I S : Addr} {vs : List Value} {R : Result -> Shared -> Prop} {Q : Value -> Shared -> Prop}
theorem minT_loop (kf : Nat -> List Int) (hh : A.handled = none) (hu : A.in1.units < cLine) (hl : h0.IsList l vs.toArray) (hlI : l ≠ I) (hSI : S ≠ I) (hI0 : h0.get? I = none) (hS0 : h0.get? S = none)
  (turn : ∀ (i : Nat) (v : Value), vs[i]? = some v -> ∀ (h : Heap) (tk : Nat), (∀ b o, h0.get? b = some o -> h.get? b = some o) ->
   wpAny (model prog w) A.in1 (call (.ref q) [v]) (fun x s' => ∃ h' tk', s' = { s with heap := h', toks := tk' } /\ (∀ b o, h.get? b = some o -> h'.get? b = some o) /\ KeyAt h' x (kf i)) (fun _ _ => False) { s with heap := h, toks := tk })
  (hR : ∀ i v h' tk', vs[i]? = some v -> (∀ j, j < vs.length -> HT.lexLt (kf j) (kf i) = false) -> (∀ b o, h0.get? b = some o -> h'.get? b = some o) -> R (.ok (.ret v)) { s with heap := h', toks := tk' }) :
  ∀ (r j i : Nat) (h : Heap) (tk : Nat) (vb kb : Value) (c : Nat), vs.length - (j + 1) = r -> j + 1 <= vs.length -> (∀ b o, h0.get? b = some o -> h.get? b = some o) ->
   h.get? S = some (seqObj "list" #[vb, kb] c) -> KeyAt h kb (kf i) -> h.IsListIter I l (j + 1) -> vs[i]? = some vb -> (∀ j', j' <= j -> HT.lexLt (kf j') (kf i) = false) ->
   codeAny (model prog w) A (.builtin "min.loop" ⟨[.ref I, .ref q, .ref S], []⟩) R { s with heap := h, toks := tk } := by
 have hname : (toString "min" ++ toString ".loop" : String) = "min.loop" := by decide
 have W := Walks.list (prog := prog) (w := w) (A := A.in1) hh I l hlI vs.toArray
 have hsz : vs.toArray.size = vs.length := List.size_toArray ..
 have nI : ∀ {b o}, h0.get? b = some o -> b ∉ [I] := fun {b o} e z => by rw [List.mem_singleton.mp z, hI0] at e; cases e
 have nS : ∀ {b o}, h0.get? b = some o -> S ≠ b := fun {b o} e z => by rw [<- z, hS0] at e; cases e
 have kI : ∀ {h h' : Heap} {v ns} {k : Nat}, h.IsListIter I l k -> KeyAt h v ns -> (∀ b o, b ∉ [I] -> h.get? b = some o -> h'.get? b = some o) -> KeyAt h' v ns := fun {h h' v ns k} hit K hk => K.go fun p o e ec => hk p o (fun z => by
  obtain ⟨oI, eI, ecI, _⟩ := hit
  rw [List.mem_singleton.mp z, eI] at e
  cases e
  rw [ecI] at ec
  injection ec with ec
  exact absurd ec (by decide)) e
 intro r
 induction r with
 | zero =>
  intro j i h tk vb kb c hr hj kp hS K hit hvb hbest
  have hin : j + 1 = vs.length := by omega
  refine codeAny_builtin PySem.F.entry_min_loop ?_
  rw [Around.under_plainId PySem.F.plain_min_loop _]
  show wpAny _ A.in1 (seqItems? (.ref S) >>= _) _ _ _
  refine wpAny_bind (wpAny_seqItems hS rfl ?_)
  show wpAny _ A.in1 (tryCatch (pyNext (.ref I)) _ >>= _) _ _ _
  refine wpAny_bind (wpAny_tryCatch (W.done _ _ _ ⟨by rw [hsz, <- hin]; exact hit, isList_go hl kp⟩ fun h' tk' hk' => ?_))
  have hS' := hk' S _ (by simpa using hSI) hS
  have s1 := Heap.SameBut.update h' S (Obj.mapSeq fun _ => (#[] : Array Value))
  show wpAny _ A.in1 (updateSeq S (fun _ => #[]) >>= _) _ _ _
  refine wpAny_bind ?_
  refine wpAny_updateSeq hS' rfl (wpAny_bind (wpAny_letGo (wpAny_pure ?_)))
  exact hR i vb _ _ hvb (fun j' hj' => hbest j' (by omega)) fun b o e => (s1.2 b (nS e).symm).trans (hk' b o (nI e) (kp b o e))
 | succ r ih =>
  intro j i h tk vb kb c hr hj kp hS K hit hvb hbest
  have hlt : j + 1 < vs.length := by omega
  refine codeAny_builtin PySem.F.entry_min_loop ?_
  rw [Around.under_plainId PySem.F.plain_min_loop _]
  show wpAny _ A.in1 (seqItems? (.ref S) >>= _) _ _ _
  refine wpAny_bind (wpAny_seqItems hS rfl ?_)
  show wpAny _ A.in1 (tryCatch (pyNext (.ref I)) _ >>= _) _ _ _
  refine wpAny_bind (wpAny_tryCatch (W.item (j + 1) _ _ _ (by rw [hsz]; exact hlt) ⟨hit, isList_go hl kp⟩ fun v h' tk' hP hst' hk' => ?_))
  have hv : vs[j + 1]? = some v := by simpa using hP
  obtain ⟨oI', hoI', hoc, hod⟩ := id hst'.1
  have kp1 : ∀ b o, h0.get? b = some o -> h'.get? b = some o := fun b o e => hk' b o (nI e) (kp b o e)
  have hS1 := hk' S _ (by simpa using hSI) hS
  have K1 := kI hit K hk'
  show wpAny _ A.in1 (tryCatch (holding [v] (call (.ref q) [v])) _ >>= _) _ _ _
  refine wpAny_bind (wpAny_tryCatch (wpAny_holding (wpAny_mono (turn (j + 1) v hv h' tk' kp1) (fun x s'' he => ?_) fun _ _ hF => hF.elim)))
  obtain ⟨h2, tk2, rfl, hk2, KX⟩ := he
  have kp2 : ∀ b o, h0.get? b = some o -> h2.get? b = some o := fun b o e => hk2 b o (kp1 b o e)
  have hS2 := hk2 _ _ hS1
  have K2 : KeyAt h2 kb (kf i) := K1.go fun p o e _ => hk2 p o e
  have hit2 : h2.IsListIter I l (j + 1 + 1) := ⟨oI', hk2 _ _ hoI', hoc, hod⟩
  obtain ⟨pb, itb, rfl, tb, ib⟩ := id K2
  obtain ⟨px, itx, rfl, tx, ix⟩ := id KX
  show wpAny _ A.in1 (tryCatch (holding [v, .ref px] (richCompare .Lt (.ref px) (.ref pb) >>= _)) _ >>= _) _ _ _
  refine wpAny_bind (wpAny_tryCatch (wpAny_holding (wpAny_bind ?_)))
  refine HT.lt_tupInts (s := { s with heap := h2, toks := tk2 }) tx tb ix ib hu ?_
  refine wpAny_bind (wpAny_holding (wpAny_truthy_bool ?_))
  refine wpAny_bind (wpAny_letGo (wpAny_pure ?_))
  by_cases hb' : HT.lexLt (kf (j + 1)) (kf i) = true
  ·have s1 := Heap.SameBut.update h2 S (Obj.mapSeq fun _ => #[v, .ref px])
   obtain ⟨c2, hc2⟩ : ∃ c2, (h2.update S (Obj.mapSeq fun _ => #[v, .ref px])).get? S = some (seqObj "list" #[v, .ref px] c2) := ⟨_, get?_update_seq hS2 fun _ => #[v, .ref px]⟩
   rw [if_pos hb']
   refine wpAny_bind ?_
   refine wpAny_updateSeq hS2 rfl (wpAny_bind (wpAny_letGo ?_))
   rw [hname]
   refine wpAny_pure ⟨plainId_quiet PySem.F.plain_min_loop _, ih (j + 1) (j + 1) _ _ v (.ref px) c2 (by omega) hlt (fun b o e => (s1.2 b (nS e).symm).trans (kp2 b o e)) hc2 (KX.go fun p o e ec => (s1.2 p fun z => ?_).trans e) ⟨oI', (s1.2 I hSI.symm).trans (hk2 _ _ hoI'), hoc, hod⟩ hv fun j' hj' => ?_⟩
   ·rw [z, hS2] at e
    cases e
    injection ec with ec
    exact absurd ec (by decide)
   ·by_cases e : j' = j + 1
    ·subst e
     cases hz : HT.lexLt (kf (j + 1)) (kf (j + 1)) with
     | false => rfl
     | true =>
      exfalso
      have irr : ∀ a : List Int, HT.lexLt a a = false := fun a => by
       induction a with
       | nil => rfl
       | cons x a ih => rw [HT.lexLt_cons, if_pos rfl]; exact ih
      rw [irr] at hz
      cases hz
    ·cases hz : HT.lexLt (kf j') (kf (j + 1)) with
     | false => rfl
     | true =>
      have := lexLt_trans hz hb'
      rw [hbest j' (by omega)] at this
      cases this
  ·rw [if_neg hb']
   refine wpAny_bind (wpAny_letGo ?_)
   rw [hname]
   refine wpAny_pure ⟨plainId_quiet PySem.F.plain_min_loop _, ih (j + 1) i _ _ vb (.ref pb) c (by omega) hlt kp2 hS2 K2 hit2 hvb fun j' hj' => ?_⟩
   by_cases e : j' = j + 1
   ·subst e
    simpa using hb'
   ·exact hbest j' (by omega)
theorem call_minT (kf : Nat -> List Int) (hh : A.handled = none) (hu : A.in1.units < cLine) (hl : s.heap.IsList l vs.toArray) (hne : 0 < vs.length)
  (turn : ∀ (i : Nat) (v : Value), vs[i]? = some v -> ∀ (h : Heap) (tk : Nat), (∀ b o, s.heap.get? b = some o -> h.get? b = some o) ->
   wpAny (model prog w) A.in1 (call (.ref q) [v]) (fun x s' => ∃ h' tk', s' = { s with heap := h', toks := tk' } /\ (∀ b o, h.get? b = some o -> h'.get? b = some o) /\ KeyAt h' x (kf i)) (fun _ _ => False) { s with heap := h, toks := tk })
  (hQ : ∀ i v h' tk', vs[i]? = some v -> (∀ j, j < vs.length -> HT.lexLt (kf j) (kf i) = false) -> (∀ b o, s.heap.get? b = some o -> h'.get? b = some o) -> Q v { s with heap := h', toks := tk' }) :
  wpAny (model prog w) A (call (.builtin "min") [.ref l] [(Str.ofString "key", .ref q)]) Q E s := by
 have hname : (toString "min" ++ toString ".loop" : String) = "min.loop" := by decide
 obtain ⟨ol, hol, _⟩ := id hl
 have hll : l < s.heap.objs.size := Heap.lt_size hol
 refine kmk_tree PySem.F.kind_min PySem.F.plain_min PySem.F.entry_min (kmk_min_key _ _) ?_
 show wpAny _ A.in1 (Builtin.Builtins.bindParams "min" ["key", "default"] 0 ⟨[], [(Str.ofString "key", .ref q)]⟩ >>= _) _ _ s
 refine wpAny_bind (wpAny_of_eq (show Builtin.Builtins.bindParams "min" ["key", "default"] 0 ⟨[], [(Str.ofString "key", .ref q)]⟩ = pure [some (.ref q), none] from rfl) ?_)
 refine wpAny_bind (wpAny_pure ?_)
 refine wpAny_bind (wpAny_pyIter_list hl ?_)
 refine wpAny_bind (wpAny_newList ?_ (Nat.zero_le _))
 rw [hname]
 have hS : (s.heap.push { cls := .type "list_iterator", data := .fields #[.ref l, .int 0 0] }).objs.size = s.heap.objs.size + 1 := size_push' ..
 have hlI : l ≠ s.heap.objs.size := Nat.ne_of_lt hll
 have hSI : (s.heap.push { cls := .type "list_iterator", data := .fields #[.ref l, .int 0 0] }).objs.size ≠ s.heap.objs.size := by rw [hS]; exact Nat.ne_of_gt (Nat.lt_succ_self _)
 refine wpAny_pure ⟨plainId_quiet PySem.F.plain_min_loop _, ?_⟩
 have gI : ((s.heap.push { cls := .type "list_iterator", data := .fields #[.ref l, .int 0 0] }).push (seqObj "list" #[] 0)).get? s.heap.objs.size = some { cls := .type "list_iterator", data := .fields #[.ref l, .int 0 0] } :=
  Heap.get?_push_of_some _ (Heap.get?_push_size _ rfl)
 have gS : ((s.heap.push { cls := .type "list_iterator", data := .fields #[.ref l, .int 0 0] }).push (seqObj "list" #[] 0)).get? (s.heap.push { cls := .type "list_iterator", data := .fields #[.ref l, .int 0 0] }).objs.size = some (seqObj "list" #[] 0) := Heap.get?_push_size _ rfl
 have kp0 : ∀ b o, s.heap.get? b = some o -> ((s.heap.push { cls := .type "list_iterator", data := .fields #[.ref l, .int 0 0] }).push (seqObj "list" #[] 0)).get? b = some o := fun b o e => Heap.get?_push_of_some _ (Heap.get?_push_of_some _ e)
 have I0 : s.heap.get? s.heap.objs.size = none := Heap.get?_none_of_le (Nat.le_refl _)
 have S0 : s.heap.get? (s.heap.push { cls := .type "list_iterator", data := .fields #[.ref l, .int 0 0] }).objs.size = none := Heap.get?_none_of_le (by rw [hS]; exact Nat.le_succ _)
 have nI : ∀ {b o}, s.heap.get? b = some o -> b ∉ [s.heap.objs.size] := fun {b o} e z => by rw [List.mem_singleton.mp z, I0] at e; cases e
 have nS : ∀ {b o}, s.heap.get? b = some o -> (s.heap.push { cls := .type "list_iterator", data := .fields #[.ref l, .int 0 0] }).objs.size ≠ b := fun {b o} e z => by rw [<- z, S0] at e; cases e
 have W := Walks.list (prog := prog) (w := w) (A := A.in1) hh s.heap.objs.size l hlI vs.toArray
 have hsz : vs.toArray.size = vs.length := List.size_toArray ..
 refine codeAny_builtin PySem.F.entry_min_loop ?_
 rw [Around.under_plainId PySem.F.plain_min_loop _]
 show wpAny _ A.in1 (seqItems? (.ref _) >>= _) _ _ _
 refine wpAny_bind (wpAny_seqItems gS rfl ?_)
 show wpAny _ A.in1 (tryCatch (pyNext (.ref s.heap.objs.size)) _ >>= _) _ _ _
 refine wpAny_bind (wpAny_tryCatch (W.item 0 _ _ _ (by rw [hsz]; exact hne) ⟨⟨_, gI, rfl, rfl⟩, isList_go hl kp0⟩ fun v h' tk' hP hst' hk' => ?_))
 have hv : vs[0]? = some v := by simpa using hP
 obtain ⟨oI', hoI', hoc, hod⟩ := id hst'.1
 have kp1 : ∀ b o, s.heap.get? b = some o -> h'.get? b = some o := fun b o e => hk' b o (nI e) (kp0 b o e)
 have hS1 := hk' _ _ (by simpa using hSI) gS
 show wpAny _ A.in1 (tryCatch (holding [v] (call (.ref q) [v])) _ >>= _) _ _ _
 refine wpAny_bind (wpAny_tryCatch (wpAny_holding (wpAny_mono (turn 0 v hv h' tk' kp1) (fun x s'' he => ?_) fun _ _ hF => hF.elim)))
 obtain ⟨h2, tk2, rfl, hk2, KX⟩ := he
 have kp2 : ∀ b o, s.heap.get? b = some o -> h2.get? b = some o := fun b o e => hk2 b o (kp1 b o e)
 have hS2 := hk2 _ _ hS1
 have s1 := Heap.SameBut.update h2 (s.heap.push { cls := .type "list_iterator", data := .fields #[.ref l, .int 0 0] }).objs.size (Obj.mapSeq fun _ => #[v, x])
 obtain ⟨c2, hc2⟩ : ∃ c2, (h2.update (s.heap.push { cls := .type "list_iterator", data := .fields #[.ref l, .int 0 0] }).objs.size (Obj.mapSeq fun _ => #[v, x])).get? (s.heap.push { cls := .type "list_iterator", data := .fields #[.ref l, .int 0 0] }).objs.size = some (seqObj "list" #[v, x] c2) := ⟨_, get?_update_seq hS2 fun _ => #[v, x]⟩
 show wpAny _ A.in1 (updateSeq (s.heap.push { cls := .type "list_iterator", data := .fields #[.ref l, .int 0 0] }).objs.size (fun _ => #[v, x]) >>= _) _ _ _
 refine wpAny_bind ?_
 refine wpAny_updateSeq hS2 rfl ?_
 rw [hname]
 refine wpAny_pure ⟨plainId_quiet PySem.F.plain_min_loop _, minT_loop (h0 := s.heap) kf hh hu hl hlI hSI I0 S0 turn hQ _ 0 0 _ _ v x c2 rfl hne (fun b o e => (s1.2 b (nS e).symm).trans (kp2 b o e)) hc2 (KX.go fun p o e ec => (s1.2 p fun z => ?_).trans e) ⟨oI', (s1.2 _ hSI.symm).trans (hk2 _ _ hoI'), hoc, hod⟩ hv fun j' hj' => ?_⟩
 ·rw [z, hS2] at e
  cases e
  injection ec with ec
  exact absurd ec (by decide)
 ·have e : j' = 0 := by omega
  subst e
  have irr : ∀ a : List Int, HT.lexLt a a = false := fun a => by
   induction a with
   | nil => rfl
   | cons x a ih => rw [HT.lexLt_cons, if_pos rfl]; exact ih
  exact irr _
end
open PySem.W (CodeHd tabObj kla_obj kla_fn codeHdIn)
abbrev body3 (x y f g : Str) (p1 p2 p3 p4 p5 p6 p7 p8 p9 q1 q2 : Pos) (k : Nat) : Expr :=
 .Tuple [.Call (.Name "abs" p1) [.BinOp (.Attribute (.Name x p2) f p3) .Sub (.Name y p4) p5] [] p6, .Attribute (.Name x p7) g p8, .Attribute (.Name x p9) f q1] k q2
abbrev key3 (mt sd mm : Int) : List Int := [if mt - mm < 0 then -(mt - mm) else mt - mm, sd, mt]
theorem key3_turn {prog : Program} {w : World} {A : Around} {E : Value -> Shared -> Prop} {s : Shared} {K : PySem.W.Frag} {f a c' dx C cc : Addr} {qual x y fl gl : Str} {params : Arguments} {scope : Scope} {pm ctv : Value} {p1 p2 p3 p4 p5 p6 p7 p8 p9 q1 q2 : Pos} {k : Nat} {mA mg mb : Str -> Option Value} {mt sd mm : Int} {t1 t2 t3 : Tok} {Q : Value -> Shared -> Prop}
  (hroom : A.depth < recursionLimit) (ho : s.heap.get? f = some (kla_obj "<lambda>" qual params (body3 x y fl gl p1 p2 p3 p4 p5 p6 p7 p8 p9 q1 q2 k) scope [(y, cc)] pm c' ctv)) (hcd : s.heap.CodeRec (.ref c') qual) (hlim : s.heap.NoLimit) (KX : K.In s.heap)
  (hg : s.heap.Ns mainGlobals mg) (hm : mg "abs" = none) (hbt : s.heap.Ns builtinsNs mb) (hmb : mb "abs" = some (.builtin "abs")) (hcv : s.heap.IsCell cc (some (.int mm t3)))
  (hb : bindArgs (kla_fn "<lambda>" qual params (body3 x y fl gl p1 p2 p3 p4 p5 p6 p7 p8 p9 q1 q2 k) scope [(y, cc)] pm (.ref c') ctv) ⟨[.ref a], []⟩ = pure [(x, .ref a)]) (hloc : scope.names.lookup x = some .local) (hfr : scope.names.lookup y = some .free) (hgl : scope.names.lookup ("abs" : Str) = some .globalImplicit)
  (hco : scope.isCoroutine = false) (hgen : scope.isGenerator = false) (hk : scope.kind = .function) (hcell : ∀ x ∈ scope.names, x.2 ≠ .cell) (hxd : (x == ("__debug__" : Str)) = false) (hyd : (y == ("__debug__" : Str)) = false) (hyc : (y == ("__classdict__" : Str)) = false)
  (hab : ∀ p fld env, attributeBase (.Name x p) fld env (eval (.Name x p) env) = eval (.Name x p) env)
  (O : ObjM s.heap a dx C mA) (c : Cls K C) (n1 : NoAttr K C fl) (n2 : NoAttr K C gl) (hv1 : mA fl = some (.int mt t1)) (hv2 : mA gl = some (.int sd t2))
  (h : ∀ h' tk v, (∀ b o, s.heap.get? b = some o -> h'.get? b = some o) -> KeyAt h' v (key3 mt sd mm) -> Q v { s with heap := h', toks := tk }) :
  wpAny (model prog w) A (call (.ref f) [.ref a]) Q E s := by
 refine wpAny_call (PySem.W.kla_callFunE hroom ho rfl hco hgen rfl hcd ?_)
 rw [hb]
 refine wpAny_pure (wpAny_newFunctionEnv hcell (fun y hy => by rw [List.mem_singleton.mp hy]; exact hloc) (fun h₁ hns hsb => ⟨hlim.fresh _ hsb, ?_⟩) hk)
 have hk₁ : ∀ b o, s.heap.get? b = some o -> h₁.get? b = some o := fun b o e => hsb.extBut b o (Nat.ne_of_lt (Heap.lt_size e)) (Heap.get?_push_of_some _ e)
 show codeAny _ _ (.expr (body3 x y fl gl p1 p2 p3 p4 p5 p6 p7 p8 p9 q1 q2 k) (PySem.W.envX qual scope s.heap.objs.size f (.ref c') [(y, cc)])) _ _
 generalize henv : PySem.W.envX qual scope s.heap.objs.size f (.ref c') [(y, cc)] = env
 have ek : env.scope.kind = .function := by rw [<- henv]; exact hk
 have ex : env.kindOf x = some .local := by rw [<- henv]; exact hloc
 have ey : env.kindOf y = some .free := by rw [<- henv]; exact hfr
 have ea : env.kindOf ("abs" : Str) = some .globalImplicit := by rw [<- henv]; exact hgl
 have el : env.locals = s.heap.objs.size := by rw [<- henv]
 have eg : env.globals = mainGlobals := by rw [<- henv]
 have eb : env.builtins = builtinsNs := by rw [<- henv]
 have ec : env.cells.lookup y = some cc := by rw [<- henv]; simp
 have O1 : ObjM h₁ a dx C mA := ⟨hk₁ _ _ O.obj, O.ns.at fun o e => hk₁ _ _ e, O.ne⟩
 have hx : ([(x, Value.ref a)] : List (Str × Value)).reverse.lookup x = some (.ref a) := by simp
 have att : ∀ {p p' : Pos} {fld : Str} {u : Value} {A' : Around} {Q' E' : Value -> Shared -> Prop} {s' : Shared}, s'.heap = h₁ -> NoAttr K C fld -> mA fld = some u -> PySem.W.handedIn u = true -> (∀ tk, Q' u { s' with toks := tk }) -> wpAny (model prog w) A' (eval (.Attribute (.Name x p) fld p') env) Q' E' s' := fun {p p' fld u A' Q' E' s'} e n hv hu q => by
  refine attr_of (hab p fld env) (wpAny_Name (wpAny_loadName_local ek ex (by rw [e, el]; exact hns) hx ?_) hxd)
  exact get_map (by rw [e]; exact KX.keeps hk₁) (by rw [e]; exact O1) (c.get fld) c.hd n hv hu (q _)
 refine PySem.W.kla_codeExpr (wpAny_Tuple_spliced ?_)
 show wpAny _ _ (spliced ((false, eval (.Call (.Name "abs" p1) [.BinOp (.Attribute (.Name x p2) fl p3) .Sub (.Name y p4) p5] [] p6) env) :: backTo q2 (starEach [.Attribute (.Name x p7) gl p8, .Attribute (.Name x p9) fl q1] env))) _ _ _
 refine Calls.spliced_cons ?_
 refine wpAny_Call_Name_kw (Calls.Name_function_global ek ea (Calls.loadGlobal_builtin (by rw [eg]; exact hg.keeps hk₁) hm (by rw [eb]; exact hbt.keeps hk₁) hmb ?_))
 refine PyProof.Rows.callWith_builtin1 ?_ rfl rfl
 show wpAny _ _ (spliced ((false, eval (.BinOp (.Attribute (.Name x p2) fl p3) .Sub (.Name y p4) p5) env) :: backTo p6 (starEach [] env))) _ _ _
 refine Calls.spliced_cons (wpAny_BinOp (att rfl n1 hv1 rfl fun tk => ?_))
 refine wpAny_Name (wpAny_loadName_free ek ey ec (by obtain ⟨o, h1, h2⟩ := hcv; exact ⟨o, hk₁ _ _ h1, h2⟩) ?_ hyc) hyd
 refine sub_int ?_
 refine Calls.spliced_nil (call_abs_int fun u tk2 => ?_)
 show wpAny _ _ (spliced ((false, eval (.Attribute (.Name x p7) gl p8) env) :: backTo q2 (starEach [.Attribute (.Name x p9) fl q1] env))) _ _ _
 refine Calls.spliced_cons (att rfl n2 hv2 rfl fun tk3 => ?_)
 show wpAny _ _ (spliced ((false, eval (.Attribute (.Name x p9) fl q1) env) :: backTo q2 (starEach [] env))) _ _ _
 refine Calls.spliced_cons (att rfl n1 hv1 rfl fun tk4 => ?_)
 refine Calls.spliced_nil ⟨by show 3 <= sizeLine; decide, ?_⟩
 refine h _ _ _ (fun b o e => Heap.get?_push_of_some _ (hk₁ b o e)) ⟨_, _, rfl, ⟨_, Heap.get?_push_size _ rfl, rfl, _, rfl⟩, ?_⟩
 exact intsAre_of (.cons ⟨_, rfl⟩ (.cons ⟨_, rfl⟩ (.cons ⟨_, rfl⟩ .nil)))
def rMinK (K : PySem.W.Frag) (P : Addr) (lpos : Pos) (qual : Str) (C : Addr) (fl gl : Str) (j : Nat) (σ : St) (Q : VK) (x : V) (H1 : Hp) : Prop := ∃ (a : Addr) (as : List Addr) (mm : Int) (mt sd : Nat -> Int), σ[j]? = some (some (.int mm)) /\ x = .ref a /\ SqL K H1 a (as.map V.ref) /\ 0 < as.length /\ LamTab P lpos qual H1 /\
 (∀ (i : Nat) (b : Addr), as[i]? = some b -> ∃ dx fs, H1 b = some (.ins C dx fs) /\ fs.lookup fl = some (.int (mt i)) /\ fs.lookup gl = some (.int (sd i))) /\
 ∀ (i : Nat) (b : Addr) (H2 : Hp), as[i]? = some b -> (∀ k, k < as.length -> HT.lexLt (key3 (mt k) (sd k) mm) (key3 (mt i) (sd i) mm) = false) -> LamTab P lpos qual H2 -> (∀ b u, H1 b = some u -> b ≠ P -> H2 b = some u) -> Q (.ref b) H2
def tMinK (K : PySem.W.Frag) (P : Addr) (lpos : Pos) (qual : Str) (C : Addr) (fl gl : Str) (j : Nat) (te : TE) : TE := fun σ H Q => te σ H fun x H1 => rMinK K P lpos qual C fl gl j σ Q x H1
theorem pe_minK {X : Cx} {c P C cc : Addr} {e : Expr} {te : TE} {params : Arguments} {x y fl gl : Str} {scope : Scope} {p lpos kpos pos : Pos} {p1 p2 p3 p4 p5 p6 p7 p8 p9 q1 q2 : Pos} {kt : Nat} {k j : Nat} (he : PE X e te) (L : LamCx X c P) (hr : Room (k + 1) X.A) (hg : Gl X "min") (hm : X.mg "min" = none) (hma : X.mg "abs" = none) (hcl : closureFor scope X.env = pure [(y, cc)]) (hcc : X.env.cells.lookup y = some cc) (hyN : X.N[j]? = some y) (hyk : X.env.kindOf y = some .cell) (hglob : X.env.globals = mainGlobals) (hcalm : X.calm = true) (cc' : Cls X.K C) (nf : NoAttr X.K C fl) (ng : NoAttr X.K C gl)
  (hb : ∀ (qual : Str) (clos : List (Str × Addr)) (pm cdv ctv v : Value), bindArgs (kla_fn "<lambda>" qual params (body3 x y fl gl p1 p2 p3 p4 p5 p6 p7 p8 p9 q1 q2 kt) scope clos pm cdv ctv) ⟨[v], []⟩ = pure [(x, v)]) (hloc : scope.names.lookup x = some .local) (hfr : scope.names.lookup y = some .free) (hgl : scope.names.lookup ("abs" : Str) = some .globalImplicit)
  (hco : scope.isCoroutine = false) (hgen : scope.isGenerator = false) (hk : scope.kind = .function) (hcell : ∀ x ∈ scope.names, x.2 ≠ .cell) (hxd : (x == ("__debug__" : Str)) = false) (hyd : (y == ("__debug__" : Str)) = false) (hyc : (y == ("__classdict__" : Str)) = false)
  (hab : ∀ p fld env, attributeBase (.Name x p) fld env (eval (.Name x p) env) = eval (.Name x p) env) (hdef : defaultsOf params X.env = ([], []))
  (hst : starEach [e] X.env = [(false, eval e X.env)] := by rfl) :
  PE X (.Call (.Name "min" p) [e] [⟨some "key", .Lambda params (body3 x y fl gl p1 p2 p3 p4 p5 p6 p7 p8 p9 q1 q2 kt) scope lpos, kpos⟩] pos) (tMinK X.K P lpos (X.env.qual ++ "<lambda>") C fl gl j te) := by
 intro pins s σ H Q I h
 have ha : PA X [e] (tCons te tNil) := pa_cons he pa_nil hst
 refine wpAny_Call_Name_kw (ld_blt (x := "min") (u := .builtin "min") I hg hm (by rfl) ?_)
 have hbt : backTo pos (starEach [e] X.env) = (false, eval e X.env) :: backTo pos (starEach [] X.env) := by rw [hst]; rfl
 refine callWith_kw (thn (ha pos pins s σ H (fun vs H1 => match vs with | [y] => rMinK X.K P lpos (X.env.qual ++ "<lambda>") C fl gl j σ Q y H1 | _ => False) I h) fun us s1 hq => ?_) hbt (by rw [hbt]; rfl)
 obtain ⟨vs, H1, I1, r1, hq⟩ := hq
 match vs, r1, hq with
 | [y], r1, hq => ?_
 | [], _, hq => exact hq.elim
 | _ :: _ :: _, _, hq => exact hq.elim
 obtain ⟨a, as, mm, mt, sd, hσ, hx, hs, hpos, hT, hit, q⟩ := hq
 show wpAny _ _ (evalAll ((do let v <- eval (.Lambda params (body3 x _ fl gl p1 p2 p3 p4 p5 p6 p7 p8 p9 q1 q2 kt) scope lpos) X.env; standAt pos; pure v) :: [])) _ _ s1
 refine wpAny_evalAll_cons (wpAny_bind (lam_made I1 L hT hdef hcl hglob fun f c' ctv s2 H2 I2 hf hrec hT2 hold => ?_))
 refine wpAny_bind (wpAny_standAt (wpAny_pure (wpAny_evalAll_nil ?_)))
 have eus : us = [.ref a] := by
  cases r1 with
  | cons ra rt =>
   cases rt
   have hx' : _ = V.ref a := hx
   subst hx'
   cases ra
   rfl
 subst eus
 show wpAny _ X.A (call (.builtin "min") [.ref a] [(Str.ofString "key", .ref f)]) _ _ s2
 have nP : ∀ b u, H1 b = some u -> (∀ ps, u ≠ .tbl ps) -> H2 b = some u := fun b u e n => hold b u e fun z => by
  subst z
  rcases hT with t | ⟨_, t, _⟩ <;> (rw [t] at e; cases e; exact n _ rfl)
 have hs2 : SqL X.K H2 a (as.map V.ref) := by
  rcases hs with (z | ⟨o, z⟩) | z
  ·exact .inl (.inl (nP _ _ z fun _ y => by cases y))
  ·exact .inl (.inr ⟨o, nP _ _ z fun _ y => by cases y⟩)
  ·exact .inr z
 obtain ⟨its, rv, hl, hz⟩ := I2.list hs2
 have eits := vals_refs rv
 subst eits
 obtain ⟨m, hnm, hlk⟩ := id I2.loc
 obtain ⟨um, rm, lm⟩ := hlk j _ _ hyN hσ (.inr (.inl hyk))
 obtain ⟨t3, rfl⟩ := rm
 have hcv : s2.heap.IsCell cc (some (.int mm t3)) := by
  rcases lm with ⟨z, _⟩ | ⟨_, c2, e2, h2⟩
  ·rw [hyk] at z; cases z
  ·rw [hcc] at e2
   cases e2
   exact h2
 obtain ⟨mb, h1, h2⟩ := I2.mod.blt
 refine call_minT (kf := fun i => key3 (mt i) (sd i) mm) (I2.ok.hd hcalm) (by have := hr.un; show X.A.units + 1 < cLine; omega) hl.isList (by rw [List.length_map]; exact hpos) (fun i v hv h tk kp => ?_) fun i v h' tk' hv hmin kp => ?_
 ·rw [List.getElem?_map] at hv
  obtain ⟨b, hb', rfl⟩ := Option.map_eq_some_iff.mp hv
  obtain ⟨dx, fs, hin, hfl, hgl'⟩ := hit i b hb'
  have hin2 := nP _ _ hin fun _ y => by cases y
  obtain ⟨mA, O, rO, _, _, hown⟩ := ins_get I2.hok hin2
  obtain ⟨u1, hu1, ru1⟩ := RelO.some_of (v := V.int (mt i)) (o := mA fl) (by rw [<- hfl]; exact rO fl)
  obtain ⟨u2, hu2, ru2⟩ := RelO.some_of (v := V.int (sd i)) (o := mA gl) (by rw [<- hgl']; exact rO gl)
  obtain ⟨tt1, rfl⟩ := ru1
  obtain ⟨tt2, rfl⟩ := ru2
  refine key3_turn (K := X.K) (s := { s2 with heap := h, toks := tk }) (E := fun _ _ => False) (dx := dx) (C := C) (mA := mA) (mg := X.mg) (mb := mb) (hr.in1.depth) (kp f _ (I2.hok f _ hf).1) (hrec.keeps kp) (I2.nolimit.keeps kp) (I2.kIn.keeps kp) ((I2.mod.glob.keeps I2.bk).keeps kp) hma ((h1.keeps I2.bk).keeps kp) ((h2 "abs" (by decide)).trans (by rfl)) (by obtain ⟨o, e1, e2⟩ := hcv; exact ⟨o, kp _ _ e1, e2⟩) (hb _ _ _ _ _ _) hloc hfr hgl hco hgen hk hcell hxd hyd hyc hab
   ⟨kp _ _ O.obj, O.ns.at fun o e => kp _ _ e, O.ne⟩ cc' nf ng hu1 hu2 fun h3 tk3 v kp3 KK => ⟨h3, tk3, rfl, kp3, KK⟩
 ·rw [List.getElem?_map] at hv
  obtain ⟨b, hb', rfl⟩ := Option.map_eq_some_iff.mp hv
  refine ⟨.ref b, H2, I2.kept kp, rfl, q i b H2 hb' (fun k hk => hmin k (by rw [List.length_map]; exact hk)) hT2 hold⟩
end L2
namespace Hn
abbrev Pr := Nat × Nat
def rm (x : Pr) : Int := (x.2 : Int) - (x.1 : Int)
def first (b : Option (List Pr)) (r : List Pr) : Option (List Pr) := match b with
 | none => some r
 | some q => if q.length < r.length then some r else some q
def bestO (l : List (List Pr)) : Option (List Pr) := l.foldl first none
theorem stays_eq (t : Nat) (l : List Nat) : Su54.stays t l = (bestO ((Su54.parts ((List.range l.length).zip l)).filter (Su54.room l.length t none))).getD [] := rfl
def choose (hi : Int) : Int -> List Pr -> List Pr
 | _, [] => []
 | b, x :: l => if b <= rm x /\ rm x <= hi then (if (choose hi (rm x) l).length + 1 < (choose hi b l).length then choose hi b l else x :: choose hi (rm x) l) else choose hi b l
theorem choose_cons (hi b : Int) (x : Pr) (l : List Pr) : choose hi b (x :: l) = if b <= rm x /\ rm x <= hi then (if (choose hi (rm x) l).length + 1 < (choose hi b l).length then choose hi b l else x :: choose hi (rm x) l) else choose hi b l := rfl
theorem foldl_first_some : ∀ (l : List (List Pr)) (q : List Pr), l.foldl first (some q) = some (match bestO l with
  | none => q
  | some r => if q.length < r.length then r else q)
 | [], q => rfl
 | r :: l, q => by
  rw [List.foldl_cons]
  show l.foldl first (if q.length < r.length then some r else some q) = some (match (r :: l).foldl first none with | none => q | some r => if q.length < r.length then r else q)
  rw [List.foldl_cons]
  show _ = some (match l.foldl first (some r) with | none => q | some r => if q.length < r.length then r else q)
  rw [foldl_first_some l r]
  by_cases h : q.length < r.length
  ·rw [if_pos h, foldl_first_some l r]
   cases e : bestO l with
   | none => simp only [if_pos h]
   | some z =>
    simp only
    by_cases h2 : r.length < z.length
    ·rw [if_pos h2, if_pos (by omega)]
    ·rw [if_neg h2, if_pos h]
  ·rw [if_neg h, foldl_first_some l q]
   cases e : bestO l with
   | none => simp only [if_neg h]
   | some z =>
    simp only
    by_cases h2 : r.length < z.length
    ·rw [if_pos h2]
    ·rw [if_neg h2, if_neg (by omega), if_neg h]
theorem bestO_append (a b : List (List Pr)) : bestO (a ++ b) = match bestO a with
  | none => bestO b
  | some q => some (match bestO b with | none => q | some r => if q.length < r.length then r else q) := by
 show (a ++ b).foldl first none = _
 rw [List.foldl_append]
 show b.foldl first (bestO a) = _
 cases e : bestO a with
 | none => rfl
 | some q => exact foldl_first_some b q
theorem bestO_map (x : Pr) (l : List (List Pr)) : bestO (l.map fun r => x :: r) = (bestO l).map fun r => x :: r := by
 have key : ∀ (l : List (List Pr)) (o : Option (List Pr)), (l.map fun r => x :: r).foldl first (o.map fun r => x :: r) = (l.foldl first o).map fun r => x :: r := by
  intro l
  induction l with
  | nil => intro o; rfl
  | cons r l ih =>
   intro o
   rw [List.map_cons, List.foldl_cons, List.foldl_cons, <- ih]
   congr 1
   cases o with
   | none => rfl
   | some q =>
    show (if (x :: q).length < (x :: r).length then some (x :: r) else some (x :: q)) = (if q.length < r.length then some r else some q).map fun r => x :: r
    by_cases h : q.length < r.length
    ·rw [if_pos h, if_pos (by simpa using h)]; rfl
    ·rw [if_neg h, if_neg (by simpa using h)]; rfl
 exact key l none
theorem filter_map_cons (p : List Pr -> Bool) (x : Pr) (l : List (List Pr)) : (l.map fun r => x :: r).filter p = (l.filter fun r => p (x :: r)).map fun r => x :: r := by
 rw [List.filter_map]; rfl
def Bnd (m t : Nat) (hi : Int) : Option Pr -> Int -> Prop
 | none, b => b = 0 /\ m <= t + 1
 | some y, b => b = rm y /\ y.1 < m /\ rm y <= hi
theorem choose_bestO {m t : Nat} {hi : Int} (hhi : hi = (t : Int) + 1 - m) : ∀ (l : List Pr) (o : Option Pr) (b : Int), Bnd m t hi o b -> (∀ x ∈ l, x.1 < m) -> (∀ y, o = some y -> ∀ x ∈ l, y.1 < x.1) -> l.Pairwise (fun x y => x.1 < y.1) ->
  bestO ((Su54.parts l).filter (Su54.room m t o)) = some (choose hi b l)
 | [], o, b, hb, _, _, _ => by
  have e : Su54.room m t o [] = true := by
   cases o with
   | none =>
    show decide (m <= t + 1) = true
    exact decide_eq_true hb.2
   | some y =>
    obtain ⟨h1, h2, h3⟩ := hb
    show decide (y.2 + (m - 1 - y.1) <= t) = true
    refine decide_eq_true ?_
    unfold rm at h3
    omega
  show bestO ([[]].filter _) = _
  rw [List.filter_cons, if_pos e]
  rfl
 | x :: l, o, b, hb, hm, ho, hp => by
  have hm' : ∀ y ∈ l, y.1 < m := fun y hy => hm y (List.mem_cons_of_mem _ hy)
  obtain ⟨hx, hp'⟩ := List.pairwise_cons.mp hp
  have hxm := hm x List.mem_cons_self
  have step : ∀ r, Su54.room m t o (x :: r) = (decide (b <= rm x) && Su54.room m t (some x) r) := by
   intro r
   cases o with
   | none =>
    obtain ⟨h1, _⟩ := hb
    show (decide (x.1 <= x.2) && _) = _
    congr 1
    rw [decide_eq_decide, h1]
    unfold rm
    omega
   | some y =>
    obtain ⟨h1, h2, h3⟩ := hb
    show (decide (y.2 + (x.1 - y.1) <= x.2) && _) = _
    congr 1
    have := ho y rfl x List.mem_cons_self
    rw [decide_eq_decide, h1]
    unfold rm
    omega
  have rest := choose_bestO hhi l o b hb hm' (fun y e z hz => ho y e z (List.mem_cons_of_mem _ hz)) hp'
  show bestO (((Su54.parts l).map (fun r => x :: r) ++ Su54.parts l).filter _) = _
  rw [List.filter_append, bestO_append, filter_map_cons, bestO_map, rest]
  have ef : ((Su54.parts l).filter fun r => Su54.room m t o (x :: r)) = (Su54.parts l).filter fun r => decide (b <= rm x) && Su54.room m t (some x) r := by
   congr 1
   funext r
   exact step r
  rw [ef]
  rw [choose_cons]
  by_cases h : b <= rm x
  ·have e2 : ((Su54.parts l).filter fun r => decide (b <= rm x) && Su54.room m t (some x) r) = (Su54.parts l).filter (Su54.room m t (some x)) := by
    congr 1
    funext r
    rw [decide_eq_true h, Bool.true_and]
   rw [e2]
   by_cases h2 : rm x <= hi
   ·have r1 := choose_bestO hhi l (some x) (rm x) ⟨rfl, hxm, h2⟩ hm' (fun y e z hz => by cases e; exact hx z hz) hp'
    rw [r1, if_pos ⟨h, h2⟩]
    simp only [Option.map_some]
    congr 1
   ·
    have no : ∀ (l : List Pr) (y : Pr), (∀ x ∈ l, x.1 < m) -> (∀ x ∈ l, y.1 < x.1) -> l.Pairwise (fun x y => x.1 < y.1) -> y.1 < m -> hi < rm y -> (Su54.parts l).filter (Su54.room m t (some y)) = [] := by
     intro l
     induction l with
     | nil =>
      intro y _ _ _ hy hlt
      have e : Su54.room m t (some y) [] = false := by
       show decide (y.2 + (m - 1 - y.1) <= t) = false
       refine decide_eq_false ?_
       unfold rm at hlt
       omega
      show [[]].filter _ = []
      rw [List.filter_cons, e]
      rfl
     | cons x l ih =>
      intro y k1 k2 k3 hy hlt
      obtain ⟨hx, hp'⟩ := List.pairwise_cons.mp k3
      show ((Su54.parts l).map (fun r => x :: r) ++ Su54.parts l).filter _ = []
      rw [List.filter_append, ih y (fun z hz => k1 z (List.mem_cons_of_mem _ hz)) (fun z hz => k2 z (List.mem_cons_of_mem _ hz)) hp' hy hlt, List.append_nil, filter_map_cons]
      have e : ((Su54.parts l).filter fun r => Su54.room m t (some y) (x :: r)) = [] := by
       refine List.filter_eq_nil_iff.mpr fun r hr z => ?_
       have z' : (decide (y.2 + (x.1 - y.1) <= x.2) && Su54.room m t (some x) r) = true := z
       rw [Bool.and_eq_true] at z'
       have c1 := of_decide_eq_true z'.1
       have c2 := k2 x List.mem_cons_self
       have c3 : hi < rm x := by
        unfold rm at hlt ⊢
        omega
       have c4 := ih x (fun z hz => k1 z (List.mem_cons_of_mem _ hz)) hx hp' (k1 x List.mem_cons_self) c3
       have c5 : r ∈ (Su54.parts l).filter (Su54.room m t (some x)) := List.mem_filter.mpr ⟨hr, z'.2⟩
       rw [c4] at c5
       cases c5
      rw [e]
      rfl
    rw [no l x hm' hx hp' hxm (by omega), if_neg (fun z => h2 z.2)]
    rfl
  ·have e2 : ((Su54.parts l).filter fun r => decide (b <= rm x) && Su54.room m t (some x) r) = [] := by
    refine List.filter_eq_nil_iff.mpr fun r hr z => ?_
    rw [decide_eq_false h, Bool.false_and] at z
    cases z
   rw [e2, if_neg (fun z => h z.1)]
   rfl
def maxD : List Nat -> Nat
 | [] => 0
 | x :: l => max x (maxD l)
def lens (hi : Int) : List Int -> List Nat
 | [] => []
 | x :: l => (if 0 <= x /\ x <= hi then 1 + maxD (((l.zip (lens hi l)).filter fun p => decide (x <= p.1)).map (·.2)) else 0) :: lens hi l
def scan : Nat -> Nat -> List Nat -> List Nat
 | _, _, [] => []
 | w, i, x :: l => if 0 < w /\ x = w then i :: scan (w - 1) (i + 1) l else scan w (i + 1) l
theorem lens_length (hi : Int) : ∀ l, (lens hi l).length = l.length
 | [] => rfl
 | _ :: l => by show (lens hi l).length + 1 = l.length + 1; rw [lens_length hi l]
theorem choose_mono (hi : Int) : ∀ (l : List Pr) (a b : Int), a <= b -> (choose hi b l).length <= (choose hi a l).length
 | [], _, _, _ => Nat.le_refl _
 | x :: l, a, b, h => by
  have i1 := choose_mono hi l a b h
  rw [choose_cons, choose_cons]
  by_cases h1 : b <= rm x /\ rm x <= hi
  ·rw [if_pos h1, if_pos (⟨by omega, h1.2⟩ : a <= rm x /\ rm x <= hi)]
   split <;> split <;> (try simp only [List.length_cons] at *) <;> omega
  ·rw [if_neg h1]
   split
   ·split
    ·exact i1
    ·simp only [List.length_cons]; omega
   ·exact i1
theorem lens_max (hi : Int) : ∀ (l : List Pr) (b : Int), 0 <= b -> maxD ((((l.map rm).zip (lens hi (l.map rm))).filter fun p => decide (b <= p.1)).map (·.2)) = (choose hi b l).length
 | [], _, _ => rfl
 | x :: l, b, hb => by
  have i1 := lens_max hi l b hb
  show maxD (((((rm x) :: l.map rm).zip ((if 0 <= rm x /\ rm x <= hi then 1 + maxD ((((l.map rm).zip (lens hi (l.map rm))).filter fun p => decide (rm x <= p.1)).map (·.2)) else 0) :: lens hi (l.map rm))).filter fun p => decide (b <= p.1)).map (·.2)) = _
  rw [List.zip_cons_cons, List.filter_cons]
  rw [choose_cons]
  by_cases h1 : b <= rm x
  ·rw [if_pos (decide_eq_true h1), List.map_cons]
   show max _ (maxD _) = _
   rw [i1]
   by_cases h2 : rm x <= hi
   ·have i2 := lens_max hi l (rm x) (by omega)
    rw [i2, if_pos (⟨by omega, h2⟩ : 0 <= rm x /\ rm x <= hi), if_pos (⟨h1, h2⟩ : b <= rm x /\ rm x <= hi)]
    split
    ·omega
    ·rw [List.length_cons]; omega
   ·rw [if_neg (fun z => h2 z.2), if_neg (fun z => h2 z.2)]
    exact Nat.zero_max _
  ·rw [if_neg (by simpa using h1), if_neg (fun z => h1 z.1)]
   exact i1
theorem lens_all (hi : Int) : ∀ (l : List Pr), maxD (lens hi (l.map rm)) = (choose hi 0 l).length
 | [] => rfl
 | x :: l => by
  have i1 := lens_all hi l
  show max (if 0 <= rm x /\ rm x <= hi then 1 + maxD ((((l.map rm).zip (lens hi (l.map rm))).filter fun p => decide (rm x <= p.1)).map (·.2)) else 0) (maxD (lens hi (l.map rm))) = _
  rw [i1]
  rw [choose_cons]
  by_cases h : 0 <= rm x /\ rm x <= hi
  ·rw [if_pos h, if_pos h, lens_max hi l (rm x) h.1]
   split
   ·omega
   ·rw [List.length_cons]; omega
  ·rw [if_neg h, if_neg h]
   exact Nat.zero_max _
theorem scan_choose (hi : Int) : ∀ (l : List Pr) (b : Int) (i : Nat), 0 <= b -> (∀ j x, l[j]? = some x -> x.1 = i + j) -> scan (choose hi b l).length i (lens hi (l.map rm)) = (choose hi b l).map (·.1)
 | [], _, _, _, _ => rfl
 | x :: l, b, i, hb, hi' => by
  have hx : x.1 = i := hi' 0 x rfl
  have hl : ∀ j y, l[j]? = some y -> y.1 = i + 1 + j := fun j y e => by
   have := hi' (j + 1) y e
   omega
  show scan _ i ((if 0 <= rm x /\ rm x <= hi then 1 + maxD ((((l.map rm).zip (lens hi (l.map rm))).filter fun p => decide (rm x <= p.1)).map (·.2)) else 0) :: lens hi (l.map rm)) = _
  unfold scan
  by_cases h1 : b <= rm x /\ rm x <= hi
  ·have h0 : 0 <= rm x /\ rm x <= hi := ⟨by omega, h1.2⟩
   rw [if_pos h0, lens_max hi l (rm x) h0.1]
   rw [choose_cons, if_pos h1]
   by_cases h2 : (choose hi (rm x) l).length + 1 < (choose hi b l).length
   ·rw [if_pos h2, if_neg (by omega)]
    exact scan_choose hi l b (i + 1) hb hl
   ·rw [if_neg h2, if_pos (by rw [List.length_cons]; omega), List.length_cons, Nat.add_sub_cancel, scan_choose hi l (rm x) (i + 1) h0.1 hl, List.map_cons, hx]
  ·have e : choose hi b (x :: l) = choose hi b l := by
    rw [choose, if_neg h1]
   rw [e]
   have n : ¬ (0 < (choose hi b l).length /\ (if 0 <= rm x /\ rm x <= hi then 1 + maxD ((((l.map rm).zip (lens hi (l.map rm))).filter fun p => decide (rm x <= p.1)).map (·.2)) else 0) = (choose hi b l).length) := by
    rintro ⟨w0, w1⟩
    by_cases h0 : 0 <= rm x /\ rm x <= hi
    ·rw [if_pos h0, lens_max hi l (rm x) h0.1] at w1
     have h3 : rm x <= b := by
      by_cases z : rm x <= b
      ·exact z
      ·exact absurd ⟨by omega, h0.2⟩ h1
     have := choose_mono hi l (rm x) b h3
     omega
    ·rw [if_neg h0] at w1
     omega
   rw [if_neg n]
   exact scan_choose hi l b (i + 1) hb hl
def prs (l : List Nat) : List Pr := (List.range l.length).zip l
theorem prs_get {l : List Nat} {j : Nat} {x : Pr} (h : (prs l)[j]? = some x) : x.1 = j /\ l[j]? = some x.2 := by
 unfold prs at h
 rw [List.getElem?_zip_eq_some] at h
 obtain ⟨h1, h2⟩ := h
 refine ⟨?_, h2⟩
 rw [List.getElem?_range (by have := (List.getElem?_eq_some_iff.mp h1).1; simpa using this)] at h1
 exact (Option.some.inj h1).symm
theorem prs_length (l : List Nat) : (prs l).length = l.length := by
 unfold prs
 rw [List.length_zip, List.length_range]
 omega
theorem prs_pair (l : List Nat) : (prs l).Pairwise (fun x y => x.1 < y.1) := by
 rw [List.pairwise_iff_getElem]
 intro i j hi hj hij
 have a := (prs_get (List.getElem?_eq_getElem hi)).1
 have b := (prs_get (List.getElem?_eq_getElem hj)).1
 omega
theorem stays_choose (t : Nat) (l : List Nat) (h : l.length <= t + 1) : Su54.stays t l = choose ((t : Int) + 1 - l.length) 0 (prs l) := by
 rw [stays_eq]
 have := choose_bestO (m := l.length) (t := t) rfl (prs l) none 0 ⟨rfl, h⟩ (fun x hx => by
  obtain ⟨j, hj, e⟩ := List.mem_iff_getElem.mp hx
  have q := (prs_get (List.getElem?_eq_getElem hj)).1
  rw [e] at q
  rw [prs_length] at hj
  omega) (fun y e => by cases e) (prs_pair l)
 show (bestO ((Su54.parts (prs l)).filter _)).getD [] = _
 rw [this]
 rfl
def stayPlaces (t : Nat) (l : List Nat) : List Nat := let v := lens ((t : Int) + 1 - l.length) ((prs l).map rm); scan (maxD v) 0 v
theorem stayPlaces_eq (t : Nat) (l : List Nat) (h : l.length <= t + 1) : stayPlaces t l = (Su54.stays t l).map (·.1) := by
 rw [stays_choose t l h]
 unfold stayPlaces
 simp only
 rw [lens_all]
 exact scan_choose _ _ 0 0 (Int.le_refl 0) fun j x e => by
  have := (prs_get e).1
  omega
theorem choose_sub (hi : Int) : ∀ (l : List Pr) (b : Int), (choose hi b l).Sublist l
 | [], _ => .slnil
 | x :: l, b => by
  rw [choose_cons]
  split
  ·split
   ·exact (choose_sub hi l b).cons _
   ·exact (choose_sub hi l (rm x)).cons_cons _
  ·exact (choose_sub hi l b).cons _
def refill (st : List Nat) : Nat -> Int -> List Nat -> List Int
 | _, _, [] => []
 | k, r, x :: l => if k ∈ st then (x : Int) :: refill st (k + 1) x l else (r + 1) :: refill st (k + 1) (r + 1) l
theorem filled_refill (s : List Pr) : ∀ (l : List Nat) (k nx : Nat), (∀ y ∈ s, k <= y.1 -> l[y.1 - k]? = some y.2) -> (s.map (·.1)).Nodup ->
  (Su54.filled s k nx l.length).map (fun n : Nat => (n : Int)) = refill (s.map (·.1)) k ((nx : Int) - 1) l
 | [], _, _, _, _ => rfl
 | x :: l, k, nx, h, hn => by
  show List.map _ ((match s.find? fun y => y.1 == k with | some y => y.2 | none => nx) :: Su54.filled s (k + 1) ((match s.find? fun y => y.1 == k with | some y => y.2 | none => nx) + 1) l.length) = _
  have hl : ∀ y ∈ s, k + 1 <= y.1 -> l[y.1 - (k + 1)]? = some y.2 := fun y hy hk => by
   have := h y hy (by omega)
   have e : y.1 - k = (y.1 - (k + 1)) + 1 := by omega
   rw [e] at this
   exact this
  unfold refill
  cases e : s.find? fun y => y.1 == k with
  | some y =>
   have h1 : (y.1 == k) = true := List.find?_some (p := fun y : Pr => y.1 == k) e
   have h1' : y.1 = k := beq_iff_eq.mp h1
   have h2 : y ∈ s := List.mem_of_find?_eq_some e
   have h3 := h y h2 (by omega)
   rw [h1', Nat.sub_self] at h3
   have h4 : x = y.2 := Option.some.inj h3
   rw [if_pos (List.mem_map.mpr ⟨y, h2, h1'⟩), List.map_cons, filled_refill s l (k + 1) (y.2 + 1) hl hn, h4]
   have e9 : (((y.2 + 1 : Nat) : Int) - 1) = (y.2 : Int) := by omega
   simp only [e9]
  | none =>
   have h1 := List.find?_eq_none.mp e
   rw [if_neg (fun z => by
    obtain ⟨y, hy, ey⟩ := List.mem_map.mp z
    exact h1 y hy (beq_iff_eq.mpr ey)), List.map_cons, filled_refill s l (k + 1) (nx + 1) hl hn]
   have e9 : (((nx + 1 : Nat) : Int) - 1) = ((nx : Int) - 1 + 1) := by omega
   have e8 : ((nx : Int)) = ((nx : Int) - 1 + 1) := by omega
   simp only [e9]
   exact congrArg (· :: _) e8
theorem mended_refill (t : Nat) (l : List Nat) (h : l.length <= t + 1) : (Su54.mended t l).map (fun n : Nat => (n : Int)) = refill (stayPlaces t l) 0 (-1) l := by
 unfold Su54.mended
 rw [stayPlaces_eq t l h]
 have sub : (Su54.stays t l).Sublist (prs l) := by rw [stays_choose t l h]; exact choose_sub _ _ _
 have := filled_refill (Su54.stays t l) l 0 0 (fun y hy _ => by
  obtain ⟨j, hj, e⟩ := List.mem_iff_getElem.mp (sub.subset hy)
  have q := prs_get (List.getElem?_eq_getElem hj)
  rw [e] at q
  rw [q.1, Nat.sub_zero]
  exact q.2) (by
   have p := (prs_pair l).sublist sub
   have p2 : ((Su54.stays t l).map (·.1)).Pairwise (· < ·) := List.pairwise_map.mpr p
   exact p2.imp fun h => Nat.ne_of_lt h)
 exact this
theorem changes_eq (t : Nat) (l : List Nat) (h : l.length <= t + 1) : Su54.changes t l = l.length - (stayPlaces t l).length := by
 unfold Su54.changes
 rw [stayPlaces_eq t l h, List.length_map]
end Hn
namespace Hn
abbrev St := Su54Neutral.S
def stp (s : St) (c : List (List Int)) : St × List Int := Su54Neutral.step s (c.headD [])
theorem shape_in {p : Int} {q : Nat × Nat} (h : PySu54.shape p = some q) : p = 0 ∨ p = 1 ∨ p = 2 ∨ p = 3 ∨ p = 4 ∨ p = 5 ∨ p = 6 ∨ p = 7 ∨ p = 8 ∨ p = 9 ∨ p = 10 ∨ p = 11 ∨ p = 12 ∨ p = 13 ∨ p = 14 ∨ p = 15 ∨ p = 16 ∨ p = 17 ∨ p = 18 ∨ p = 19 ∨ p = 20 ∨ p = 21 ∨ p = 22 ∨ p = 23 ∨ p = 24 ∨ p = 25 := by
 refine Decidable.byContradiction fun hn => ?_
 unfold PySu54.shape at h
 rw [if_neg (by omega), if_neg (by omega), if_neg (by omega), if_neg (by omega), if_neg (by omega), if_neg (by omega), if_neg (by omega), if_neg (by omega), if_neg (by omega), if_neg (by omega), if_neg (by omega), if_neg (by omega), if_neg (by omega), if_neg (by omega), if_neg (by omega), if_neg (by omega), if_neg (by omega), if_neg (by omega), if_neg (by omega), if_neg (by omega), if_neg (by omega), if_neg (by omega), if_neg (by omega), if_neg (by omega), if_neg (by omega), if_neg (by omega)] at h
 cases h
theorem shape_cases {p : Int} {q : Nat × Nat} (h : PySu54.shape p = some q) : 0 <= p /\ p <= 25 /\ q.2 = 0 := by
 rcases shape_in h with rfl | rfl | rfl | rfl | rfl | rfl | rfl | rfl | rfl | rfl | rfl | rfl | rfl | rfl | rfl | rfl | rfl | rfl | rfl | rfl | rfl | rfl | rfl | rfl | rfl | rfl <;> (cases h; exact ⟨by decide, by decide, rfl⟩)
theorem whole_id {p : Int} {args : List Int} {q : Nat × Nat} (h : PySu54.shape p = some q) (hl : args.length = q.1) : PySu54.whole [p :: args] = [p :: args] := by
 rcases shape_in h with rfl | rfl | rfl | rfl | rfl | rfl | rfl | rfl | rfl | rfl | rfl | rfl | rfl | rfl | rfl | rfl | rfl | rfl | rfl | rfl | rfl | rfl | rfl | rfl | rfl | rfl <;> (
  cases h
  match args, hl with
  | [], _ => rfl
  | [_], _ => rfl
  | [_, _], _ => rfl
  | [_, _, _], _ => rfl)
structure Rest (ns : List Int) (p : Nat) (out : List Int) (st : St) (cs : List (List (List Int))) : Prop where
 calls : ∃ f, PyFlat.calls PySu54.shape f (ns.drop p) = some cs
 told : PySu54.answers ns = out ++ PyFlat.told (PyFlat.played stp st (cs.map PySu54.whole))
 asked : ∀ c ∈ cs, Su54Neutral.asked1 ((PySu54.whole c).headD []) = true
theorem rest_start {ns : List Int} (h : PySu54.answers_asked ns = true) : ∃ cs, Rest ns 0 [] none cs := by
 unfold PySu54.answers_asked at h
 cases e : PyFlat.calls PySu54.shape ns.length ns with
 | none => rw [e] at h; cases h
 | some raw =>
  rw [e] at h
  simp only [Bool.and_eq_true] at h
  obtain ⟨⟨⟨⟨_, _⟩, _⟩, h4⟩, _⟩ := h
  refine ⟨raw, ⟨ns.length, by simpa using e⟩, ?_, fun c hc => ?_⟩
  ·unfold PySu54.answers PySu54.calls
   rw [e]
   rfl
  ·unfold Su54Neutral.asked at h4
   simp only [Bool.and_eq_true] at h4
   exact List.all_eq_true.mp h4.2 _ (List.mem_map.mpr ⟨_, List.mem_map.mpr ⟨c, hc, rfl⟩, rfl⟩)
theorem rest_short {ns : List Int} (h : PySu54.answers_asked ns = true) : (PySu54.answers ns).length <= 10000000 := by
 unfold PySu54.answers_asked at h
 cases e : PyFlat.calls PySu54.shape ns.length ns with
 | none => rw [e] at h; cases h
 | some raw =>
  rw [e] at h
  simp only [Bool.and_eq_true] at h
  exact of_decide_eq_true h.2
theorem rest_end {ns : List Int} {p : Nat} {out : List Int} {st : St} {cs : List (List (List Int))} (R : Rest ns p out st cs) (h : ns.length <= p) : PySu54.answers ns = out := by
 obtain ⟨f, e⟩ := R.calls
 rw [List.drop_eq_nil_of_le h] at e
 have e2 : cs = [] := by
  cases f <;> (unfold PyFlat.calls at e; exact (Option.some.inj e).symm)
 have := R.told
 rw [e2] at this
 simpa [PyFlat.told, PyFlat.played] using this
theorem rest_step {ns : List Int} {p : Nat} {out : List Int} {st : St} {cs : List (List (List Int))} {x : Int} (R : Rest ns p out st cs) (h : ns[p]? = some x) :
  ∃ (n : Nat) (args : List Int) (cs' : List (List (List Int))), PySu54.shape x = some (n, 0) /\ p + 1 + n <= ns.length /\ args = (ns.drop (p + 1)).take n /\ args.length = n /\ Su54Neutral.asked1 (x :: args) = true /\
   Rest ns (p + 1 + n) (out ++ (((Su54Neutral.step st (x :: args)).2.length : Int) :: (Su54Neutral.step st (x :: args)).2)) (Su54Neutral.step st (x :: args)).1 cs' := by
 obtain ⟨f, e⟩ := R.calls
 have hp := (List.getElem?_eq_some_iff.mp h).1
 have hd : ns.drop p = x :: ns.drop (p + 1) := by
  rw [List.drop_eq_getElem_cons hp]
  congr 1
  exact (List.getElem?_eq_some_iff.mp h).2
 rw [hd] at e
 cases f with
 | zero => unfold PyFlat.calls at e; cases e
 | succ f =>
  unfold PyFlat.calls PyFlat.call at e
  dsimp only at e
  cases es : PySu54.shape x with
  | none => rw [es] at e; cases e
  | some q =>
   obtain ⟨n, k⟩ := q
   have hk : k = 0 := (shape_cases es).2.2
   subst hk
   rw [es] at e
   simp only at e
   by_cases hl : (ns.drop (p + 1)).length < n
   ·rw [if_pos hl] at e; cases e
   ·rw [if_neg hl] at e
    unfold PyFlat.rows at e
    simp only at e
    cases ec : PyFlat.calls PySu54.shape f ((ns.drop (p + 1)).drop n) with
    | none => rw [ec] at e; cases e
    | some cs' =>
     rw [ec] at e
     have e := Option.some.inj e
     have hlen : ((ns.drop (p + 1)).take n).length = n := by rw [List.length_take]; omega
     have hw := whole_id (args := (ns.drop (p + 1)).take n) es hlen
     rw [List.length_drop] at hl
     refine ⟨n, _, cs', rfl, by omega, rfl, hlen, ?_, ⟨f, ?_⟩, ?_, fun c hc => R.asked c (by rw [<- e]; exact List.mem_cons_of_mem _ hc)⟩
     ·have := R.asked [x :: (ns.drop (p + 1)).take n] (by rw [<- e]; exact List.mem_cons_self)
      rw [hw] at this
      exact this
     ·rw [List.drop_drop] at ec
      exact ec
     ·rw [R.told, <- e, List.map_cons, hw]
      show out ++ PyFlat.told ((stp st [x :: (ns.drop (p + 1)).take n]).2 :: PyFlat.played stp (stp st [x :: (ns.drop (p + 1)).take n]).1 (cs'.map PySu54.whole)) = _
      rw [List.append_assoc]
      rfl
end Hn
namespace Hn
open Su54
theorem put_perm (a : Abs) (h : Nat) : ∀ l : List Nat, (a.put h l).Perm (h :: l)
 | [] => .refl _
 | i :: l => by
  show (if (a.house h).at_ < (a.house i).at_ then h :: i :: l else i :: a.put h l).Perm _
  split
  ·exact .refl _
  ·exact ((put_perm a h l).cons i).trans (.swap h i l)
theorem put_sorted (a : Abs) (h : Nat) : ∀ l : List Nat, l.Pairwise (fun i j => (a.house i).at_ <= (a.house j).at_) -> (a.put h l).Pairwise (fun i j => (a.house i).at_ <= (a.house j).at_)
 | [], _ => List.pairwise_singleton _ _
 | i :: l, p => by
  obtain ⟨p1, p2⟩ := List.pairwise_cons.mp p
  show (if (a.house h).at_ < (a.house i).at_ then h :: i :: l else i :: a.put h l).Pairwise _
  split
  ·rename_i c
   refine List.pairwise_cons.mpr ⟨fun j hj => ?_, p⟩
   rcases List.mem_cons.mp hj with rfl | hj
   ·omega
   ·have := p1 j hj
    omega
  ·rename_i c
   refine List.pairwise_cons.mpr ⟨fun j hj => ?_, put_sorted a h l p2⟩
   rcases List.mem_cons.mp ((put_perm a h l).mem_iff.mp hj) with rfl | hj
   ·omega
   ·exact p1 j hj
theorem puts_perm (a : Abs) : ∀ (l acc : List Nat), (l.foldl (fun l h => a.put h l) acc).Perm (l ++ acc)
 | [], _ => .refl _
 | h :: l, acc => by
  refine (puts_perm a l (a.put h acc)).trans ?_
  refine (List.Perm.append_left l (put_perm a h acc)).trans ?_
  exact List.perm_middle
theorem puts_sorted (a : Abs) : ∀ (l acc : List Nat), acc.Pairwise (fun i j => (a.house i).at_ <= (a.house j).at_) -> (l.foldl (fun l h => a.put h l) acc).Pairwise (fun i j => (a.house i).at_ <= (a.house j).at_)
 | [], _, p => p
 | h :: l, acc, p => puts_sorted a l (a.put h acc) (put_sorted a h acc p)
def here (a : Abs) (s d : Nat) : List Nat := a.hs.filter fun h => (a.house h).street == s && (a.house h).side == d
theorem side_perm (a : Abs) (s d : Nat) : (a.side s d).Perm (here a s d) := by
 have := puts_perm a (here a s d) []
 rw [List.append_nil] at this
 exact this
theorem side_sorted (a : Abs) (s d : Nat) : (a.side s d).Pairwise (fun i j => (a.house i).at_ <= (a.house j).at_) := puts_sorted a (here a s d) [] .nil
theorem mem_here {a : Abs} {s d h : Nat} : h ∈ here a s d ↔ h < a.houses.length /\ (a.house h).gone = false /\ (a.house h).street = s /\ (a.house h).side = d := by
 unfold here Abs.hs Abs.isH
 rw [List.mem_filter, List.mem_filter, List.mem_range]
 simp only [Bool.not_eq_true', Bool.and_eq_true, beq_iff_eq]
 exact ⟨fun ⟨⟨x, y⟩, z, w⟩ => ⟨x, y, z, w⟩, fun ⟨x, y, z, w⟩ => ⟨⟨x, y⟩, z, w⟩⟩
theorem mem_side {a : Abs} {s d h : Nat} : h ∈ a.side s d ↔ h < a.houses.length /\ (a.house h).gone = false /\ (a.house h).street = s /\ (a.house h).side = d := (side_perm a s d).mem_iff.trans mem_here
theorem here_nodup (a : Abs) (s d : Nat) : (here a s d).Nodup := (List.nodup_range.filter _).filter _
theorem side_nodup (a : Abs) (s d : Nat) : (a.side s d).Nodup := (side_perm a s d).nodup_iff.mpr (here_nodup a s d)
theorem sort_one {α : Type} {k : α -> Nat} : ∀ {l m : List α}, l.Perm m -> l.Pairwise (fun x y => k x <= k y) -> m.Pairwise (fun x y => k x <= k y) -> (∀ x ∈ l, ∀ y ∈ l, k x = k y -> x = y) -> l = m
 | [], m, p, _, _, _ => (List.nil_perm.mp p).symm
 | x :: l, [], p, _, _, _ => absurd p.length_eq (by simp)
 | x :: l, y :: m, p, hl, hm, inj => by
  obtain ⟨l1, l2⟩ := List.pairwise_cons.mp hl
  obtain ⟨m1, m2⟩ := List.pairwise_cons.mp hm
  have xm : x ∈ y :: m := p.mem_iff.mp List.mem_cons_self
  have yl : y ∈ x :: l := p.mem_iff.mpr List.mem_cons_self
  have e : x = y := by
   refine inj x List.mem_cons_self y yl ?_
   have a1 : k x <= k y := by
    rcases List.mem_cons.mp yl with z | z
    ·rw [z]; exact Nat.le_refl _
    ·exact l1 y z
   have a2 : k y <= k x := by
    rcases List.mem_cons.mp xm with z | z
    ·rw [z]; exact Nat.le_refl _
    ·exact m1 x z
   omega
  subst e
  rw [sort_one (List.perm_cons x |>.mp p) l2 m2 fun u hu v hv => inj u (List.mem_cons_of_mem _ hu) v (List.mem_cons_of_mem _ hv)]
def alive (s d : Nat) (x : House) : Bool := !x.gone && (x.street == s && x.side == d)
def cnt (a : Abs) (s d : Nat) : Nat := (a.houses.filter (alive s d)).length
theorem range_filter_len {α : Type} (p : α -> Bool) (dflt : α) : ∀ l : List α, ((List.range l.length).filter fun i => p (l.getD i dflt)).length = (l.filter p).length
 | [] => rfl
 | x :: l => by
  rw [List.length_cons, List.range_succ_eq_map, List.filter_cons, List.filter_map, List.filter_cons]
  have ih := range_filter_len p dflt l
  have e : ((fun i => p ((x :: l).getD i dflt)) ∘ Nat.succ) = fun i => p (l.getD i dflt) := by
   funext i
   rfl
  rw [e]
  show (if p x = true then _ else _ : List Nat).length = (if p x = true then _ else _ : List α).length
  split
  ·rw [List.length_cons, List.length_map, ih, List.length_cons]
  ·rw [List.length_map, ih]
theorem side_len (a : Abs) (s d : Nat) : (a.side s d).length = cnt a s d := by
 rw [(side_perm a s d).length_eq]
 unfold here Abs.hs cnt
 rw [List.filter_filter, <- range_filter_len (alive s d) ⟨0, 0, 0, 0, true⟩ a.houses]
 congr 2
 funext i
 show ((((a.house i).street == s) && ((a.house i).side == d)) && !(a.house i).gone) = (!(a.house i).gone && (((a.house i).street == s) && ((a.house i).side == d)))
 exact Bool.and_comm _ _
structure Good (a : Abs) : Prop where
 sl : a.streets.length <= 6
 hl : a.houses.length <= 40
 st : ∀ (s : Nat) (x : Street), a.streets[s]? = some x -> x.name <= 999 /\ x.metres <= 2000
 nm : ∀ (s t : Nat) (x y : Street), a.streets[s]? = some x -> a.streets[t]? = some y -> x.name = y.name -> x.name ≠ 0 -> s = t
 ho : ∀ (h : Nat) (x : House), a.houses[h]? = some x -> x.gone = false -> x.side <= 1 /\ (∃ y, a.streets[x.street]? = some y /\ y.name ≠ 0 /\ x.at_ < y.metres) /\ (x.plate = 0 ∨ x.plate - 1 <= top x.side)
 di : ∀ (h i : Nat) (x y : House), a.houses[h]? = some x -> a.houses[i]? = some y -> x.gone = false -> y.gone = false -> x.street = y.street -> x.side = y.side -> x.at_ = y.at_ -> h = i
 ct : ∀ s d, cnt a s d <= 10
structure GoodO (a : Abs) : Prop where
 hl : a.houses.length <= 40
 di : ∀ (h i : Nat) (x y : House), a.houses[h]? = some x -> a.houses[i]? = some y -> x.gone = false -> y.gone = false -> x.street = y.street -> x.side = y.side -> x.at_ = y.at_ -> h = i
 ct : ∀ s d, cnt a s d <= 10
theorem Good.o {a : Abs} (G : Good a) : GoodO a := ⟨G.hl, G.di, G.ct⟩
theorem good_nil : Good ⟨[], []⟩ := ⟨Nat.zero_le _, Nat.zero_le _, fun s x e => by simp at e, fun s t x y e => by simp at e, fun h x e => by simp at e, fun h i x y e => by simp at e, fun s d => Nat.zero_le _⟩
theorem house_of {a : Abs} {h : Nat} {x : House} (e : a.houses[h]? = some x) : a.house h = x := by
 unfold Abs.house
 rw [List.getD_eq_getElem?_getD, e]
 rfl
theorem street_of {a : Abs} {s : Nat} {x : Street} (e : a.streets[s]? = some x) : a.street s = x := by
 unfold Abs.street
 rw [List.getD_eq_getElem?_getD, e]
 rfl
theorem of_isS {a : Abs} {s : Nat} (e : a.isS s = true) : ∃ x, a.streets[s]? = some x /\ a.street s = x /\ x.name ≠ 0 := by
 unfold Abs.isS Abs.street at e
 rw [List.getD_eq_getElem?_getD] at e
 cases q : a.streets[s]? with
 | none => rw [q] at e; exact absurd e (by decide)
 | some x =>
  rw [q] at e
  exact ⟨x, rfl, street_of q, by simpa using e⟩
theorem modify_get {α : Type} {l : List α} {f : α -> α} {h i : Nat} {y : α} (e : (l.modify h f)[i]? = some y) : ∃ x, l[i]? = some x /\ ((i = h /\ y = f x) ∨ (i ≠ h /\ y = x)) := by
 rw [List.getElem?_modify] at e
 cases q : l[i]? with
 | none => rw [q] at e; simp at e
 | some x =>
  rw [q] at e
  have e : some (if h = i then f x else x) = some y := e
  by_cases z : h = i
  ·rw [if_pos z] at e
   exact ⟨x, rfl, .inl ⟨z.symm, (Option.some.inj e).symm⟩⟩
  ·rw [if_neg z] at e
   exact ⟨x, rfl, .inr ⟨fun w => z w.symm, (Option.some.inj e).symm⟩⟩
theorem filter_modify_le {α : Type} (p : α -> Bool) (f : α -> α) (hp : ∀ x, p (f x) = true -> p x = true) : ∀ (l : List α) (h : Nat), ((l.modify h f).filter p).length <= (l.filter p).length
 | [], 0 => by simp
 | [], _ + 1 => by simp
 | x :: l, 0 => by
  rw [List.modify_zero_cons, List.filter_cons, List.filter_cons]
  by_cases z : p (f x) = true
  ·rw [if_pos z, if_pos (hp x z)]; exact Nat.le_refl _
  ·rw [if_neg z]
   split
   ·rw [List.length_cons]; omega
   ·exact Nat.le_refl _
 | x :: l, h + 1 => by
  have := filter_modify_le p f hp l h
  rw [List.modify_succ_cons, List.filter_cons, List.filter_cons]
  split
  ·rw [List.length_cons, List.length_cons]; omega
  ·exact this
theorem Good.plate {a : Abs} (G : Good a) (h p : Nat) (hp : ∀ x, a.houses[h]? = some x -> x.gone = false -> p = 0 ∨ p - 1 <= top x.side) : Good (a.set h fun x => { x with plate := p }) := by
 have key : ∀ (i : Nat) (y : House), (a.houses.modify h fun x => { x with plate := p })[i]? = some y -> ∃ x, a.houses[i]? = some x /\ y.street = x.street /\ y.side = x.side /\ y.at_ = x.at_ /\ y.gone = x.gone /\ (y.plate = x.plate ∨ (i = h /\ y.plate = p)) := fun i y e => by
  obtain ⟨x, e1, ⟨z, rfl⟩ | ⟨z, rfl⟩⟩ := modify_get e
  ·exact ⟨x, e1, rfl, rfl, rfl, rfl, .inr ⟨z, rfl⟩⟩
  ·exact ⟨_, e1, rfl, rfl, rfl, rfl, .inl rfl⟩
 refine ⟨G.sl, ?_, G.st, G.nm, fun i y e g => ?_, fun i j x y e1 e2 g1 g2 q1 q2 q3 => ?_, fun s d => ?_⟩
 ·show (a.houses.modify h _).length <= 40
  rw [List.length_modify]
  exact G.hl
 ·obtain ⟨x, e1, s1, s2, s3, s4, s5⟩ := key i y e
  obtain ⟨g1, g2, g3⟩ := G.ho i x e1 (by rw [<- s4]; exact g)
  refine ⟨by rw [s2]; exact g1, by rw [s1, s3]; exact g2, ?_⟩
  rcases s5 with z | ⟨z, w⟩
  ·rw [z, s2]; exact g3
  ·subst z
   rw [w, s2]
   exact hp x e1 (by rw [<- s4]; exact g)
 ·obtain ⟨x', e1', s1, s2, s3, s4, _⟩ := key i x e1
  obtain ⟨y', e2', t1, t2, t3, t4, _⟩ := key j y e2
  exact G.di i j x' y' e1' e2' (by rw [<- s4]; exact g1) (by rw [<- t4]; exact g2) (by rw [<- s1, <- t1]; exact q1) (by rw [<- s2, <- t2]; exact q2) (by rw [<- s3, <- t3]; exact q3)
 ·exact Nat.le_trans (filter_modify_le (alive s d) (fun x : House => { x with plate := p }) (fun x z => z) a.houses h) (G.ct s d)
theorem Good.pull {a : Abs} (G : Good a) (h : Nat) : Good (a.set h fun x => { x with gone := true, plate := 0 }) := by
 have key : ∀ (i : Nat) (y : House), (a.houses.modify h fun x => { x with gone := true, plate := 0 })[i]? = some y -> y.gone = false -> a.houses[i]? = some y := fun i y e g => by
  obtain ⟨x, e1, ⟨z, rfl⟩ | ⟨z, rfl⟩⟩ := modify_get e
  ·cases g
  ·exact e1
 refine ⟨G.sl, ?_, G.st, G.nm, fun i y e g => G.ho i y (key i y e g) g, fun i j x y e1 e2 g1 g2 q1 q2 q3 => G.di i j x y (key i x e1 g1) (key j y e2 g2) g1 g2 q1 q2 q3, fun s d => ?_⟩
 ·show (a.houses.modify h _).length <= 40
  rw [List.length_modify]
  exact G.hl
 ·exact Nat.le_trans (filter_modify_le (alive s d) (fun x : House => { x with gone := true, plate := 0 }) (fun x z => by cases z) a.houses h) (G.ct s d)
theorem Good.plates {l : List (Nat × Nat)} : ∀ {a : Abs}, Good a -> (∀ q ∈ l, ∀ x, a.houses[q.1]? = some x -> x.gone = false -> q.2 <= top x.side) -> Good (a.plates l) := by
 induction l with
 | nil => intro a G _; exact G
 | cons q l ih =>
  intro a G h
  refine ih (G.plate q.1 (q.2 + 1) fun x e g => .inr (h q List.mem_cons_self x e g)) fun r hr x e g => ?_
  obtain ⟨y, e1, ⟨_, rfl⟩ | ⟨_, rfl⟩⟩ := modify_get e
  ·exact h r (List.mem_cons_of_mem _ hr) y e1 g
  ·exact h r (List.mem_cons_of_mem _ hr) _ e1 g
theorem named_none {a : Abs} {n : Nat} (h : (a.named n).isSome = false) (hn : n ≠ 0) : ∀ (s : Nat) (x : Street), a.streets[s]? = some x -> x.name ≠ n := fun s x e z => by
 unfold Abs.named at h
 rw [Option.isSome_eq_false_iff, Option.isNone_iff_eq_none, List.find?_eq_none] at h
 have := h s (List.mem_range.mpr (List.getElem?_eq_some_iff.mp e).1)
 rw [street_of e, z] at this
 simp [hn] at this
theorem okName_iff {n : Nat} : okName n = true ↔ 1 <= n /\ n <= 999 := by
 unfold okName
 simp
theorem snoc_get {α : Type} {l : List α} {z : α} {i : Nat} {y : α} (e : (l ++ [z])[i]? = some y) : (l[i]? = some y) ∨ (i = l.length /\ y = z) := by
 by_cases h : i < l.length
 ·rw [List.getElem?_append_left h] at e
  exact .inl e
 ·rw [List.getElem?_append_right (by omega)] at e
  cases q : i - l.length with
  | zero =>
   rw [q] at e
   exact .inr ⟨by omega, (Option.some.inj e).symm⟩
  | succ n => rw [q] at e; simp at e
theorem set_get {α : Type} {l : List α} {z : α} {s i : Nat} {y : α} (e : (l.set s z)[i]? = some y) : (i = s /\ y = z /\ s < l.length) ∨ (i ≠ s /\ l[i]? = some y) := by
 by_cases h : i = s
 ·subst h
  have hl : i < l.length := by
   have := (List.getElem?_eq_some_iff.mp e).1
   simpa using this
  rw [List.getElem?_set_self hl] at e
  exact .inl ⟨rfl, (Option.some.inj e).symm, hl⟩
 ·rw [List.getElem?_set_ne fun w => h w.symm] at e
  exact .inr ⟨h, e⟩
theorem Good.street {a : Abs} (G : Good a) {n m : Nat} (h1 : ¬ 6 <= a.streets.length) (hn : okName n = true) (hm : ¬ 2000 < m) (hu : (a.named n).isSome = false) : Good { a with streets := a.streets ++ [⟨n, m⟩] } := by
 have hn' := okName_iff.mp hn
 refine ⟨?_, G.hl, fun s x e => ?_, fun s t x y e1 e2 q1 q2 => ?_, fun h x e g => ?_, G.di, G.ct⟩
 ·show (a.streets ++ [_]).length <= 6
  rw [List.length_append, List.length_singleton]
  omega
 ·rcases snoc_get e with e | ⟨_, rfl⟩
  ·exact G.st s x e
  ·exact ⟨hn'.2, by show m <= 2000; omega⟩
 ·rcases snoc_get e1 with e1 | ⟨z1, rfl⟩
  ·rcases snoc_get e2 with e2 | ⟨z2, rfl⟩
   ·exact G.nm s t x y e1 e2 q1 q2
   ·exact absurd q1 (named_none hu (by omega) s x e1)
  ·rcases snoc_get e2 with e2 | ⟨z2, rfl⟩
   ·exact absurd q1.symm (named_none hu (by omega) t y e2)
   ·omega
 ·obtain ⟨g1, ⟨y, g2, g3⟩, g4⟩ := G.ho h x e g
  refine ⟨g1, ⟨y, ?_, g3⟩, g4⟩
  show (a.streets ++ [_])[x.street]? = some y
  rw [List.getElem?_append_left (List.getElem?_eq_some_iff.mp g2).1]
  exact g2
theorem Good.rename {a : Abs} (G : Good a) {s n : Nat} (hs : a.isS s = true) (hn : okName n = true) (hu : (a.named n).isSome = false) : Good { a with streets := a.streets.set s { a.street s with name := n } } := by
 have hn' := okName_iff.mp hn
 obtain ⟨z, hz, ez, nz⟩ := of_isS hs
 rw [ez]
 refine ⟨by rw [List.length_set]; exact G.sl, G.hl, fun t x e => ?_, fun t u x y e1 e2 q1 q2 => ?_, fun h x e g => ?_, G.di, G.ct⟩
 ·rcases set_get e with ⟨rfl, rfl, _⟩ | ⟨_, e⟩
  ·exact ⟨hn'.2, (G.st t z hz).2⟩
  ·exact G.st t x e
 ·rcases set_get e1 with ⟨z1, rfl, _⟩ | ⟨z1, e1⟩
  ·rcases set_get e2 with ⟨z2, rfl, _⟩ | ⟨z2, e2⟩
   ·omega
   ·exact absurd q1.symm (named_none hu (by omega) u y e2)
  ·rcases set_get e2 with ⟨z2, rfl, _⟩ | ⟨z2, e2⟩
   ·exact absurd q1 (named_none hu (by omega) t x e1)
   ·exact G.nm t u x y e1 e2 q1 q2
 ·obtain ⟨g1, ⟨y, g2, g3, g5⟩, g4⟩ := G.ho h x e g
  refine ⟨g1, ?_, g4⟩
  by_cases w : x.street = s
  ·rw [w] at g2
   rw [hz] at g2
   cases g2
   refine ⟨{ z with name := n }, ?_, (by show n ≠ 0; omega), g5⟩
   show (a.streets.set s _)[x.street]? = _
   rw [w, List.getElem?_set_self (List.getElem?_eq_some_iff.mp hz).1]
  ·refine ⟨y, ?_, g3, g5⟩
   show (a.streets.set s _)[x.street]? = _
   rw [List.getElem?_set_ne fun q => w q.symm]
   exact g2
theorem Good.house {a : Abs} (G : Good a) {s d m : Nat} (hs : a.isS s = true) (hd : ¬ (1 < d ∨ (a.street s).metres <= m)) (hm : (a.side s d).any (fun h => (a.house h).at_ == m) = false) (h1 : ¬ (40 <= a.houses.length ∨ 10 <= (a.side s d).length)) :
  Good { a with houses := a.houses ++ [⟨s, d, m, 0, false⟩] } := by
 obtain ⟨z, hz, ez, nz⟩ := of_isS hs
 rw [ez] at hd
 have free : ∀ (i : Nat) (x : House), a.houses[i]? = some x -> x.gone = false -> x.street = s -> x.side = d -> x.at_ ≠ m := fun i x e g q1 q2 q3 => by
  have mem : i ∈ a.side s d := mem_side.mpr ⟨(List.getElem?_eq_some_iff.mp e).1, by rw [house_of e]; exact g, by rw [house_of e]; exact q1, by rw [house_of e]; exact q2⟩
  have := List.any_eq_false.mp hm i mem
  rw [house_of e, q3] at this
  simp at this
 refine ⟨G.sl, ?_, G.st, G.nm, fun i x e g => ?_, fun i j x y e1 e2 g1 g2 q1 q2 q3 => ?_, fun t c => ?_⟩
 ·show (a.houses ++ [_]).length <= 40
  rw [List.length_append, List.length_singleton]
  omega
 ·rcases snoc_get e with e | ⟨_, rfl⟩
  ·exact G.ho i x e g
  ·exact ⟨by show d <= 1; omega, ⟨z, hz, nz, by show m < z.metres; omega⟩, .inl rfl⟩
 ·rcases snoc_get e1 with e1 | ⟨z1, rfl⟩
  ·rcases snoc_get e2 with e2 | ⟨z2, rfl⟩
   ·exact G.di i j x y e1 e2 g1 g2 q1 q2 q3
   ·exact absurd q3 (free i x e1 g1 q1 q2)
  ·rcases snoc_get e2 with e2 | ⟨z2, rfl⟩
   ·exact absurd q3.symm (free j y e2 g2 q1.symm q2.symm)
   ·omega
 ·show ((a.houses ++ [_]).filter (alive t c)).length <= 10
  rw [List.filter_append, List.length_append]
  have g := G.ct t c
  by_cases w : t = s /\ c = d
  ·obtain ⟨rfl, rfl⟩ := w
   have := side_len a t c
   unfold cnt at this
   have l1 : (List.filter (alive t c) [(⟨t, c, m, 0, false⟩ : House)]).length <= 1 := by
    exact Nat.le_trans (List.length_filter_le _ _) (Nat.le_refl _)
   omega
  ·have l0 : alive t c ⟨s, d, m, 0, false⟩ = false := by
    unfold alive
    by_cases w1 : s = t
    ·have w2 : ¬ d = c := fun q => w ⟨w1.symm, q.symm⟩
     simp [w2]
    ·simp [w1]
   rw [List.filter_cons, if_neg (by rw [l0]; decide)]
   unfold cnt at g
   simpa using g
end Hn
namespace Hn
open Su54
theorem choose_hi (hi : Int) : ∀ (l : List Pr) (b : Int) (y : Pr), y ∈ choose hi b l -> rm y <= hi
 | [], _, _, h => by cases h
 | x :: l, b, y, h => by
  rw [choose_cons] at h
  split at h
  ·rename_i c
   split at h
   ·exact choose_hi hi l b y h
   ·rcases List.mem_cons.mp h with rfl | h
    ·exact c.2
    ·exact choose_hi hi l (rm x) y h
  ·exact choose_hi hi l b y h
theorem filled_le (s : List Pr) (hi : Int) (hs : ∀ y ∈ s, rm y <= hi) : ∀ (n k nx : Nat), (nx : Int) <= k + hi -> ∀ r ∈ filled s k nx n, (r : Int) <= hi + k + n - 1
 | 0, _, _, _, r, h => by cases h
 | n + 1, k, nx, hn, r, h => by
  have h : r ∈ (match s.find? fun y => y.1 == k with | some y => y.2 | none => nx) :: filled s (k + 1) ((match s.find? fun y => y.1 == k with | some y => y.2 | none => nx) + 1) n := h
  have b : ((match s.find? fun y => y.1 == k with | some y => y.2 | none => nx : Nat) : Int) <= k + hi := by
   cases e : s.find? fun y => y.1 == k with
   | none => exact hn
   | some y =>
    have h1 : (y.1 == k) = true := List.find?_some (p := fun y : Pr => y.1 == k) e
    have h1' : y.1 = k := beq_iff_eq.mp h1
    have h2 := hs y (List.mem_of_find?_eq_some e)
    unfold rm at h2
    show (y.2 : Int) <= k + hi
    omega
  rcases List.mem_cons.mp h with e | h
  ·rw [e]
   omega
  ·have := filled_le s hi hs n (k + 1) _ (by omega) r h
   omega
theorem mended_le (t : Nat) (l : List Nat) (h : l.length <= t + 1) : ∀ r ∈ mended t l, r <= t := fun r hr => by
 unfold mended at hr
 have := filled_le (stays t l) ((t : Int) + 1 - l.length) (fun y hy => by rw [stays_choose t l h] at hy; exact choose_hi _ _ _ y hy) l.length 0 0 (by omega) r hr
 omega
theorem filled_len (s : List Pr) : ∀ n k nx, (filled s k nx n).length = n
 | 0, _, _ => rfl
 | n + 1, k, nx => by
  show (filled s (k + 1) _ n).length + 1 = n + 1
  rw [filled_len s n]
theorem mended_len (t : Nat) (l : List Nat) : (mended t l).length = l.length := filled_len _ _ _ _
theorem top_big {d : Nat} (h : d <= 1) : 40 <= top d + 1 := by
 unfold top
 omega
theorem side_leO (a : Abs) (G : GoodO a) (s d : Nat) : (a.side s d).length <= 10 := by rw [side_len]; exact G.ct s d
theorem side_le (a : Abs) (G : Good a) (s d : Nat) : (a.side s d).length <= 10 := side_leO a G.o s d
theorem plated_sub (a : Abs) (s d : Nat) : (a.plated s d).Sublist (a.side s d) := List.filter_sublist
theorem ranks_len (a : Abs) (s d : Nat) : (a.ranks s d).length = (a.plated s d).length := List.length_map _
theorem ranks_le (a : Abs) (G : Good a) (s d : Nat) : (a.ranks s d).length <= 10 := by rw [ranks_len]; exact Nat.le_trans (plated_sub a s d).length_le (side_le a G s d)
theorem rank_le {n l d : Nat} (h : okName n = true) (hl : ¬ 26 < l) (hp : ¬ n % 2 ≠ 1 - d) (hd : d <= 1) : rank d n l <= top d := by
 have hn := okName_iff.mp h
 unfold rank top
 have : (n - (1 + d)) / 2 <= 499 - d := by omega
 have := Nat.mul_le_mul_right 27 this
 omega
theorem fits_le {a : Abs} {h r : Nat} (e : a.fitsBehind h r = true) : r <= top (a.house h).side := by
 unfold Abs.fitsBehind at e
 rw [Bool.and_eq_true] at e
 exact of_decide_eq_true e.1
theorem between_le {a : Abs} {h r : Nat} (e : a.between h = some r) : r <= top (a.house h).side := by
 unfold Abs.between at e
 cases q : a.before h with
 | none =>
  rw [q] at e
  simp only at e
  split at e
  ·rename_i c
   cases e
   exact fits_le c
  ·cases e
 | some i =>
  rw [q] at e
  simp only at e
  split at e
  ·rename_i c
   cases e
   exact fits_le c
  ·split at e
   ·rename_i c
    cases e
    exact fits_le c.2
   ·cases e
theorem map_filter_le {α : Type} (p q : α -> Bool) (f : α -> α) (h : ∀ x, p (f x) = true -> q x = true) : ∀ l : List α, ((l.map f).filter p).length <= (l.filter q).length
 | [] => Nat.le_refl _
 | x :: l => by
  have ih := map_filter_le p q f h l
  rw [List.map_cons, List.filter_cons, List.filter_cons]
  by_cases z : p (f x) = true
  ·rw [if_pos z, if_pos (h x z), List.length_cons, List.length_cons]; omega
  ·rw [if_neg z]
   split
   ·rw [List.length_cons]; omega
   ·exact ih
theorem filter_or_le {α : Type} (p q : α -> Bool) : ∀ l : List α, (l.filter fun x => p x || q x).length <= (l.filter p).length + (l.filter q).length
 | [] => Nat.le_refl _
 | x :: l => by
  have ih := filter_or_le p q l
  rw [List.filter_cons, List.filter_cons, List.filter_cons]
  cases p x <;> cases q x <;> simp <;> omega
theorem Good.join {a : Abs} (G : Good a) {s t : Nat} (hs : a.isS s = true) (ht : a.isS t = true) (hne : ¬ s = t)
  (hm : ¬ (2000 < (a.street s).metres + (a.street t).metres ∨ 10 < (a.side s 0).length + (a.side t 0).length ∨ 10 < (a.side s 1).length + (a.side t 1).length)) : Good (a.joined s t) := by
 obtain ⟨x, hx, ex, nx⟩ := of_isS hs
 obtain ⟨y, hy, ey, ny⟩ := of_isS ht
 have key : ∀ (h : Nat) (z : House), (a.joined s t).houses[h]? = some z -> z.gone = false -> ∃ w, a.houses[h]? = some w /\ w.gone = false /\ z.side = w.side /\ (z.plate = w.plate ∨ z.plate = 0) /\ ((w.street = t /\ z.street = s /\ z.at_ = w.at_ + x.metres) ∨ (w.street ≠ t /\ z = w)) := fun h z e g => by
  have e : (a.houses.map _)[h]? = some z := e
  rw [List.getElem?_map] at e
  cases q : a.houses[h]? with
  | none => rw [q] at e; cases e
  | some w =>
   rw [q] at e
   have e := Option.some.inj e
   dsimp only at e
   by_cases c : w.street = t /\ w.gone = false
   ·rw [if_pos c, ex] at e
    subst e
    refine ⟨w, rfl, c.2, rfl, ?_, .inl ⟨c.1, rfl, rfl⟩⟩
    show (if _ then 0 else w.plate) = w.plate ∨ (if _ then 0 else w.plate) = 0
    split
    ·exact .inr rfl
    ·exact .inl rfl
   ·rw [if_neg c] at e
    subst e
    exact ⟨w, rfl, g, rfl, .inl rfl, .inr ⟨fun q => c ⟨q, g⟩, rfl⟩⟩
 have hlS := (List.getElem?_eq_some_iff.mp hx).1
 have hlT := (List.getElem?_eq_some_iff.mp hy).1
 rw [ex, ey] at hm
 have sts : ∀ (u : Nat) (z : Street), (a.joined s t).streets[u]? = some z -> (u = t /\ z = ⟨0, 0⟩) ∨ (u ≠ t /\ u = s /\ z = ⟨x.name, x.metres + y.metres⟩) ∨ (u ≠ t /\ u ≠ s /\ a.streets[u]? = some z) := fun u z e => by
  have e : ((a.streets.set s { a.street s with metres := (a.street s).metres + (a.street t).metres }).set t ⟨0, 0⟩)[u]? = some z := e
  rw [ex, ey] at e
  rcases set_get e with ⟨q1, q2, _⟩ | ⟨q1, e⟩
  ·exact .inl ⟨q1, q2⟩
  ·rcases set_get e with ⟨q3, q4, _⟩ | ⟨q3, e⟩
   ·exact .inr (.inl ⟨q1, q3, q4⟩)
   ·exact .inr (.inr ⟨q1, q3, e⟩)
 have stS : (a.joined s t).streets[s]? = some ⟨x.name, x.metres + y.metres⟩ := by
  show ((a.streets.set s { a.street s with metres := (a.street s).metres + (a.street t).metres }).set t ⟨0, 0⟩)[s]? = _
  rw [List.getElem?_set_ne fun q => hne q.symm, List.getElem?_set_self hlS, ex, ey]
 have stO : ∀ u z, a.streets[u]? = some z -> u ≠ s -> u ≠ t -> (a.joined s t).streets[u]? = some z := fun u z e n1 n2 => by
  show ((a.streets.set s _).set t ⟨0, 0⟩)[u]? = _
  rw [List.getElem?_set_ne fun q => n2 q.symm, List.getElem?_set_ne fun q => n1 q.symm]
  exact e
 refine ⟨?_, ?_, fun u z e => ?_, fun u v z w e1 e2 q1 q2 => ?_, fun h z e g => ?_, fun h i z w e1 e2 g1 g2 q1 q2 q3 => ?_, fun u d => ?_⟩
 ·show ((a.streets.set s _).set t _).length <= 6
  rw [List.length_set, List.length_set]
  exact G.sl
 ·show (a.houses.map _).length <= 40
  rw [List.length_map]
  exact G.hl
 ·rcases sts u z e with ⟨_, rfl⟩ | ⟨_, _, rfl⟩ | ⟨_, _, e⟩
  ·exact ⟨Nat.zero_le _, Nat.zero_le _⟩
  ·exact ⟨(G.st s x hx).1, by show x.metres + y.metres <= 2000; omega⟩
  ·exact G.st u z e
 ·rcases sts u z e1 with ⟨_, rfl⟩ | ⟨_, a1, rfl⟩ | ⟨_, a1, e1⟩
  ·exact absurd rfl q2
  ·rcases sts v w e2 with ⟨_, rfl⟩ | ⟨_, b1, rfl⟩ | ⟨_, b1, e2⟩
   ·exact absurd q1 q2
   ·omega
   ·rw [a1]
    exact G.nm s v x w hx e2 q1 q2
  ·rcases sts v w e2 with ⟨_, rfl⟩ | ⟨_, b1, rfl⟩ | ⟨_, b1, e2⟩
   ·exact absurd q1 q2
   ·rw [b1]
    exact G.nm u s z x e1 hx q1 q2
   ·exact G.nm u v z w e1 e2 q1 q2
 ·obtain ⟨w, e1, g1, s1, s2, s3⟩ := key h z e g
  obtain ⟨c1, ⟨st, c2, c3, c4⟩, c5⟩ := G.ho h w e1 g1
  refine ⟨by rw [s1]; exact c1, ?_, ?_⟩
  ·rcases s3 with ⟨d1, d2, d3⟩ | ⟨d1, rfl⟩
   ·rw [d1, hy] at c2
    cases c2
    exact ⟨⟨x.name, x.metres + y.metres⟩, by rw [d2]; exact stS, nx, by rw [d3]; show _ < x.metres + y.metres; omega⟩
   ·by_cases us : z.street = s
    ·rw [us, hx] at c2
     cases c2
     exact ⟨⟨x.name, x.metres + y.metres⟩, by rw [us]; exact stS, nx, by show _ < x.metres + y.metres; omega⟩
    ·exact ⟨st, stO _ _ c2 us d1, c3, c4⟩
  ·rcases s2 with q | q
   ·rw [q, s1]; exact c5
   ·exact .inl q
 ·obtain ⟨w1, e1', g1', s1, _, s3⟩ := key h z e1 g1
  obtain ⟨w2, e2', g2', t1, _, t3⟩ := key i w e2 g2
  have inS : ∀ (j : Nat) (u : House), a.houses[j]? = some u -> u.gone = false -> u.street = s -> u.at_ < x.metres := fun j u e g q => by
   obtain ⟨_, ⟨st, c2, _, c4⟩, _⟩ := G.ho j u e g
   rw [q, hx] at c2
   cases c2
   exact c4
  rcases s3 with ⟨d1, d2, d3⟩ | ⟨d1, rfl⟩
  ·rcases t3 with ⟨f1, f2, f3⟩ | ⟨f1, rfl⟩
   ·exact G.di h i w1 w2 e1' e2' g1' g2' (by rw [d1, f1]) (by rw [<- s1, <- t1]; exact q2) (by omega)
   ·have := inS i w e2' g2' (by rw [<- q1, d2])
    omega
  ·rcases t3 with ⟨f1, f2, f3⟩ | ⟨f1, rfl⟩
   ·have := inS h z e1' g1' (by rw [q1, f2])
    omega
   ·exact G.di h i z w e1' e2' g1' g2' q1 q2 q3
 ·by_cases us : u = s
  ·subst us
   by_cases hd : d <= 1
   ·refine Nat.le_trans (map_filter_le (alive u d) (fun x => alive u d x || alive t d x) _ (fun w z => ?_) a.houses) (Nat.le_trans (filter_or_le (alive u d) (alive t d) a.houses) ?_)
    ·by_cases c : w.street = t /\ w.gone = false
     ·rw [if_pos c] at z
      unfold alive at z ⊢
      simp only [Bool.and_eq_true, beq_iff_eq, Bool.not_eq_true'] at z
      simp [c.1, c.2, z.2.2]
     ·rw [if_neg c] at z
      rw [z, Bool.true_or]
    ·have l0 := side_len a u 0
     have l1 := side_len a t 0
     have l2 := side_len a u 1
     have l3 := side_len a t 1
     unfold cnt at l0 l1 l2 l3
     match d, hd with
     | 0, _ => omega
     | 1, _ => omega
   ·have z : ((a.joined u t).houses.filter (alive u d)).length = 0 := by
     rw [List.length_eq_zero_iff, List.filter_eq_nil_iff]
     intro w hw q
     obtain ⟨j, hj, e⟩ := List.mem_iff_getElem.mp hw
     unfold alive at q
     simp only [Bool.and_eq_true, beq_iff_eq, Bool.not_eq_true'] at q
     obtain ⟨w', e1, g1, s1, _, _⟩ := key j w (by rw [List.getElem?_eq_getElem hj, e]) q.1
     have := (G.ho j w' e1 g1).1
     omega
    unfold cnt
    omega
  ·refine Nat.le_trans (map_filter_le (alive u d) (alive u d) _ (fun w z => ?_) a.houses) (G.ct u d)
   by_cases c : w.street = t /\ w.gone = false
   ·rw [if_pos c] at z
    unfold alive at z
    simp only [Bool.and_eq_true, beq_iff_eq, Bool.not_eq_true'] at z
    exact absurd z.2.1 fun q => us q.symm
   ·rw [if_neg c] at z
    exact z
theorem Good.cut {a : Abs} (G : Good a) {s m n : Nat} (hs : a.isS s = true) (hm : ¬ (m = 0 ∨ (a.street s).metres <= m ∨ okName n = false)) (hu : (a.named n).isSome = false) (hl : ¬ 6 <= a.streets.length) : Good (a.cut s m n) := by
 obtain ⟨x, hx, ex, nx⟩ := of_isS hs
 have hn : okName n = true := by
  cases q : okName n with
  | true => rfl
  | false => exact absurd (.inr (.inr q)) hm
 have hn' := okName_iff.mp hn
 rw [ex] at hm
 have hlS := (List.getElem?_eq_some_iff.mp hx).1
 have key : ∀ (h : Nat) (z : House), (a.cut s m n).houses[h]? = some z -> z.gone = false -> ∃ w, a.houses[h]? = some w /\ w.gone = false /\ z.side = w.side /\ z.plate = w.plate /\ ((w.street = s /\ m <= w.at_ /\ z.street = a.streets.length /\ z.at_ = w.at_ - m) ∨ (¬ (w.street = s /\ m <= w.at_) /\ z = w)) := fun h z e g => by
  have e : (a.houses.map _)[h]? = some z := e
  rw [List.getElem?_map] at e
  cases q : a.houses[h]? with
  | none => rw [q] at e; cases e
  | some w =>
   rw [q] at e
   have e := Option.some.inj e
   dsimp only at e
   by_cases c : w.street = s /\ w.gone = false /\ m <= w.at_
   ·rw [if_pos c] at e
    subst e
    exact ⟨w, rfl, c.2.1, rfl, rfl, .inl ⟨c.1, c.2.2, rfl, rfl⟩⟩
   ·rw [if_neg c] at e
    subst e
    exact ⟨w, rfl, g, rfl, rfl, .inr ⟨fun q => c ⟨q.1, g, q.2⟩, rfl⟩⟩
 have sts : ∀ (u : Nat) (z : Street), (a.cut s m n).streets[u]? = some z -> (u = a.streets.length /\ z = ⟨n, x.metres - m⟩) ∨ (u = s /\ z = ⟨x.name, m⟩) ∨ (u ≠ s /\ a.streets[u]? = some z) := fun u z e => by
  have e : ((a.streets.set s { a.street s with metres := m }) ++ [⟨n, (a.street s).metres - m⟩])[u]? = some z := e
  rw [ex] at e
  rcases snoc_get e with e | ⟨q, r⟩
  ·rcases set_get e with ⟨q1, q2, _⟩ | ⟨q1, e⟩
   ·exact .inr (.inl ⟨q1, q2⟩)
   ·exact .inr (.inr ⟨q1, e⟩)
  ·rw [List.length_set] at q
   exact .inl ⟨q, r⟩
 have stN : (a.cut s m n).streets[a.streets.length]? = some ⟨n, x.metres - m⟩ := by
  show ((a.streets.set s { a.street s with metres := m }) ++ [⟨n, (a.street s).metres - m⟩])[a.streets.length]? = _
  rw [List.getElem?_append_right (by rw [List.length_set]; exact Nat.le_refl _), List.length_set, Nat.sub_self, ex]
  rfl
 have stS : (a.cut s m n).streets[s]? = some ⟨x.name, m⟩ := by
  show ((a.streets.set s { a.street s with metres := m }) ++ [⟨n, (a.street s).metres - m⟩])[s]? = _
  rw [List.getElem?_append_left (by rw [List.length_set]; exact hlS), List.getElem?_set_self hlS, ex]
 have stO : ∀ u z, a.streets[u]? = some z -> u ≠ s -> (a.cut s m n).streets[u]? = some z := fun u z e n1 => by
  show ((a.streets.set s { a.street s with metres := m }) ++ [⟨n, (a.street s).metres - m⟩])[u]? = _
  rw [List.getElem?_append_left (by rw [List.length_set]; exact (List.getElem?_eq_some_iff.mp e).1), List.getElem?_set_ne fun q => n1 q.symm]
  exact e
 have below : ∀ (j : Nat) (u : House), a.houses[j]? = some u -> u.gone = false -> u.street < a.streets.length := fun j u e g => by
  obtain ⟨_, ⟨st, c2, _⟩, _⟩ := G.ho j u e g
  exact (List.getElem?_eq_some_iff.mp c2).1
 refine ⟨?_, ?_, fun u z e => ?_, fun u v z w e1 e2 q1 q2 => ?_, fun h z e g => ?_, fun h i z w e1 e2 g1 g2 q1 q2 q3 => ?_, fun u d => ?_⟩
 ·show ((a.streets.set s _) ++ [_]).length <= 6
  rw [List.length_append, List.length_set, List.length_singleton]
  omega
 ·show (a.houses.map _).length <= 40
  rw [List.length_map]
  exact G.hl
 ·have gx := G.st s x hx
  rcases sts u z e with ⟨_, rfl⟩ | ⟨_, rfl⟩ | ⟨_, e⟩
  ·exact ⟨hn'.2, by show x.metres - m <= 2000; omega⟩
  ·exact ⟨gx.1, by show m <= 2000; omega⟩
  ·exact G.st u z e
 ·have no := named_none hu (by omega)
  rcases sts u z e1 with ⟨a1, rfl⟩ | ⟨a1, rfl⟩ | ⟨a1, e1⟩
  ·rcases sts v w e2 with ⟨b1, rfl⟩ | ⟨b1, rfl⟩ | ⟨b1, e2⟩
   ·omega
   ·exact absurd q1.symm (no s x hx)
   ·exact absurd q1.symm (no v w e2)
  ·rcases sts v w e2 with ⟨b1, rfl⟩ | ⟨b1, rfl⟩ | ⟨b1, e2⟩
   ·exact absurd q1 (no s x hx)
   ·omega
   ·rw [a1]
    exact G.nm s v x w hx e2 q1 q2
  ·rcases sts v w e2 with ⟨b1, rfl⟩ | ⟨b1, rfl⟩ | ⟨b1, e2⟩
   ·exact absurd q1 (no u z e1)
   ·rw [b1]
    exact G.nm u s z x e1 hx q1 q2
   ·exact G.nm u v z w e1 e2 q1 q2
 ·obtain ⟨w, e1, g1, s1, s2, s3⟩ := key h z e g
  obtain ⟨c1, ⟨st, c2, c3, c4⟩, c5⟩ := G.ho h w e1 g1
  refine ⟨by rw [s1]; exact c1, ?_, by rw [s1, s2]; exact c5⟩
  rcases s3 with ⟨d1, d2, d3, d4⟩ | ⟨d1, rfl⟩
  ·rw [d1, hx] at c2
   cases c2
   exact ⟨⟨n, x.metres - m⟩, by rw [d3]; exact stN, by show n ≠ 0; omega, by rw [d4]; show _ < x.metres - m; omega⟩
  ·by_cases us : z.street = s
   ·exact ⟨⟨x.name, m⟩, by rw [us]; exact stS, nx, by show z.at_ < m; have : ¬ m <= z.at_ := fun q => d1 ⟨us, q⟩; omega⟩
   ·exact ⟨st, stO _ _ c2 us, c3, c4⟩
 ·obtain ⟨w1, e1', g1', s1, _, s3⟩ := key h z e1 g1
  obtain ⟨w2, e2', g2', t1, _, t3⟩ := key i w e2 g2
  have b1 := below h w1 e1' g1'
  have b2 := below i w2 e2' g2'
  rcases s3 with ⟨d1, d2, d3, d4⟩ | ⟨d1, rfl⟩
  ·rcases t3 with ⟨f1, f2, f3, f4⟩ | ⟨f1, rfl⟩
   ·exact G.di h i w1 w2 e1' e2' g1' g2' (by rw [d1, f1]) (by rw [<- s1, <- t1]; exact q2) (by omega)
   ·omega
  ·rcases t3 with ⟨f1, f2, f3, f4⟩ | ⟨f1, rfl⟩
   ·omega
   ·exact G.di h i z w e1' e2' g1' g2' q1 q2 q3
 ·by_cases us : u = a.streets.length
  ·refine Nat.le_trans ?_ (G.ct s d)
   show ((a.houses.map _).filter (alive u d)).length <= (a.houses.filter (alive s d)).length
   have gen : ∀ l : List House, (∀ w ∈ l, w.gone = false -> w.street < a.streets.length) -> ((l.map fun x => if x.street = s /\ x.gone = false /\ m <= x.at_ then { x with street := a.streets.length, at_ := x.at_ - m } else x).filter (alive u d)).length <= (l.filter (alive s d)).length := by
    intro l
    induction l with
    | nil => intro _; exact Nat.le_refl _
    | cons w l ih =>
     intro hw
     have ih := ih fun z hz => hw z (List.mem_cons_of_mem _ hz)
     rw [List.map_cons, List.filter_cons, List.filter_cons]
     by_cases c : w.street = s /\ w.gone = false /\ m <= w.at_
     ·rw [if_pos c]
      have e : alive u d { w with street := a.streets.length, at_ := w.at_ - m } = alive s d w := by
       unfold alive
       simp [us, c.1]
      rw [e]
      split
      ·rw [List.length_cons, List.length_cons]; omega
      ·exact ih
     ·rw [if_neg c]
      have e : alive u d w = false := by
       unfold alive
       cases q : w.gone with
       | true => rfl
       | false =>
        have := hw w List.mem_cons_self q
        have z : ¬ w.street = u := by omega
        simp [z]
      rw [if_neg (by rw [e]; decide)]
      split
      ·rw [List.length_cons]; omega
      ·exact ih
   exact gen a.houses fun w hw g => by
    obtain ⟨j, hj, e⟩ := List.mem_iff_getElem.mp hw
    exact below j w (by rw [List.getElem?_eq_getElem hj, e]) g
  ·refine Nat.le_trans (map_filter_le (alive u d) (alive u d) _ (fun w z => ?_) a.houses) (G.ct u d)
   by_cases c : w.street = s /\ w.gone = false /\ m <= w.at_
   ·rw [if_pos c] at z
    unfold alive at z
    simp only [Bool.and_eq_true, beq_iff_eq, Bool.not_eq_true'] at z
    exact absurd z.2.1 fun q => us q.symm
   ·rw [if_neg c] at z
    exact z
theorem anew_top {a : Abs} (G : Good a) {s d : Nat} (hd : d <= 1) : ∀ q ∈ a.anew s d, ∀ x, a.houses[q.1]? = some x -> x.gone = false -> q.2 <= top x.side := fun q hq x e g => by
 unfold Abs.anew at hq
 obtain ⟨p, hp, rfl⟩ := List.mem_map.mp hq
 have h2 := List.mem_range.mp (List.of_mem_zip (show (p.1, p.2) ∈ _ from hp)).2
 have := side_le a G s d
 have := (G.ho _ x e g).1
 show p.2 * 27 <= _
 unfold top
 omega
theorem zip_mem_at {α β : Type} {l : List α} {m : List β} {x : α} {y : β} (h : (x, y) ∈ l.zip m) : x ∈ l /\ y ∈ m := List.of_mem_zip h
theorem does_good {a : Abs} (G : Good a) (c : Call) : Good (does a c).1 := by
 cases c with
 | begin_ => exact good_nil
 | street n m =>
  dsimp only [does]
  split
  ·exact G
  ·rename_i h1
   split
   ·exact G
   ·rename_i h2
    split
    ·exact G
    ·rename_i h3
     refine G.street (by unfold STREETS at h1; omega) ?_ (fun q => h2 (.inr (.inr q))) (by simpa using h3)
     cases q : okName n with
     | true => rfl
     | false => exact absurd (.inl q) h2
 | rename s n =>
  dsimp only [does]
  split
  ·exact G
  ·rename_i h1
   split
   ·exact G
   ·rename_i h2
    split
    ·exact G
    ·rename_i h3
     exact G.rename (by simpa using h1) (by simpa using h2) (by simpa using h3)
 | house s d m =>
  dsimp only [does]
  split
  ·exact G
  ·rename_i h1
   split
   ·exact G
   ·rename_i h2
    split
    ·exact G
    ·rename_i h3
     split
     ·exact G
     ·rename_i h4
      exact G.house (by simpa using h1) h2 (by simpa using h3) h4
 | pull h =>
  dsimp only [does]
  split
  ·exact G
  ·exact G.pull h
 | plate h n l =>
  dsimp only [does]
  split
  ·exact G
  ·rename_i h1
   split
   ·exact G
   ·rename_i h2
    split
    ·exact G
    ·rename_i h3
     split
     ·exact G
     ·refine G.plate h _ fun x e g => .inr ?_
      have ex := house_of e
      rw [ex] at h3 ⊢
      show rank x.side n l + 1 - 1 <= _
      rw [Nat.add_sub_cancel]
      refine rank_le ?_ (fun q => h2 (.inr q)) h3 (G.ho h x e g).1
      cases q : okName n with
      | true => rfl
      | false => exact absurd (.inl q) h2
 | unplate h =>
  dsimp only [does]
  split
  ·exact G
  ·split
   ·exact G
   ·exact G.plate h 0 fun _ _ _ => .inl rfl
 | anew s =>
  dsimp only [does]
  split
  ·exact G
  ·refine G.plates fun q hq => ?_
   rcases List.mem_append.mp hq with hq | hq
   ·exact anew_top G (by omega) q hq
   ·exact anew_top G (by omega) q hq
 | between h =>
  dsimp only [does]
  split
  ·exact G
  ·split
   ·exact G
   ·split
    ·exact G
    ·rename_i r hr
     refine G.plate h _ fun x e g => .inr ?_
     have := between_le hr
     rw [house_of e] at this
     show r + 1 - 1 <= _
     omega
 | mend s d =>
  dsimp only [does]
  split
  ·exact G
  ·split
   ·exact G
   ·rename_i h1
    refine G.plates fun q hq x e g => ?_
    have hq' := zip_mem_at (show (q.1, q.2) ∈ _ from hq)
    have hs := mem_side.mp ((plated_sub a s d).subset hq'.1)
    rw [house_of e] at hs
    rw [hs.2.2.2]
    have := ranks_le a G s d
    have := top_big (d := d) (by omega)
    exact mended_le _ _ (by omega) _ hq'.2
 | join s t =>
  dsimp only [does]
  split
  ·exact G
  ·rename_i h1
   split
   ·exact G
   ·rename_i h2
    split
    ·exact G
    ·rename_i h3
     refine G.join ?_ ?_ h2 h3
     ·cases q : a.isS s with
      | true => rfl
      | false => exact absurd (.inl q) h1
     ·cases q : a.isS t with
      | true => rfl
      | false => exact absurd (.inr q) h1
 | cut s m n =>
  dsimp only [does]
  split
  ·exact G
  ·rename_i h1
   split
   ·exact G
   ·rename_i h2
    split
    ·exact G
    ·rename_i h3
     split
     ·exact G
     ·rename_i h4
      exact G.cut (by simpa using h1) h2 (by simpa using h3) h4
 | order s d => dsimp only [does]; split; exact G; split <;> exact G
 | right s =>
  dsimp only [does]
  split
  ·exact G
  ·split
   ·exact G
   ·split <;> exact G
 | fewest s d => dsimp only [does]; split; exact G; split <;> exact G
 | find n x l =>
  dsimp only [does]
  split
  ·exact G
  ·split <;> exact G
 | opposite h => dsimp only [does]; split <;> exact G
 | next h => dsimp only [does]; split <;> exact G
 | closest s m => dsimp only [does]; split; exact G; split <;> exact G
 | walk h i => dsimp only [does]; split; exact G; split <;> exact G
 | count s => dsimp only [does]; split <;> exact G
 | free s d => dsimp only [does]; split; exact G; split <;> exact G
 | streets => exact G
 | look h => dsimp only [does]; split <;> exact G
 | bare s => dsimp only [does]; split <;> exact G
 | state => exact G
end Hn
namespace Hn
open Su54
theorem here_eqS (a : Abs) (s d : Nat) : here a s d = (List.range a.houses.length).filter fun j => alive s d (a.house j) := by
 unfold here Abs.hs
 rw [List.filter_filter]
 congr 1
 funext i
 exact Bool.and_comm _ _
theorem alive_iff {s d : Nat} {x : House} : alive s d x = true ↔ x.gone = false /\ x.street = s /\ x.side = d := by
 unfold alive
 simp
theorem side_congr {a b : Abs} (G : GoodO a) {s d : Nat} (hl : b.houses.length = a.houses.length) (ha : ∀ j, alive s d (b.house j) = alive s d (a.house j)) (hat : ∀ j, alive s d (a.house j) = true -> (b.house j).at_ = (a.house j).at_) : b.side s d = a.side s d := by
 have hh : here b s d = here a s d := by
  rw [here_eqS, here_eqS, hl]
  congr 1
  funext j
  exact ha j
 have hp : (b.side s d).Perm (a.side s d) := (side_perm b s d).trans (by rw [hh]; exact (side_perm a s d).symm)
 have mem : ∀ j ∈ b.side s d, alive s d (a.house j) = true /\ j < a.houses.length := fun j hj => by
  have m := mem_side.mp (hp.mem_iff.mp hj)
  exact ⟨alive_iff.mpr m.2, m.1⟩
 refine sort_one (k := fun j => (a.house j).at_) hp ?_ (side_sorted a s d) fun x hx y hy e => ?_
 ·refine (side_sorted b s d).imp_of_mem fun {x y} hx hy h => ?_
  rw [hat x (mem x hx).1, hat y (mem y hy).1] at h
  exact h
 ·obtain ⟨ax, lx⟩ := mem x hx
  obtain ⟨ay, ly⟩ := mem y hy
  have e1 : a.houses[x]? = some a.houses[x] := List.getElem?_eq_getElem lx
  have e2 : a.houses[y]? = some a.houses[y] := List.getElem?_eq_getElem ly
  rw [house_of e1] at ax e
  rw [house_of e2] at ay e
  have ax := alive_iff.mp ax
  have ay := alive_iff.mp ay
  exact G.di x y _ _ e1 e2 ax.1 ay.1 (by rw [ax.2.1, ay.2.1]) (by rw [ax.2.2, ay.2.2]) e
def sets (b : Abs) (f : House -> House) (js : List Nat) : Abs := js.foldl (fun c j => c.set j f) b
theorem sets_snoc (b : Abs) (f : House -> House) (js : List Nat) (j : Nat) : sets b f (js ++ [j]) = (sets b f js).set j f := by
 unfold sets
 rw [List.foldl_append]
 rfl
theorem sets_cons (b : Abs) (f : House -> House) (j : Nat) (js : List Nat) : sets b f (j :: js) = sets (b.set j f) f js := rfl
theorem set_out {b : Abs} {f : House -> House} {j k : Nat} (h : k ≠ j) : (b.set j f).houses[k]? = b.houses[k]? := by
 show (b.houses.modify j f)[k]? = _
 rw [List.getElem?_modify]
 cases b.houses[k]? with
 | none => rfl
 | some x => exact congrArg some (if_neg fun z => h z.symm)
theorem set_in {b : Abs} {f : House -> House} {j : Nat} : (b.set j f).houses[j]? = b.houses[j]?.map f := by
 show (b.houses.modify j f)[j]? = _
 rw [List.getElem?_modify]
 cases b.houses[j]? with
 | none => rfl
 | some x => exact congrArg some (if_pos rfl)
theorem sets_out {f : House -> House} {k : Nat} : ∀ {js : List Nat} {b : Abs}, k ∉ js -> (sets b f js).houses[k]? = b.houses[k]?
 | [], _, _ => rfl
 | j :: js, b, h => by
  rw [sets_cons, sets_out fun z => h (List.mem_cons_of_mem _ z), set_out fun z => h (by rw [z]; exact List.mem_cons_self)]
theorem sets_in {f : House -> House} {k : Nat} : ∀ {js : List Nat} {b : Abs}, js.Nodup -> k ∈ js -> (sets b f js).houses[k]? = b.houses[k]?.map f
 | [], _, _, h => by cases h
 | j :: js, b, hn, h => by
  obtain ⟨h1, h2⟩ := List.nodup_cons.mp hn
  rw [sets_cons]
  by_cases e : k = j
  ·subst e
   rw [sets_out h1, set_in]
  ·rw [sets_in h2 ((List.mem_cons.mp h).resolve_left e), set_out e]
theorem sets_str {f : House -> House} : ∀ {js : List Nat} {b : Abs}, (sets b f js).streets = b.streets
 | [], _ => rfl
 | j :: js, b => by rw [sets_cons, sets_str]; rfl
theorem abs_ext {a b : Abs} (h1 : a.streets = b.streets) (h2 : a.houses = b.houses) : a = b := by
 cases a; cases b; cases h1; cases h2; rfl
theorem sets_map {b : Abs} {f : House -> House} {js : List Nat} {p : House -> Bool} (hn : js.Nodup) (hm : ∀ k x, b.houses[k]? = some x -> (k ∈ js ↔ p x = true)) : sets b f js = { b with houses := b.houses.map fun x => if p x = true then f x else x } := by
 refine abs_ext sets_str (List.ext_getElem? fun k => ?_)
 show _ = (b.houses.map fun x => if p x = true then f x else x)[k]?
 rw [List.getElem?_map]
 by_cases h : k ∈ js
 ·rw [sets_in hn h]
  cases e : b.houses[k]? with
  | none => rfl
  | some x =>
   show some (f x) = some (if p x = true then f x else x)
   rw [if_pos ((hm k x e).mp h)]
 ·rw [sets_out h]
  cases e : b.houses[k]? with
  | none => rfl
  | some x =>
   show some x = some (if p x = true then f x else x)
   rw [if_neg fun z => h ((hm k x e).mpr z)]
theorem house_map {a : Abs} {f : House -> House} (hf : f ⟨0, 0, 0, 0, true⟩ = ⟨0, 0, 0, 0, true⟩) (j : Nat) : (({ a with houses := a.houses.map f } : Abs)).house j = f (a.house j) := by
 unfold Abs.house
 rw [List.getD_eq_getElem?_getD, List.getD_eq_getElem?_getD]
 show ((a.houses.map f)[j]?).getD _ = _
 rw [List.getElem?_map]
 cases a.houses[j]? with
 | none => exact hf.symm
 | some x => rfl
def goes (b : Abs) (s d : Nat) (x : House) : Bool := x.plate != 0 && (b.has s d (x.plate - 1)).isSome
def mvH (b : Abs) (s d : Nat) (x : House) : House := { x with street := s, at_ := x.at_ + (b.street s).metres, plate := if goes b s d x = true then 0 else x.plate }
def handed (b : Abs) (s t d : Nat) : Abs := { b with houses := b.houses.map fun x => if alive t d x = true then mvH b s d x else x }
def wentN (b : Abs) (s t d : Nat) : Nat := ((b.side t d).filter fun j => goes b s d (b.house j)).length
theorem handed_sets (b : Abs) (s t d : Nat) : sets b (mvH b s d) (b.side t d) = handed b s t d := sets_map (side_nodup b t d) fun k x e => by
 rw [mem_side, house_of e, alive_iff]
 exact ⟨fun z => z.2, fun z => ⟨(List.getElem?_eq_some_iff.mp e).1, z⟩⟩
theorem handed_house (b : Abs) (s t d j : Nat) : (handed b s t d).house j = if alive t d (b.house j) = true then mvH b s d (b.house j) else b.house j := house_map (f := fun x => if alive t d x = true then mvH b s d x else x) (by
 show (if alive t d ⟨0, 0, 0, 0, true⟩ = true then _ else _) = _
 rw [if_neg (by unfold alive; simp)]) j
theorem alive_mv {b : Abs} {s t d s' d' : Nat} {x : House} (h : d ≠ d') : alive s' d' (if alive t d x = true then mvH b s d x else x) = alive s' d' x := by
 by_cases c : alive t d x = true
 ·rw [if_pos c]
  have c := alive_iff.mp c
  rw [Bool.eq_iff_iff, alive_iff, alive_iff]
  constructor
  ·rintro ⟨_, _, z⟩
   exact absurd (c.2.2.symm.trans z) h
  ·rintro ⟨_, _, z⟩
   exact absurd (c.2.2.symm.trans z) h
 ·rw [if_neg c]
theorem handed_same {b : Abs} {s t d s' d' j : Nat} (h : d ≠ d') (ha : alive s' d' (b.house j) = true) : (handed b s t d).house j = b.house j := by
 rw [handed_house, if_neg fun z => h ((alive_iff.mp z).2.2.symm.trans (alive_iff.mp ha).2.2)]
theorem handed_side {b : Abs} (G : GoodO b) (s t : Nat) {d s' d' : Nat} (h : d ≠ d') : (handed b s t d).side s' d' = b.side s' d' := by
 refine side_congr G (by show (b.houses.map _).length = _; rw [List.length_map]) (fun j => ?_) fun j hj => by rw [handed_same h hj]
 rw [handed_house]
 exact alive_mv h
theorem handed_has {b : Abs} (G : GoodO b) (s t : Nat) {d s' d' : Nat} (h : d ≠ d') (p : Nat) : (handed b s t d).has s' d' p = b.has s' d' p := by
 have hs : ∀ j ∈ b.side s' d', (handed b s t d).house j = b.house j := fun j hj => handed_same h (alive_iff.mpr (mem_side.mp hj).2)
 unfold Abs.has Abs.plated
 rw [handed_side G s t h, List.find?_filter, List.find?_filter]
 have : ∀ l : List Nat, (∀ j ∈ l, (handed b s t d).house j = b.house j) -> l.find? (fun j => decide (((handed b s t d).house j).plate != 0 /\ ((handed b s t d).house j).plate == p + 1)) = l.find? (fun j => decide ((b.house j).plate != 0 /\ (b.house j).plate == p + 1)) := fun l => by
  induction l with
  | nil => intro _; rfl
  | cons x l ih =>
   intro hl
   rw [List.find?_cons, List.find?_cons, hl x List.mem_cons_self, ih fun j hj => hl j (List.mem_cons_of_mem _ hj)]
 exact this _ hs
theorem handed_goes {b : Abs} (G : GoodO b) (s t : Nat) {d s' d' : Nat} (h : d ≠ d') (x : House) : goes (handed b s t d) s' d' x = goes b s' d' x := by
 unfold goes
 rw [handed_has G s t h]
theorem handed_went {b : Abs} (G : GoodO b) (s t : Nat) {d d' : Nat} (h : d ≠ d') : wentN (handed b s t d) s t d' = wentN b s t d' := by
 unfold wentN
 rw [handed_side G s t h]
 congr 1
 refine List.filter_congr fun j hj => ?_
 rw [handed_same h (alive_iff.mpr (mem_side.mp hj).2), handed_goes G s t h]
def jn (a : Abs) (s t : Nat) (x : House) : House := if x.street = t /\ x.gone = false then { x with street := s, at_ := x.at_ + (a.street s).metres, plate := if x.plate ≠ 0 /\ (a.has s x.side (x.plate - 1)).isSome then 0 else x.plate } else x
theorem joined_houses (a : Abs) (s t : Nat) : (a.joined s t).houses = a.houses.map (jn a s t) := rfl
theorem goes_iff {a : Abs} {s d : Nat} {x : House} : goes a s d x = true ↔ x.plate ≠ 0 /\ (a.has s d (x.plate - 1)).isSome = true := by
 unfold goes
 rw [Bool.and_eq_true, bne_iff_ne]
theorem mv_jn {a : Abs} {s t d : Nat} {x : House} (h : alive t d x = true) : mvH a s d x = jn a s t x := by
 obtain ⟨h1, h2, h3⟩ := alive_iff.mp h
 have e : (if goes a s d x = true then 0 else x.plate) = if x.plate ≠ 0 /\ (a.has s x.side (x.plate - 1)).isSome = true then 0 else x.plate := by
  by_cases c : goes a s d x = true
  ·rw [if_pos c, if_pos (by rw [h3]; exact goes_iff.mp c)]
  ·rw [if_neg c, if_neg fun z => c (goes_iff.mpr (by rw [<- h3]; exact z))]
 unfold mvH jn
 rw [e, if_pos (show x.street = t /\ x.gone = false from ⟨h2, h1⟩)]
theorem handed_joined {a : Abs} (G : Good a) {s t : Nat} (hne : ¬ s = t) : (handed (handed a s t 0) s t 1).houses = (a.joined s t).houses := by
 rw [joined_houses]
 show ((a.houses.map fun x => if alive t 0 x = true then mvH a s 0 x else x).map fun x => if alive t 1 x = true then mvH (handed a s t 0) s 1 x else x) = _
 rw [List.map_map]
 refine List.map_congr_left fun x hx => ?_
 obtain ⟨k, hk⟩ := List.getElem?_of_mem hx
 show (fun x => if alive t 1 x = true then mvH (handed a s t 0) s 1 x else x) (if alive t 0 x = true then mvH a s 0 x else x) = _
 dsimp only
 by_cases c0 : alive t 0 x = true
 ·rw [if_pos c0, if_neg fun z => hne (alive_iff.mp z).2.1, mv_jn c0]
 ·rw [if_neg c0]
  by_cases c1 : alive t 1 x = true
  ·rw [if_pos c1, <- mv_jn c1]
   unfold mvH
   rw [handed_goes G.o s t (by decide)]
   rfl
  ·rw [if_neg c1]
   unfold jn
   rw [if_neg]
   rintro ⟨h1, h2⟩
   have := (G.ho k x hk h2).1
   by_cases e : x.side = 0
   ·exact c0 (alive_iff.mpr ⟨h2, h1, e⟩)
   ·exact c1 (alive_iff.mpr ⟨h2, h1, by omega⟩)
theorem filter_split {α : Type} {p q r : α -> Bool} : ∀ {l : List α}, (∀ x ∈ l, p x = (q x || r x) /\ (q x && r x) = false) -> (l.filter p).length = (l.filter q).length + (l.filter r).length
 | [], _ => rfl
 | x :: l, h => by
  have ih := filter_split fun y hy => h y (List.mem_cons_of_mem _ hy)
  obtain ⟨h1, h2⟩ := h x List.mem_cons_self
  rw [List.filter_cons, List.filter_cons, List.filter_cons, h1]
  cases hq : q x <;> cases hr : r x <;> rw [hq, hr] at h2 <;> simp_all <;> omega
theorem went_len (a : Abs) (s t d : Nat) : (a.houses.filter fun x => alive t d x && goes a s d x).length = wentN a s t d := by
 unfold wentN
 rw [((side_perm a t d).filter _).length_eq, here_eqS, List.filter_filter, <- range_filter_len (fun x => alive t d x && goes a s d x) ⟨0, 0, 0, 0, true⟩ a.houses]
 congr 2
 funext i
 exact Bool.and_comm _ _
theorem off_went {a : Abs} (G : Good a) {s t : Nat} (hne : ¬ s = t) : a.off (a.joined s t) = wentN a s t 0 + wentN (handed a s t 0) s t 1 := by
 rw [handed_went G.o s t (by decide), <- went_len, <- went_len]
 unfold Abs.off
 rw [joined_houses, List.filter_map, List.length_map]
 have h1 : (a.houses.filter fun x => x.plate != 0).length = (a.houses.filter ((fun x => x.plate != 0) ∘ jn a s t)).length + (a.houses.filter fun x => decide (x.street = t /\ x.gone = false) && goes a s x.side x).length := filter_split fun x hx => by
  show (x.plate != 0) = (((jn a s t x).plate != 0) || _) /\ (((jn a s t x).plate != 0) && _) = false
  unfold jn
  by_cases c : x.street = t /\ x.gone = false
  ·rw [if_pos c, decide_eq_true c]
   show (x.plate != 0) = ((if x.plate ≠ 0 /\ (a.has s x.side (x.plate - 1)).isSome = true then 0 else x.plate) != 0 || (true && goes a s x.side x)) /\ ((if x.plate ≠ 0 /\ (a.has s x.side (x.plate - 1)).isSome = true then 0 else x.plate) != 0 && (true && goes a s x.side x)) = false
   by_cases g : goes a s x.side x = true
   ·rw [if_pos (goes_iff.mp g), g]
    have := (goes_iff.mp g).1
    simp [this]
   ·rw [if_neg fun z => g (goes_iff.mpr z), Bool.eq_false_iff.mpr g]
    simp
  ·rw [if_neg c, decide_eq_false c]
   simp
 have h2 : (a.houses.filter fun x => decide (x.street = t /\ x.gone = false) && goes a s x.side x).length = (a.houses.filter fun x => alive t 0 x && goes a s 0 x).length + (a.houses.filter fun x => alive t 1 x && goes a s 1 x).length := filter_split fun x hx => by
  obtain ⟨k, hk⟩ := List.getElem?_of_mem hx
  by_cases c : x.street = t /\ x.gone = false
  ·have hs := (G.ho k x hk c.2).1
   rw [decide_eq_true c]
   by_cases e : x.side = 0
   ·have a0 : alive t 0 x = true := alive_iff.mpr ⟨c.2, c.1, e⟩
    have a1 : alive t 1 x = false := Bool.eq_false_iff.mpr fun z => by have := (alive_iff.mp z).2.2; omega
    rw [a0, a1, e]
    simp
   ·have e : x.side = 1 := by omega
    have a0 : alive t 0 x = false := Bool.eq_false_iff.mpr fun z => by have := (alive_iff.mp z).2.2; omega
    have a1 : alive t 1 x = true := alive_iff.mpr ⟨c.2, c.1, e⟩
    rw [a0, a1, e]
    simp
  ·have a0 : ∀ d, alive t d x = false := fun d => Bool.eq_false_iff.mpr fun z => c ⟨(alive_iff.mp z).2.1, (alive_iff.mp z).1⟩
   rw [decide_eq_false c, a0, a0]
   simp
 rw [h1, h2]
 omega
theorem half_good {a : Abs} (G : Good a) {s t : Nat} (J : Good (a.joined s t)) : GoodO (handed a s t 0) := by
 have key : ∀ (h : Nat) (x : House), (handed a s t 0).houses[h]? = some x -> ∃ w, a.houses[h]? = some w /\ x = if alive t 0 w = true then mvH a s 0 w else w := fun h x e => by
  have e : (a.houses.map _)[h]? = some x := e
  rw [List.getElem?_map] at e
  cases q : a.houses[h]? with
  | none => rw [q] at e; cases e
  | some w => rw [q] at e; exact ⟨w, rfl, (Option.some.inj e).symm⟩
 have jat : ∀ (h : Nat) (w : House), a.houses[h]? = some w -> (a.joined s t).houses[h]? = some (jn a s t w) := fun h w e => by
  rw [joined_houses, List.getElem?_map, e]
  rfl
 have s0 : ∀ w : House, w.gone = false -> w.side = 0 -> (if alive t 0 w = true then mvH a s 0 w else w) = jn a s t w := fun w g e => by
  by_cases c : alive t 0 w = true
  ·rw [if_pos c, mv_jn c]
  ·rw [if_neg c]
   unfold jn
   rw [if_neg]
   rintro ⟨h1, h2⟩
   exact c (alive_iff.mpr ⟨h2, h1, e⟩)
 have sd : ∀ w : House, (if alive t 0 w = true then mvH a s 0 w else w).side = w.side /\ (if alive t 0 w = true then mvH a s 0 w else w).gone = w.gone := fun w => by
  split <;> exact ⟨rfl, rfl⟩
 refine ⟨by show (a.houses.map _).length <= 40; rw [List.length_map]; exact G.hl, fun h i x y ex ey gx gy es ed ea => ?_, fun s' d' => ?_⟩
 ·obtain ⟨w, hw, rfl⟩ := key h x ex
  obtain ⟨v, hv, rfl⟩ := key i y ey
  rw [(sd w).2] at gx
  rw [(sd v).2] at gy
  rw [(sd w).1, (sd v).1] at ed
  by_cases c : w.side = 0
  ·rw [s0 w gx c, s0 v gy (ed.symm.trans c)] at es ea
   have jg : ∀ w : House, (jn a s t w).gone = w.gone /\ (jn a s t w).side = w.side := fun w => by unfold jn; split <;> exact ⟨rfl, rfl⟩
   exact J.di h i _ _ (jat h w hw) (jat i v hv) (by rw [(jg w).1]; exact gx) (by rw [(jg v).1]; exact gy) es (by rw [(jg w).2, (jg v).2]; exact ed) ea
  ·have e1 : ∀ w : House, w.side ≠ 0 -> (if alive t 0 w = true then mvH a s 0 w else w) = w := fun w c => if_neg fun z => c (alive_iff.mp z).2.2
   rw [e1 w c, e1 v (fun z => c (ed.trans z))] at es ea
   exact G.di h i _ _ hw hv gx gy es ed ea
 ·unfold cnt
  show ((a.houses.map fun x => if alive t 0 x = true then mvH a s 0 x else x).filter (alive s' d')).length <= 10
  rw [List.filter_map, List.length_map]
  by_cases c : d' = 0
  ·subst c
   have := J.ct s' 0
   unfold cnt at this
   rw [joined_houses, List.filter_map, List.length_map] at this
   have e : (a.houses.filter (alive s' 0 ∘ fun x => if alive t 0 x = true then mvH a s 0 x else x)) = a.houses.filter (alive s' 0 ∘ jn a s t) := List.filter_congr fun x hx => by
    show alive s' 0 (if alive t 0 x = true then mvH a s 0 x else x) = alive s' 0 (jn a s t x)
    by_cases g : x.gone = false
    ·by_cases z : x.side = 0
     ·rw [s0 x g z]
     ·have e1 : (jn a s t x).side = x.side := by unfold jn; split <;> rfl
      rw [Bool.eq_false_iff.mpr fun w => z ((sd x).1.symm.trans (alive_iff.mp w).2.2), Bool.eq_false_iff.mpr fun w => z (e1.symm.trans (alive_iff.mp w).2.2)]
    ·have e1 : (jn a s t x).gone = x.gone := by unfold jn; split <;> rfl
     rw [Bool.eq_false_iff.mpr fun w => g ((sd x).2.symm.trans (alive_iff.mp w).1), Bool.eq_false_iff.mpr fun w => g (e1.symm.trans (alive_iff.mp w).1)]
   rw [e]
   exact this
  ·have := G.ct s' d'
   unfold cnt at this
   have e : (a.houses.filter (alive s' d' ∘ fun x => if alive t 0 x = true then mvH a s 0 x else x)) = a.houses.filter (alive s' d') := List.filter_congr fun x hx => alive_mv fun z => c z.symm
   rw [e]
   exact this
end Hn
namespace Hn
open PySem PySem.Spec PyProof.Rows L2
theorem scOf {N P : List Str} {sc : Scope} (a : sc.kind = .function := by rfl) (b : sc.isCoroutine = false := by rfl) (c : sc.isGenerator = false := by rfl) (d : N.Nodup := by decide +kernel) (e : N.take P.length = P := by rfl) (f : ∀ x ∈ P, sc.names.lookup x = some .local ∨ sc.names.lookup x = some .cell := by decide +kernel) (g : ∀ y ∈ sc.names, y.2 ≠ .free := by decide +kernel) : FnScope N P sc := ⟨a, b, c, d, e, f, g⟩
theorem sz1 : 1 <= sizeLine := by decide
theorem sz2 : 2 <= sizeLine := by decide
theorem sz3 : 3 <= sizeLine := by decide
theorem sz8 : 2 <= 8 := by decide
theorem sq6 : 6 < 1000 := by decide
abbrev Frag := PySem.W.Frag
def top (i : Nat) : Stmt := PySem.Challenge.pw_housenumbers_s01_answers.main.body.getD i (.Pass ⟨0, 0, 0, 0⟩)
def Def (K : Frag) (mg : Str -> Option Value) (x : Str) (st : Stmt) (ps : List Str) : Prop := ∃ f fd, mg x = some (.ref f) /\ Fun K x x st f fd /\ Binds K fd ps []
def Ok (P : Program) (w : World) (K : Frag) (mg : Str -> Option Value) (base : Heap) (k : Nat) (x : Str) (ps : List Str) (sp : Sp) : Prop := ∃ f fd, mg x = some (.ref f) /\ PySem.W.keepIn K (.ref f) = true /\ Binds K fd ps [] /\ FnOk P w K mg base CX0 k f fd ps sp
theorem Ok.mono {P : Program} {w : World} {K : Frag} {mg : Str -> Option Value} {base : Heap} {j k : Nat} {x : Str} {ps : List Str} {sp : Sp} (o : Ok P w K mg base j x ps sp) (h : j <= k) : Ok P w K mg base k x ps sp :=
 let ⟨f, fd, h1, h2, h3, h4⟩ := o; ⟨f, fd, h1, h2, h3, h4.mono h⟩
theorem Def.ok {P : Program} {w : World} {K : Frag} {mg : Str -> Option Value} {base : Heap} {x : Str} {st : Stmt} {N ps : List Str} {k : Nat} {sp : Sp} (D : Def K mg x st ps) (S : FnScope N ps (defScope st)) (len : ∀ vs H Q E, sp vs H Q E -> vs.length = ps.length)
  (hbody : ∀ (f : Addr) (cdv : Value) (A : Around) (outer : List Env) (s : Shared) (H : Hp) (vs : List V) (Q : VK) (E : XK), Room k (A.deeper (envOfC x (defScope st) s.heap.objs.size f cdv)) -> sp vs H Q E ->
   ∃ t, PSs (cxOf CX0 P w K mg base N x (defScope st) f cdv A outer s H E).nox (defBody st) t /\ t { nx := fun _ H' => Q .non H', rt := Q } (start N vs) H) : Ok P w K mg base (k + 1) x ps sp := by
 obtain ⟨f, fd, h1, F, hb⟩ := D
 exact ⟨f, fd, h1, F.kp, hb, F.ok S len fun cdv A outer s H vs Q E hr h => hbody f cdv A outer s H vs Q E hr h⟩
section
variable {X : Cx} {k : Nat} {x : Str} {ps : List Str} {sp : Sp} {p pos : Pos} {e : Expr} {es : List Expr} {t : TA}
theorem pe_ok (o : Ok X.prog X.w X.K X.mg X.base k x ps sp) (hr : Room k X.A) (hg : Gl X x) (ha : PA X (e :: es) t) (hdb : (x == ("__debug__" : Str)) = false := by decide)
  (he : starEach (e :: es) X.env = (false, eval e X.env) :: starEach es X.env := by rfl) (hpl : (backTo pos (starEach es X.env)).any (·.1) = false := by rfl) : PE X (.Call (.Name x p) (e :: es) [] pos) (tCall sp [] E0 t) := by
 obtain ⟨f, fd, h1, h2, h3, h4⟩ := o
 exact pe_call h4 hr hg h1 h2 h3 .nil pass0 ha hdb he hpl
theorem pe_ok0 (o : Ok X.prog X.w X.K X.mg X.base k x ps sp) (hr : Room k X.A) (hg : Gl X x) (hdb : (x == ("__debug__" : Str)) = false := by decide) : PE X (.Call (.Name x p) [] [] pos) (tCall sp [] E0 tNil) := by
 obtain ⟨f, fd, h1, h2, h3, h4⟩ := o
 exact pe_call0 h4 hr hg h1 h2 h3 .nil pass0 hdb
end
def Num (mg : Str -> Option Value) (x : Str) (n : Int) : Prop := ∃ t, mg x = some (.int n t)
theorem pe_num {X : Cx} {x : Str} {n : Int} {pos : Pos} (h : Num X.mg x n) (hg : Gl X x) (hd : (x == ("__debug__" : Str)) = false := by decide) : PE X (.Name x pos) (tC (.int n)) := by
 obtain ⟨t, h⟩ := h
 exact pe_glob hg h ⟨t, rfl⟩ hd
abbrev sLeast : Stmt := top 5
abbrev sOfSide : Stmt := top 6
abbrev sIsPlate : Stmt := top 7
abbrev sPlatesOf : Stmt := top 8
abbrev sRankOf : Stmt := top 9
abbrev sPlateAt : Stmt := top 10
section
variable {P : Program} {w : World} {K : Frag} {mg : Str -> Option Value} {base : Heap}
def spLeast : Sp := fun vs H Q _ => ∃ d, vs = [.int d] /\ Q (.int (d + 1)) H
theorem scLeast : FnScope ["side"] ["side"] (defScope sLeast) := scOf
theorem ok_least (D : Def K mg "least_number" sLeast ["side"]) : Ok P w K mg base 1 "least_number" ["side"] spLeast := by
 refine D.ok scLeast (fun vs H Q E h => ?_) fun f cdv A outer s H vs Q E hr h => ?_
 ·obtain ⟨d, rfl, _⟩ := h; rfl
 ·obtain ⟨d, rfl, q⟩ := h
  refine ⟨_, pss_one (ps_ret (pe_op op_add (pv 0) pe_int)), ?_⟩
  exact ⟨_, rfl, _, _, rfl, rfl, q⟩
def spOfSide : Sp := fun vs H Q _ => ∃ n d, vs = [.int n, .int d] /\ Q (.bl (!decide (n % 2 = d))) H
theorem scOfSide : FnScope ["number", "side"] ["number", "side"] (defScope sOfSide) := scOf
theorem ok_ofSide (D : Def K mg "is_of_side" sOfSide ["number", "side"]) : Ok P w K mg base 1 "is_of_side" ["number", "side"] spOfSide := by
 refine D.ok scOfSide (fun vs H Q E h => ?_) fun f cdv A outer s H vs Q E hr h => ?_
 ·obtain ⟨n, d, rfl, _⟩ := h; rfl
 ·obtain ⟨n, d, rfl, q⟩ := h
  refine ⟨_, pss_one (ps_ret (pe_cmpR op_ne (pe_op op_mod (pv 0) pe_int) (pv 1) rfl)), ?_⟩
  refine ⟨_, rfl, _, _, rfl, rfl, (by show (0 : Int) < 2; decide), _, rfl, rfl, ?_⟩
  show Q (.bl (!decide (V.int (n % 2) = V.int d))) H
  rw [show decide (V.int (n % 2) = V.int d) = decide (n % 2 = d) by simp]
  exact q
def spIsPlate : Sp := fun vs H Q _ => ∃ n l, vs = [.int n, .int l] /\ Q (.bl (decide (1 <= n /\ n <= 999 /\ l <= 26))) H
theorem scIsPlate : FnScope ["number", "letter"] ["number", "letter"] (defScope sIsPlate) := scOf
theorem ok_isPlate (D : Def K mg "is_plate" sIsPlate ["number", "letter"]) (g1 : Num mg "LAST_NUMBER" 999) (g2 : Num mg "LAST_LETTER" 26) : Ok P w K mg base 1 "is_plate" ["number", "letter"] spIsPlate := by
 refine D.ok scIsPlate (fun vs H Q E h => ?_) fun f cdv A outer s H vs Q E hr h => ?_
 ·obtain ⟨n, d, rfl, _⟩ := h; rfl
 ·obtain ⟨n, l, rfl, q⟩ := h
  refine ⟨_, pss_one (ps_ret (pe_and (pe_cmpR op_le pe_int (pv 0) rfl) (pe_and (pe_cmpR op_le (pv 0) (pe_num g1 rfl) rfl) (pe_one (pe_cmpR op_le (pv 1) (pe_num g2 rfl) rfl))))), ?_⟩
  refine ⟨_, rfl, _, _, rfl, rfl, _, rfl, ?_⟩
  refine ite2 (fun h1 => ?_) fun h1 => ?_
  ·have h1 : 1 <= n := of_decide_eq_true h1
   refine ⟨_, rfl, _, _, rfl, rfl, _, rfl, ?_⟩
   refine ite2 (fun h2 => ?_) fun h2 => ?_
   ·have h2 : n <= 999 := of_decide_eq_true h2
    refine ⟨_, rfl, _, _, rfl, rfl, ?_⟩
    rw [show decide (1 <= n /\ n <= 999 /\ l <= 26) = decide (l <= 26) by simp [h1, h2]] at q
    exact q
   ·have h2 : ¬ n <= 999 := fun z => h2 (decide_eq_true z)
    rw [show decide (1 <= n /\ n <= 999 /\ l <= 26) = false by simp [h2]] at q
    exact q
  ·have h1 : ¬ 1 <= n := fun z => h1 (decide_eq_true z)
   rw [show decide (1 <= n /\ n <= 999 /\ l <= 26) = false by simp [h1]] at q
   exact q
def spPlatesOf : Sp := fun vs H Q _ => ∃ d : Int, vs = [.int d] /\ (d = 0 ∨ d = 1) /\ Q (.int ((Su54.top d.toNat : Nat) + 1)) H
theorem scPlatesOf : FnScope ["side", "numbers"] ["side"] (defScope sPlatesOf) := scOf
theorem ok_platesOf (D : Def K mg "plates_of_side" sPlatesOf ["side"]) (g1 : Num mg "LAST_NUMBER" 999) (g2 : Num mg "PLATES_A_NUMBER" 27) (o1 : Ok P w K mg base 1 "least_number" ["side"] spLeast) : Ok P w K mg base 2 "plates_of_side" ["side"] spPlatesOf := by
 refine D.ok scPlatesOf (fun vs H Q E h => ?_) fun f cdv A outer s H vs Q E hr h => ?_
 ·obtain ⟨d, rfl, _⟩ := h; rfl
 ·obtain ⟨d, rfl, hd, q⟩ := h
  refine ⟨_, pss_cons (ps_set (i := 1) scPlatesOf.nd rfl (Or.inl rfl) (pe_op op_add (pe_op op_fdiv (pe_op op_sub (pe_num g1 rfl) (pe_ok o1 hr rfl (pa_cons (pv 0) pa_nil))) pe_int) pe_int)) (pss_one (ps_ret (pe_op op_mul (pv 1) (pe_num g2 rfl)))), ?_⟩
  refine ⟨_, rfl, d, rfl, _, _, rfl, rfl, _, _, rfl, rfl, ⟨by decide, by decide⟩, _, _, rfl, rfl, ?_⟩
  refine ⟨_, rfl, _, _, rfl, rfl, .inr ⟨by decide, by decide⟩, ?_⟩
  rcases hd with rfl | rfl
  ·exact q
  ·exact q
def spRankOf (K : Frag) : Sp := fun vs H Q _ => ∃ (p : Addr) (n l : Int), vs = [.ref p] /\ SqT K H p [.int n, .int l] /\ 0 <= n /\ n <= 4294967295 /\ Q (.int ((n - 1) / 2 * 27 + l)) H
theorem scRankOf : FnScope ["plate"] ["plate"] (defScope sRankOf) := scOf
theorem ok_rankOf (D : Def K mg "rank_of" sRankOf ["plate"]) (g2 : Num mg "PLATES_A_NUMBER" 27) : Ok P w K mg base 1 "rank_of" ["plate"] (spRankOf K) := by
 refine D.ok scRankOf (fun vs H Q E h => ?_) fun f cdv A outer s H vs Q E hr h => ?_
 ·obtain ⟨p, n, l, rfl, _⟩ := h; rfl
 ·obtain ⟨p, n, l, rfl, ht, h1, h2, q⟩ := h
  refine ⟨_, pss_one (ps_ret (pe_op op_add (pe_op op_mul (pe_op op_fdiv (pe_op op_sub (pe_ix ix_tup (pv 0) pe_int (fun _ _ => rfl)) pe_int) pe_int) (pe_num g2 rfl)) (pe_ix ix_tup (pv 0) pe_int (fun _ _ => rfl)))), ?_⟩
  refine ⟨_, rfl, p, _, _, _, rfl, rfl, ht, rfl, _, _, rfl, rfl, _, _, rfl, rfl, ⟨by decide, by decide⟩, _, _, rfl, rfl, .inr ⟨by decide, by decide⟩, _, rfl, p, _, _, _, rfl, rfl, ht, rfl, _, _, rfl, rfl, q⟩
def spPlateAt : Sp := fun vs H Q _ => ∃ (d r : Int), vs = [.int d, .int r] /\ 0 <= r /\ r <= 4294967295 /\ ∀ p, H p = none -> Q (.ref p) (upd H p (.tup [.int (d + 1 + r / 27 * 2), .int (r % 27)]))
theorem scPlateAt : FnScope ["side", "rank"] ["side", "rank"] (defScope sPlateAt) := scOf
theorem ok_plateAt (D : Def K mg "plate_at" sPlateAt ["side", "rank"]) (g2 : Num mg "PLATES_A_NUMBER" 27) (o1 : Ok P w K mg base 1 "least_number" ["side"] spLeast) : Ok P w K mg base 2 "plate_at" ["side", "rank"] spPlateAt := by
 refine D.ok scPlateAt (fun vs H Q E h => ?_) fun f cdv A outer s H vs Q E hr h => ?_
 ·obtain ⟨d, r, rfl, _⟩ := h; rfl
 ·obtain ⟨d, r, rfl, h1, h2, q⟩ := h
  refine ⟨_, pss_one (ps_ret (pe_tup (pa_cons (pe_op op_add (pe_ok o1 hr rfl (pa_cons (pv 0) pa_nil)) (pe_op op_mul (pe_op op_fdiv (pv 1) (pe_num g2 rfl)) pe_int)) (pa_cons (pe_op op_mod (pv 1) (pe_num g2 rfl)) pa_nil)))), ?_⟩
  exact ⟨_, rfl, d, rfl, _, rfl, _, _, rfl, rfl, ⟨by decide, by decide⟩, _, _, rfl, rfl, .inr ⟨by decide, by decide⟩, _, _, rfl, rfl, _, rfl, _, _, rfl, rfl, (by show (0 : Int) < 27; decide), sz2, q⟩
end
def numOf (x : Su54.House) : Int := if x.plate = 0 then 0 else (Su54.number x.side (x.plate - 1) : Nat)
def letOf (x : Su54.House) : Int := if x.plate = 0 then 0 else (Su54.letter (x.plate - 1) : Nat)
theorem told_eq (x : Su54.House) : (Su54.told x).map (fun n : Nat => (n : Int)) = [numOf x, letOf x] := by
 unfold Su54.told numOf letOf
 split <;> rfl
def hf (ser st sd at_ : Int) (pl : Addr) (b : Bool) : List (Str × V) := [("serial", .int ser), ("street", .int st), ("side", .int sd), ("metre", .int at_), ("plate", .ref pl), ("stands", .bl b)]
def sf (n m : Int) (b : Bool) : List (Str × V) := [("name", .int n), ("metres", .int m), ("gone", .bl b)]
def tf (b : Bool) (ls lh : Addr) : List (Str × V) := [("begun", .bl b), ("streets", .ref ls), ("houses", .ref lh)]
def StreetAt (CS : Addr) (H : Hp) (p : Addr) (x : Su54.Street) : Prop := ∃ dx n m, H p = some (.ins CS dx (sf n m (x.name == 0))) /\ (x.name ≠ 0 -> n = x.name /\ m = x.metres) /\ (x.name = 0 -> x.metres = 0)
theorem StreetAt.go {CS : Addr} {H H' : Hp} {p : Addr} {x : Su54.Street} (h : StreetAt CS H p x) (k : ∀ dx fs, H p = some (.ins CS dx fs) -> H' p = some (.ins CS dx fs)) : StreetAt CS H' p x :=
 let ⟨dx, n, m, h1, h2, h3⟩ := h
 ⟨dx, n, m, k _ _ h1, h2, h3⟩
def HouseAt (K : Frag) (CH : Addr) (H : Hp) (i : Nat) (p : Addr) (x : Su54.House) : Prop := ∃ dx pl st sd at_, H p = some (.ins CH dx (hf i st sd at_ pl (!x.gone))) /\
 (x.gone = false -> st = x.street /\ sd = x.side /\ at_ = x.at_ /\ SqT K H pl [.int (numOf x), .int (letOf x)])
structure TownR (K : Frag) (CT CS CH : Addr) (H : Hp) (T : Addr) (a : Su54.Abs) (b : Bool) (l1 l2 : Addr) (ss hs : List Addr) : Prop where
 tw : ∃ dT, H T = some (.ins CT dT (tf b l1 l2))
 ls : H l1 = some (.lst (ss.map V.ref))
 lh : H l2 = some (.lst (hs.map V.ref))
 sn : ss.Nodup
 hn : hs.Nodup
 sl : ss.length = a.streets.length
 hl : hs.length = a.houses.length
 st : ∀ (i : Nat) (p : Addr) (x : Su54.Street), ss[i]? = some p -> a.streets[i]? = some x -> StreetAt CS H p x
 ho : ∀ (i : Nat) (p : Addr) (x : Su54.House), hs[i]? = some p -> a.houses[i]? = some x -> HouseAt K CH H i p x
 ne : l1 ≠ l2
structure Cl (K : Frag) (CT CS CH : Addr) : Prop where
 t : Cls K CT
 s : Cls K CS
 h : Cls K CH
 tn : ∀ f ∈ (["begun", "streets", "houses"] : List Str), NoAttr K CT f
 sn : ∀ f ∈ (["name", "metres", "gone"] : List Str), NoAttr K CS f
 hn : ∀ f ∈ (["serial", "street", "side", "metre", "plate", "stands"] : List Str), NoAttr K CH f
def Ext (H H' : Hp) : Prop := (∀ b u, H b = some u -> (∀ ps, u ≠ .tbl ps) -> H' b = some u) /\ ∀ b, H' b = none -> H b = none
theorem Ext.refl (H : Hp) : Ext H H := ⟨fun _ _ e _ => e, fun _ e => e⟩
theorem Ext.trans {H H1 H2 : Hp} (a : Ext H H1) (b : Ext H1 H2) : Ext H H2 := ⟨fun c u e n => b.1 c u (a.1 c u e n) n, fun c e => a.2 c (b.2 c e)⟩
theorem Ext.of {P : Addr} {H H' : Hp} (h : ∀ b u, H b = some u -> b ≠ P -> H' b = some u) (hP : ∃ ps, H P = some (.tbl ps)) (hP' : ∃ ps, H' P = some (.tbl ps)) : Ext H H' := by
 refine ⟨fun b u e n => h b u e fun z => ?_, fun b e => ?_⟩
 ·obtain ⟨ps, q⟩ := hP
  rw [z, q] at e
  cases e
  exact n _ rfl
 ·cases z : H b with
  | none => rfl
  | some u =>
   by_cases hb : b = P
   ·obtain ⟨ps, q⟩ := hP'
    rw [hb, q] at e
    cases e
   ·rw [h b u z hb] at e
    cases e
theorem Ext.upd {H : Hp} {D : Addr} {o : HO} (h : H D = none) : Ext H (upd H D o) := by
 refine ⟨fun b u e _ => by rw [upd_ne (ne_of_none e h)]; exact e, fun b e => ?_⟩
 by_cases z : b = D
 ·rw [z]; exact h
 ·rw [upd_ne z] at e; exact e
theorem Ext.same {H H' : Hp} (s : Same H H') : Ext H H' := ⟨fun b u e _ => s b u e, fun b e => s.free e⟩
theorem Ext.seqT {K : Frag} {H H' : Hp} {a : Addr} {xs : List V} (e : Ext H H') (h : SqT K H a xs) : SqT K H' a xs := by
 rcases h with (h | ⟨o, h⟩) | h
 ·exact .inl (.inl (e.1 _ _ h fun _ z => by cases z))
 ·exact .inl (.inr ⟨o, e.1 _ _ h fun _ z => by cases z⟩)
 ·exact .inr h
theorem Ext.seqL {K : Frag} {H H' : Hp} {a : Addr} {xs : List V} (e : Ext H H') (h : SqL K H a xs) : SqL K H' a xs := by
 rcases h with (h | ⟨o, h⟩) | h
 ·exact .inl (.inl (e.1 _ _ h fun _ z => by cases z))
 ·exact .inl (.inr ⟨o, e.1 _ _ h fun _ z => by cases z⟩)
 ·exact .inr h
theorem HouseAt.ext {K : Frag} {CH : Addr} {H H' : Hp} {i : Nat} {p : Addr} {x : Su54.House} (h : HouseAt K CH H i p x) (e : Ext H H') : HouseAt K CH H' i p x := by
 obtain ⟨dx, pl, st, sd, at_, h1, h2⟩ := h
 exact ⟨dx, pl, st, sd, at_, e.1 _ _ h1 (fun _ z => by cases z), fun g => let ⟨a, b, c, d⟩ := h2 g; ⟨a, b, c, e.seqT d⟩⟩
theorem TownR.ext {K : Frag} {CT CS CH : Addr} {H H' : Hp} {T : Addr} {a : Su54.Abs} {b : Bool} {ls lh : Addr} {ss hs : List Addr} (R : TownR K CT CS CH H T a b ls lh ss hs) (e : Ext H H') : TownR K CT CS CH H' T a b ls lh ss hs := by
 obtain ⟨dT, h1⟩ := R.tw
 refine ⟨⟨dT, e.1 _ _ h1 (fun _ z => by cases z)⟩, e.1 _ _ R.ls (fun _ z => by cases z), e.1 _ _ R.lh (fun _ z => by cases z), R.sn, R.hn, R.sl, R.hl, fun i p x h2 h3 => ?_, fun i p x h2 h3 => (R.ho i p x h2 h3).ext e, R.ne⟩
 exact (R.st i p x h2 h3).go fun dx fs h4 => e.1 _ _ h4 (fun _ z => by cases z)
theorem TownR.house {K : Frag} {CT CS CH : Addr} {H : Hp} {T : Addr} {a : Su54.Abs} {b : Bool} {ls lh : Addr} {ss hs : List Addr} (R : TownR K CT CS CH H T a b ls lh ss hs) {i : Nat} {p : Addr} (h : hs[i]? = some p) : ∃ x, a.houses[i]? = some x /\ a.house i = x /\ HouseAt K CH H i p x := by
 have hi : i < a.houses.length := by rw [<- R.hl]; exact (List.getElem?_eq_some_iff.mp h).1
 have e : a.houses[i]? = some a.houses[i] := List.getElem?_eq_getElem hi
 exact ⟨_, e, house_of e, R.ho i p _ h e⟩
theorem getD_at {α : Type} {l : List α} {i : Nat} {x d : α} (h : l[i]? = some x) : l.getD i d = x := by rw [List.getD_eq_getElem?_getD, h]; rfl
theorem zip_two {α β γ : Type} (f : α -> β) (g : α -> γ) : ∀ l : List α, (l.map f).zip (l.map g) = l.map fun j => (f j, g j)
 | [] => rfl
 | _ :: l => by rw [List.map_cons, List.map_cons, List.zip_cons_cons, zip_two f g l, List.map_cons]
theorem order_out {a : Su54.Abs} (G : GoodO a) {hs : List Addr} (hn : hs.Nodup) (hl : hs.length = a.houses.length) {s d : Nat} {ys : List (Int × Addr)}
  (hp : ys.Perm (((here a s d).map fun j => ((a.house j).at_ : Int)).zip ((here a s d).map fun j => hs.getD j 0))) (hw : ys.Pairwise (fun p q => p.1 <= q.1)) : ys.map (·.2) = (a.side s d).map fun j => hs.getD j 0 := by
 have ez : ((here a s d).map fun j => ((a.house j).at_ : Int)).zip ((here a s d).map fun j => hs.getD j 0) = (here a s d).map fun j => (((a.house j).at_ : Int), hs.getD j 0) := by
  exact zip_two _ _ _
 rw [ez] at hp
 have ix : ∀ j ∈ here a s d, hs.idxOf (hs.getD j 0) = j := fun j hj => by
  have h1 := (mem_here.mp hj).1
  have h2 : j < hs.length := by omega
  rw [getD_at (List.getElem?_eq_getElem h2)]
  exact hn.idxOf_getElem _ h2
 have key : ∀ p ∈ ys, ∃ j ∈ here a s d, p = (((a.house j).at_ : Int), hs.getD j 0) := fun p h => by
  obtain ⟨j, hj, e⟩ := List.mem_map.mp (hp.mem_iff.mp h)
  exact ⟨j, hj, e.symm⟩
 have p1 : (ys.map fun p => hs.idxOf p.2).Perm (here a s d) := by
  have := hp.map fun p => hs.idxOf p.2
  rw [List.map_map] at this
  refine this.trans (List.Perm.of_eq ?_)
  exact (List.map_congr_left fun j hj => ix j hj).trans (List.map_id _)
 have p2 : (ys.map fun p => hs.idxOf p.2) = a.side s d := by
  refine sort_one (k := fun j => (a.house j).at_) (p1.trans (side_perm a s d).symm) ?_ (side_sorted a s d) fun x hx y hy e => ?_
  ·rw [List.pairwise_map]
   refine hw.imp_of_mem fun {p q} mp mq h => ?_
   obtain ⟨i, hi, rfl⟩ := key p mp
   obtain ⟨j, hj, rfl⟩ := key q mq
   show (a.house _).at_ <= (a.house _).at_
   rw [ix i hi, ix j hj]
   have h : ((a.house i).at_ : Int) <= (a.house j).at_ := h
   omega
  ·have mx := mem_here.mp (p1.mem_iff.mp hx)
   have my := mem_here.mp (p1.mem_iff.mp hy)
   have e1 : a.houses[x]? = some a.houses[x] := List.getElem?_eq_getElem mx.1
   have e2 : a.houses[y]? = some a.houses[y] := List.getElem?_eq_getElem my.1
   rw [house_of e1] at mx e
   rw [house_of e2] at my e
   exact G.di x y _ _ e1 e2 mx.2.1 my.2.1 (by rw [mx.2.2.1, my.2.2.1]) (by rw [mx.2.2.2, my.2.2.2]) e
 rw [<- p2, List.map_map]
 refine List.map_congr_left fun p hp' => ?_
 obtain ⟨j, hj, rfl⟩ := key p hp'
 show hs.getD j 0 = hs.getD (hs.idxOf (hs.getD j 0)) 0
 rw [ix j hj]
theorem here_eq (a : Su54.Abs) (s d : Nat) : here a s d = (List.range a.houses.length).filter fun j => alive s d (a.house j) := by
 unfold here Su54.Abs.hs
 rw [List.filter_filter]
 congr 1
 funext i
 show ((((a.house i).street == s) && ((a.house i).side == d)) && !(a.house i).gone) = (!(a.house i).gone && (((a.house i).street == s) && ((a.house i).side == d)))
 exact Bool.and_comm _ _
def upTo (a : Su54.Abs) (s d i : Nat) : List Nat := (List.range i).filter fun j => alive s d (a.house j)
theorem upTo_succ (a : Su54.Abs) (s d i : Nat) : upTo a s d (i + 1) = if alive s d (a.house i) = true then upTo a s d i ++ [i] else upTo a s d i := by
 unfold upTo
 rw [List.range_succ, List.filter_append, List.filter_cons, List.filter_nil]
 split
 ·rfl
 ·exact List.append_nil _
theorem upTo_len (a : Su54.Abs) (s d i : Nat) : (upTo a s d i).length <= i := by
 unfold upTo
 exact Nat.le_trans (List.length_filter_le _ _) (by rw [List.length_range]; exact Nat.le_refl _)
abbrev sOrd : Stmt := top 28
def lamPos (st : Stmt) : Pos := match defBody st with
 | [_, .Return (some (.Call _ _ [⟨_, .Lambda _ _ _ p, _⟩] _)) _] => p
 | _ => ⟨0, 0, 0, 0⟩
abbrev lpo : Pos := lamPos sOrd
abbrev lqu : Str := (("houses_in_order" : Str) ++ (".<locals>." : Str)) ++ ("<lambda>" : Str)
abbrev sNear : Stmt := top 74
def lamPos1 (st : Stmt) : Pos := match defBody st with
 | [.Return (some (.Call _ _ [⟨_, .Lambda _ _ _ p, _⟩] _)) _] => p
 | _ => ⟨0, 0, 0, 0⟩
abbrev lpn : Pos := lamPos1 sNear
abbrev lqn : Str := (("nearest" : Str) ++ (".<locals>." : Str)) ++ ("<lambda>" : Str)
def tbN : Addr := 371
def LT (TB : Addr) (H : Hp) : Prop := LamTab TB lpo lqu H /\ LamTab tbN lpn lqn H
def tabby : HO -> Prop
 | .tbl _ => True
 | .ext _ => True
 | _ => False
theorem lamTab_go {P : Addr} {pos : Pos} {qual : Str} {H H' : Hp} (h : LamTab P pos qual H) (k : ∀ b u, H b = some u -> tabby u -> H' b = some u) : LamTab P pos qual H' := by
 rcases h with h | ⟨c, h, φ, h2, h3⟩
 ·exact .inl (k _ _ h trivial)
 ·exact .inr ⟨c, k _ _ h trivial, φ, k _ _ h2 trivial, h3⟩
theorem LT.go {TB : Addr} {H H' : Hp} (h : LT TB H) (k : ∀ b u, H b = some u -> tabby u -> H' b = some u) : LT TB H' := ⟨lamTab_go h.1 k, lamTab_go h.2 k⟩
theorem lamTab_tbl {P : Addr} {pos : Pos} {qual : Str} {H : Hp} (h : LamTab P pos qual H) : ∃ ps, H P = some (.tbl ps) := by
 rcases h with h | ⟨_, h, _⟩
 ·exact ⟨_, h⟩
 ·exact ⟨_, h⟩
theorem LT.upd {TB : Addr} {H : Hp} {D : Addr} {o : HO} (h : LT TB H) (hD : H D = none) : LT TB (upd H D o) := h.go fun b u e _ => by rw [upd_ne (ne_of_none e hD)]; exact e
def refs (hs : List Addr) (l : List Nat) : List V := (l.map fun j => hs.getD j 0).map V.ref
def spOrdW (K : Frag) (CT CS CH TB : Addr) : Sp := fun vs H Q _ => ∃ (T : Addr) (s d : Int) (a : Su54.Abs) (b : Bool) (ls lh : Addr) (ss hs : List Addr), vs = [.ref T, .int s, .int d] /\ TownR K CT CS CH H T a b ls lh ss hs /\ GoodO a /\ LT TB H /\ 0 <= s /\ 0 <= d /\
 ∀ (H' : Hp) (D : Addr), Ext H H' -> LT TB H' -> H D = none -> H' D = some (.lst (refs hs (a.side s.toNat d.toNat))) -> Q (.ref D) H'
def spOrd (K : Frag) (CT CS CH TB : Addr) : Sp := fun vs H Q _ => ∃ (T : Addr) (s d : Int) (a : Su54.Abs) (b : Bool) (ls lh : Addr) (ss hs : List Addr), vs = [.ref T, .int s, .int d] /\ TownR K CT CS CH H T a b ls lh ss hs /\ Good a /\ LT TB H /\ 0 <= s /\ 0 <= d /\
 ∀ (H' : Hp) (D : Addr), Ext H H' -> LT TB H' -> H D = none -> H' D = some (.lst (refs hs (a.side s.toNat d.toNat))) -> Q (.ref D) H'
section
variable {P : Program} {w : World} {K : Frag} {mg : Str -> Option Value} {base : Heap} {CT CS CH TB : Addr}
theorem scOrd : FnScope ["town", "s", "d", "there", "house"] ["town", "s", "d"] (defScope sOrd) := scOf
def DefC (K : Frag) (mg : Str -> Option Value) (x : Str) (st : Stmt) (ps : List Str) (c : Addr) : Prop := ∃ (f : Addr) (oc : Value) (od an : Option Addr) (osl : Array (Option Value)) (kV doc pm ct : Value), mg x = some (.ref f) /\
 K.lookup f = some ⟨oc, od, .func (PySem.W.fnOf x x (defArgs st) (defBody st) (defScope st) .none kV doc pm an (.ref c) ct), osl⟩ /\ PySem.W.codeIn K (.ref c) x = true /\ PySem.W.keepIn K (.ref f) = true /\ Binds K (PySem.W.fnOf x x (defArgs st) (defBody st) (defScope st) .none kV doc pm an (.ref c) ct) ps []
theorem DefC.ok {x : Str} {st : Stmt} {N ps : List Str} {k : Nat} {sp : Sp} {c : Addr} (D : DefC K mg x st ps c) (S : FnScope N ps (defScope st)) (len : ∀ vs H Q E, sp vs H Q E -> vs.length = ps.length)
  (hbody : ∀ (f : Addr) (A : Around) (outer : List Env) (s : Shared) (H : Hp) (vs : List V) (Q : VK) (E : XK), Room k (A.deeper (envOfC x (defScope st) s.heap.objs.size f (.ref c))) -> sp vs H Q E ->
   ∃ t, PSs (cxOf CX0 P w K mg base N x (defScope st) f (.ref c) A outer s H E).nox (defBody st) t /\ t { nx := fun _ H' => Q .non H', rt := Q } (start N vs) H) : Ok P w K mg base (k + 1) x ps sp := by
 obtain ⟨f, oc, od, an, osl, kV, doc, pm, ct, h1, h2, h3, h4, h5⟩ := D
 refine ⟨f, _, h1, h4, h5, fn_of h2 h3 S len fun A outer s H vs Q E hr hsp => ?_⟩
 obtain ⟨t, h, q⟩ := hbody f A outer s H vs Q E hr hsp
 exact ⟨t, h.nox, q⟩
theorem pe_fldK {X : Cx} {e : Expr} {f : Str} {pos : Pos} {ta : TE} (K : Frag) (hK : X.K = K) (he : PE X e ta) (hb : attributeBase e f X.env (eval e X.env) = eval e X.env) : PE X (.Attribute e f pos) (tFld K ta f) := by subst hK; exact pe_fld he hb
theorem pts_and3 {X : Cx} {a b c : Expr} {pos : Pos} {t1 t2 t3 : TT} (h1 : PT X a t1) (h2 : PT X b t2) (h3 : PT X c t3) : PTs X [.BoolOp .And [a, b, c] pos] (tAnd t1 (tAnd t2 t3)) := pts_one (PW.pt (pw_and h1 (pw_and h2 (pw_and1 h3))))
theorem upd_upd {H : Hp} {D : Addr} {x y : HO} : upd (upd H D x) D y = upd H D y := by
 funext b
 unfold upd
 split <;> rfl
theorem refs_snoc {hs : List Addr} {l : List Nat} {i : Nat} {p : Addr} (h : hs[i]? = some p) : refs hs (l ++ [i]) = refs hs l ++ [V.ref p] := by
 unfold refs
 rw [List.map_append, List.map_append, List.map_singleton, getD_at h]
 rfl
theorem refs_len (hs : List Addr) (l : List Nat) : (refs hs l).length = l.length := by unfold refs; rw [List.length_map, List.length_map]
theorem small40 {n : Nat} (h : n <= 40) : n < sizeLine := Nat.lt_of_le_of_lt h (by decide)
theorem dec_V {a b : Int} : decide (V.int a = V.int b) = decide (a = b) := by simp
theorem ok_ordW {c : Addr} (D : DefC K mg "houses_in_order" sOrd ["town", "s", "d"] c) (hc : PySem.W.codeHdIn K c TB = true) (bm : BMx mg base) (cl : Cl K CT CS CH) (hso : mg "sorted" = none) (hne : TB ≠ tbN) : Ok P w K mg base 2 "houses_in_order" ["town", "s", "d"] (spOrdW K CT CS CH TB) := by
 refine D.ok scOrd (fun vs H Q E h => ?_) fun f A outer s0 H vs Q E hr h => ?_
 ·obtain ⟨T, s, d, a, b, ls, lh, ss, hs, rfl, _⟩ := h; rfl
 ·obtain ⟨T, s, d, a, b, ls, lh, ss, hs, rfl, R, G, lt, h0s, h0d, q⟩ := h
  have LC : LamCx (cxOf CX0 P w K mg base ["town", "s", "d", "there", "house"] "houses_in_order" (defScope sOrd) f (.ref c) A outer s0 H E).nox c TB := ⟨rfl, hc, bm⟩
  refine ⟨_, pss_cons (ps_setLc (i := 3) (own := [("house", 4)]) rfl scOrd.nd rfl rfl (sw_true rfl rfl rfl rfl) (pi_list (pe_fld (pv 0) rfl)) (blkOk_by rfl)
    (fun s H C cl fp => by exact pg_name (i := 4) scOrd.nd rfl (Or.inl rfl))
    (fun s H C cl fp => by
     exact pts_and3 (pt_val (pe_fldK K rfl (pv 4) rfl)) (pt_cmpR op_eq (pe_fldK K rfl (pv 4) rfl) (pv 1) rfl) (pt_cmpR op_eq (pe_fldK K rfl (pv 4) rfl) (pv 2) rfl))
    (fun s H C cl fp => by exact pv 4))
   (pss_one (ps_ret (pe_sortK (pv 3) LC hr rfl hso boot_sorted rfl rfl cl.h (cl.hn "metre" (by simp)) (fun _ _ _ _ _ => rfl) rfl rfl rfl rfl (by decide +kernel) rfl (fun _ => rfl) rfl))), ?_⟩
  have hlH : ∀ H1 D, H1 D = none -> (∀ i H', H' = upd H1 D (.lst i) -> Ext H1 H') := fun H1 D n i H' e => by rw [e]; exact Ext.upd n
  obtain ⟨dT, hT⟩ := R.tw
  refine ⟨_, rfl, T, CT, dT, _, _, rfl, hT, cl.t, cl.tn "houses" (by simp), rfl, lh, rfl, ⟨_, SqL.of R.lh⟩, fun D hD => ?_⟩
  refine lc_list (xs := hs.map V.ref) (fun i H' => H' = upd H D (.lst (refs hs (upTo a s.toNat d.toNat i)))) rfl (fun i H' _ e => ?_) (fun i x H' hi e => ?_) fun H' e => ?_
  ·rw [e]
   exact (Ext.upd hD).seqL (SqL.of R.lh)
  ·subst e
   rw [List.getElem?_map] at hi
   obtain ⟨p, hp, rfl⟩ := Option.map_eq_some_iff.mp hi
   have hil : i < a.houses.length := by rw [<- R.hl]; exact (List.getElem?_eq_some_iff.mp hp).1
   have h40 := G.hl
   have hacc : (refs hs (upTo a s.toNat d.toNat i)).length < sizeLine := by
    rw [refs_len]
    have := upTo_len a s.toNat d.toNat i
    exact small40 (by omega)
   obtain ⟨y, ey, ey2, dx, pl, st, sd, at_, h1, h2⟩ := R.house hp
   have h1' := (Ext.upd (o := .lst (refs hs (upTo a s.toNat d.toNat i))) hD).1 _ _ h1 (fun _ z => by cases z)
   have no : alive s.toNat d.toNat (a.house i) = false -> upd H D (.lst (refs hs (upTo a s.toNat d.toNat i))) = upd H D (.lst (refs hs (upTo a s.toNat d.toNat (i + 1)))) := fun z => by
    rw [upTo_succ, if_neg (by rw [z]; decide)]
   refine ⟨rfl, _, rfl, p, CH, dx, _, _, rfl, h1', cl.h, cl.hn "stands" (by simp), rfl, _, rfl, ?_⟩
   refine ite2 (fun g => ?_) fun g => ?_
   ·have g' : y.gone = false := by simpa using g
    obtain ⟨e1, e2, e3, e4⟩ := h2 g'
    refine ⟨_, rfl, p, CH, dx, _, _, rfl, h1', cl.h, cl.hn "street" (by simp), rfl, _, rfl, rfl, _, rfl, ?_⟩
    refine ite2 (fun g2 => ?_) fun g2 => ?_
    ·have g2' : st = s := by rw [dec_V] at g2; exact of_decide_eq_true g2
     refine ⟨_, rfl, p, CH, dx, _, _, rfl, h1', cl.h, cl.hn "side" (by simp), rfl, _, rfl, rfl, _, rfl, ?_⟩
     refine ite2 (fun g3 => ?_) fun g3 => ?_
     ·have g3' : sd = d := by rw [dec_V] at g3; exact of_decide_eq_true g3
      refine ⟨_, rfl, _, upd_same, hacc, ?_⟩
      have al : alive s.toNat d.toNat (a.house i) = true := by
       rw [ey2]
       unfold alive
       have q1 : y.street = s.toNat := by omega
       have q2 : y.side = d.toNat := by omega
       simp [g', q1, q2]
      rw [upd_upd, upTo_succ, if_pos al, refs_snoc hp]
     ·have g3' : ¬ sd = d := fun z => g3 (by rw [dec_V]; exact decide_eq_true z)
      refine no ?_
      rw [ey2]
      unfold alive
      have q2 : ¬ y.side = d.toNat := by omega
      simp [q2]
    ·have g2' : ¬ st = s := fun z => g2 (by rw [dec_V]; exact decide_eq_true z)
     refine iteF (no ?_)
     rw [ey2]
     unfold alive
     have q1 : ¬ y.street = s.toNat := by omega
     simp [q1]
   ·have g' : y.gone = true := by simpa using g
    refine iteF (no ?_)
    rw [ey2]
    unfold alive
    simp [g']
  ·
   rw [List.length_map, R.hl] at e
   have eh : upTo a s.toNat d.toNat a.houses.length = here a s.toNat d.toNat := (here_eq a _ _).symm
   rw [eh] at e
   have X1 : Ext H H' := by rw [e]; exact Ext.upd hD
   have R1 := R.ext X1
   have hDl : H' D = some (.lst (refs hs (here a s.toNat d.toNat))) := by rw [e]; exact upd_same
   refine ⟨_, rfl, D, (here a s.toNat d.toNat).map fun j => hs.getD j 0, (here a s.toNat d.toNat).map fun j => ((a.house j).at_ : Int), rfl, SqL.of hDl, by rw [List.length_map, List.length_map], by rw [e]; exact (lt.upd hD).1, fun i p k h1 h2 => ?_, fun ys D2 H2 y1 y2 n2 lt2 old => ?_⟩
   ·rw [List.getElem?_map] at h1 h2
    obtain ⟨j, ej, e1⟩ := Option.map_eq_some_iff.mp h1
    rw [ej] at h2
    have e2 : ((a.house j).at_ : Int) = k := Option.some.inj h2
    have mj := mem_here.mp (List.mem_of_getElem? ej)
    have hj : hs[j]? = some p := by
     have : j < hs.length := by rw [R.hl]; exact mj.1
     rw [List.getElem?_eq_getElem this]
     rw [getD_at (List.getElem?_eq_getElem this)] at e1
     rw [e1]
    obtain ⟨y, ey, ey2, dx, pl, st, sd, at_, h3, h4⟩ := R1.house hj
    have g : y.gone = false := by rw [<- ey2]; exact mj.2.1
    refine ⟨dx, _, h3, ?_⟩
    rw [<- e2, ey2, <- (h4 g).2.2.1]
    rfl
   ·have X2 : Ext H' H2 := Ext.of old (lamTab_tbl (P := TB) (pos := lpo) (qual := lqu) (by rw [e]; exact (lt.upd hD).1)) (lamTab_tbl lt2)
    have X3 : Ext H (upd H2 D2 (.lst ((ys.map (·.2)).map V.ref))) := (X1.trans X2).trans (Ext.upd n2)
    have lte : LT TB H' := by rw [e]; exact lt.upd hD
    have lt3 : LT TB H2 := by
     refine ⟨lt2, ?_⟩
     rcases lte.2 with z | ⟨c, z, φ, z2, z3⟩
     ·exact .inl (old _ _ z fun y => hne y.symm)
     ·refine .inr ⟨c, old _ _ z (fun y => hne y.symm), φ, old _ _ z2 fun y => ?_, z3⟩
      obtain ⟨ps, w⟩ := lamTab_tbl lte.1
      rw [y, w] at z2
      cases z2
    refine q _ D2 X3 (lt3.upd n2) ?_ ?_
    ·exact (X1.trans X2).2 D2 n2
    ·rw [upd_same, order_out G R.hn R.hl y1 y2]
     rfl
theorem Ok.imp {k : Nat} {x : Str} {ps : List Str} {sp sp' : Sp} (o : Ok P w K mg base k x ps sp) (h : ∀ vs H Q E, sp' vs H Q E -> sp vs H Q E) : Ok P w K mg base k x ps sp' :=
 let ⟨f, fd, h1, h2, h3, h4⟩ := o; ⟨f, fd, h1, h2, h3, h4.imp h⟩
theorem ok_ord {c : Addr} (D : DefC K mg "houses_in_order" sOrd ["town", "s", "d"] c) (hc : PySem.W.codeHdIn K c TB = true) (bm : BMx mg base) (cl : Cl K CT CS CH) (hso : mg "sorted" = none) (hne : TB ≠ tbN) : Ok P w K mg base 2 "houses_in_order" ["town", "s", "d"] (spOrd K CT CS CH TB) :=
 (ok_ordW D hc bm cl hso hne).imp fun vs H Q E ⟨T, s, d, a, b, ls, lh, ss, hs, e, R, G, r⟩ => ⟨T, s, d, a, b, ls, lh, ss, hs, e, R, G.o, r⟩
end
theorem pe_ixLK {X : Cx} {a b : Expr} {ta tb : TE} {pos : Pos} (K : Frag) (hK : X.K = K) (ha : PE X a ta) (hb : PE X b tb) (hs : PlainIx b) : PE X (.Subscript a b pos) (tOp (rIxL K) ta tb) := by subst hK; exact pe_ix ix_list ha hb hs
theorem maxD_eq {l : List Nat} {m : Int} (h1 : m ∈ l.map fun n : Nat => (n : Int)) (h2 : ∀ y ∈ l.map (fun n : Nat => (n : Int)), y <= m) : m = (maxD l : Nat) := by
 have up : ∀ (l : List Nat) (x : Nat), x ∈ l -> x <= maxD l := by
  intro l
  induction l with
  | nil => intro x h; cases h
  | cons y l ih =>
   intro x h
   show x <= max y (maxD l)
   rcases List.mem_cons.mp h with rfl | h
   ·omega
   ·have := ih x h
    omega
 have mem : ∀ (l : List Nat), l ≠ [] -> maxD l ∈ l := by
  intro l
  induction l with
  | nil => intro h; exact absurd rfl h
  | cons y l ih =>
   intro _
   show max y (maxD l) ∈ _
   cases l with
   | nil => simp [maxD]
   | cons z l =>
    have := ih (by simp)
    by_cases c : y <= maxD (z :: l)
    ·rw [Nat.max_eq_right c]; exact List.mem_cons_of_mem _ this
    ·rw [Nat.max_eq_left (by omega)]; exact List.mem_cons_self
 obtain ⟨x, hx, rfl⟩ := List.mem_map.mp h1
 have a := up l x hx
 have b := h2 _ (List.mem_map.mpr ⟨_, mem l (fun z => by rw [z] at hx; cases hx), rfl⟩)
 omega
abbrev sFrom : Stmt := top 52
def nats (l : List Nat) : List V := l.map fun n : Nat => V.int (n : Int)
theorem nats_eq (l : List Nat) : nats l = (l.map fun n : Nat => (n : Int)).map V.int := by unfold nats; rw [List.map_map]; rfl
def part (hi : Int) (v : List Int) (i : Nat) : List Nat := List.replicate (v.length - i) 0 ++ lens hi (v.drop (v.length - i))
theorem part_len (hi : Int) (v : List Int) (i : Nat) (h : i <= v.length) : (part hi v i).length = v.length := by
 unfold part
 rw [List.length_append, List.length_replicate, lens_length, List.length_drop]
 omega
theorem part_zero (hi : Int) (v : List Int) : part hi v 0 = List.replicate v.length 0 := by
 unfold part
 rw [Nat.sub_zero, List.drop_length]
 exact List.append_nil _
theorem part_all (hi : Int) (v : List Int) : part hi v v.length = lens hi v := by
 unfold part
 rw [Nat.sub_self]
 rfl
theorem part_get {hi : Int} {v : List Int} {i j : Nat} (h : i <= v.length) : (part hi v i)[v.length - i + j]? = (lens hi (v.drop (v.length - i)))[j]? := by
 unfold part
 rw [List.getElem?_append_right (by rw [List.length_replicate]; omega), List.length_replicate]
 congr 1
 omega
theorem part_succ {hi : Int} {v : List Int} {i p : Nat} {x : Int} (hp : p + 1 + i = v.length) (hx : v[p]? = some x) : part hi v (i + 1) = (part hi v i).set p (if 0 <= x /\ x <= hi then 1 + maxD ((((v.drop (p + 1)).zip (lens hi (v.drop (p + 1)))).filter fun q => decide (x <= q.1)).map (·.2)) else 0) := by
 have hpl := (List.getElem?_eq_some_iff.mp hx).1
 have hd : v.drop p = x :: v.drop (p + 1) := by
  rw [List.drop_eq_getElem_cons hpl]
  congr 1
  exact (List.getElem?_eq_some_iff.mp hx).2
 unfold part
 have e1 : v.length - (i + 1) = p := by omega
 have e2 : v.length - i = p + 1 := by omega
 rw [e1, e2, hd, List.replicate_succ', List.append_assoc, List.set_append_right _ _ (by rw [List.length_replicate]; exact Nat.le_refl _), List.length_replicate, Nat.sub_self]
 rfl
theorem part_same {hi : Int} {v : List Int} {i p : Nat} {x : Int} (hp : p + 1 + i = v.length) (hx : v[p]? = some x) (hn : ¬ (0 <= x /\ x <= hi)) : part hi v (i + 1) = part hi v i := by
 rw [part_succ hp hx, if_neg hn]
 have e2 : v.length - i = p + 1 := by omega
 unfold part
 rw [e2, List.replicate_succ', List.append_assoc, List.set_append_right _ _ (by rw [List.length_replicate]; exact Nat.le_refl _), List.length_replicate, Nat.sub_self]
 rfl
theorem nats_set (l : List Nat) (j x : Nat) : (nats l).set j (.int x) = nats (l.set j x) := by
 unfold nats
 rw [List.map_set]
theorem nats_len (l : List Nat) : (nats l).length = l.length := List.length_map _
theorem nats_get {l : List Nat} {j n : Nat} (h : l[j]? = some n) : (nats l)[j]? = some (.int n) := by
 unfold nats
 rw [List.getElem?_map, h]
 rfl
theorem lenI {K : Frag} {H : Hp} {r : Addr} {v : List Int} (h : SqL K H r (v.map V.int)) : LenV K (.ref r) H v.length := .inl ⟨_, h, by rw [List.length_map]⟩
theorem zeros (n : Nat) : (List.replicate ((n : Nat) : Int).toNat [V.int 0]).flatten = nats (List.replicate n 0) := by
 rw [Int.toNat_natCast]
 induction n with
 | zero => rfl
 | succ n ih => rw [List.replicate_succ, List.flatten_cons, ih, List.replicate_succ]; rfl
def acc (x : Int) (w : List Int) (u : List Nat) (j : Nat) : List Nat := (((w.zip u).take j).filter fun q => decide (x <= q.1)).map (·.2)
theorem acc_succ {x y : Int} {w : List Int} {u : List Nat} {j n : Nat} (h1 : w[j]? = some y) (h2 : u[j]? = some n) : acc x w u (j + 1) = if x <= y then acc x w u j ++ [n] else acc x w u j := by
 unfold acc
 have e : (w.zip u)[j]? = some (y, n) := List.getElem?_zip_eq_some.mpr ⟨h1, h2⟩
 rw [List.take_add_one, e, List.filter_append, List.map_append]
 show _ ++ (([(y, n)] : List (Int × Nat)).filter fun q => decide (x <= q.1)).map (·.2) = _
 rw [List.filter_cons]
 by_cases h : x <= y
 ·rw [if_pos h, if_pos (decide_eq_true h)]
  rfl
 ·rw [if_neg h, if_neg (by simpa using h)]
  exact List.append_nil _
theorem acc_len (x : Int) (w : List Int) (u : List Nat) (j : Nat) : (acc x w u j).length <= j := by
 unfold acc
 rw [List.length_map]
 exact Nat.le_trans (List.length_filter_le _ _) (by rw [List.length_take]; omega)
theorem acc_all {x : Int} {w : List Int} {u : List Nat} {j : Nat} (h : w.length <= j) : acc x w u j = ((w.zip u).filter fun q => decide (x <= q.1)).map (·.2) := by
 unfold acc
 rw [List.take_of_length_le (by rw [List.length_zip]; omega)]
theorem nats_snoc (l : List Nat) (n : Nat) : nats l ++ [.int n] = nats (l ++ [n]) := by
 unfold nats
 rw [List.map_append]
 rfl
def spFrom (K : Frag) : Sp := fun vs H Q _ => ∃ (r : Addr) (v : List Int) (hi : Int), vs = [.ref r, .int hi] /\ SqL K H r (v.map V.int) /\ v.length <= 40 /\ ∀ (H' : Hp) (D : Addr), Same H H' -> H D = none -> H' D = some (.lst (nats (lens hi v))) -> Q (.ref D) H'
section
variable {P : Program} {w : World} {K : Frag} {mg : Str -> Option Value} {base : Heap}
theorem scFrom : FnScope ["room", "most_room", "lengths", "place", "further", "k"] ["room", "most_room"] (defScope sFrom) := scOf
theorem ok_from (D : Def K mg "stays_from" sFrom ["room", "most_room"]) (g1 : mg "len" = none) (g2 : mg "range" = none) (g3 : mg "max" = none) : Ok P w K mg base 1 "stays_from" ["room", "most_room"] (spFrom K) := by
 refine D.ok scFrom (fun vs H Q E h => ?_) fun f cdv A outer s H vs Q E hr h => ?_
 ·obtain ⟨r, v, hi, rfl, _⟩ := h; rfl
 ·obtain ⟨r, v, hi, rfl, hv, hl, q⟩ := h
  refine ⟨_, pss_cons (ps_set (i := 2) scFrom.nd rfl (Or.inr rfl) (pe_op op_rep (pe_lst (pa_cons pe_int pa_nil)) (pe_callB call_len rfl g1 PySem.boot_len (pa_cons (pv 0) pa_nil))))
   (pss_cons (ps_for PassesOwn.never rfl (pi_range3 rfl g2 (pa_cons (pe_op op_sub (pe_callB call_len rfl g1 PySem.boot_len (pa_cons (pv 0) pa_nil)) pe_int) (pa_cons (pe_un un_neg pe_int) (pa_cons (pe_un un_neg pe_int) pa_nil))))
    (pg_name (i := 3) scFrom.nd rfl (Or.inr rfl))
    (pss_one (ps_if (PW.pt (pw_and (pt_cmpR op_le pe_int (pe_ix ix_list (pv 0) (pv 3) (fun _ _ => rfl)) rfl) (pw_and1 (pt_cmpR op_le (pe_ix ix_list (pv 0) (pv 3) (fun _ _ => rfl)) (pv 1) rfl))))
     (pss_cons (ps_setLc (i := 4) (own := [("k", 5)]) rfl scFrom.nd rfl rfl (sw_true rfl rfl rfl rfl) (pi_range2 rfl g2 (pa_cons (pe_op op_add (pv 3) pe_int) (pa_cons (pe_callB call_len rfl g1 PySem.boot_len (pa_cons (pv 0) pa_nil)) pa_nil))) (blkOk_by rfl)
       (fun s H C cl fp => by exact pg_name (i := 5) scFrom.nd rfl (Or.inl rfl))
       (fun s H C cl fp => by exact pts_one (pt_cmpR op_ge (pe_ixLK K rfl (pv 0) (pv 5) (fun _ _ => rfl)) (pe_ixLK K rfl (pv 0) (pv 3) (fun _ _ => rfl)) rfl))
       (fun s H C cl fp => by exact pe_ixLK K rfl (pv 2) (pv 5) (fun _ _ => rfl)))
      (pss_one (ps_asg (pe_op op_add pe_int (pe_maxD rfl (pv 4) rfl g3 boot_max)) (pg_sub (pv 2) (pv 3) set_list))))
     pss_nil)))
   (pss_one (ps_ret (pv 2)))), ?_⟩
  have n0 : ∀ {H1 : Hp} {l : Addr} {o : HO}, H1 l = none -> Same H1 (upd H1 l o) := fun {H1 l o} h b u e => by rw [upd_ne (ne_of_none e h)]; exact e
  refine ⟨sz1, fun l0 hl0 => ?_⟩
  have hv1 := (n0 (o := .lst [.int 0]) hl0).seq hv
  refine ⟨_, rfl, _, v.length, rfl, lenI hv1, l0, _, _, rfl, rfl, upd_same, by omega, by omega, ?_, fun L hL => ?_⟩
  ·show 1 * ((v.length : Nat) : Int).toNat <= sizeLine
   rw [Int.toNat_natCast, Nat.one_mul]
   exact Nat.le_of_lt (small40 hl)
  have hLH : H L = none := (n0 (o := .lst [.int 0]) hl0).free hL
  have s1 : Same H (upd (upd H l0 (.lst [.int 0])) L (.lst (nats (part hi v 0)))) := (n0 hl0).trans (n0 hL)
  rw [zeros, <- part_zero hi v]
  refine ⟨_, rfl, _, v.length, rfl, lenI (s1.seq hv), _, _, rfl, rfl, _, rfl, _, rfl, (v.length : Int) - 1, -1, -1, v.length, rfl, ?_, for_rangeC (fun i σ H' => ∃ o3 o4, σ = [some (.ref r), some (.int hi), some (.ref L), o3, o4, none] /\ Same H H' /\ H' L = some (.lst (nats (part hi v i))))
   ⟨none, none, rfl, s1, upd_same⟩ ?_ ?_⟩
  ·have := RgC.neg (i := (v.length : Int) - 1) (j := -1) (by omega) (by omega) (by decide) (by decide)
   have e : ((v.length : Int) - 1 - -1).toNat = v.length := by omega
   rw [e] at this
   exact this
  ·rintro i σ H' hin ⟨o3, o4, rfl, s2, hL2⟩
   obtain ⟨p, hp⟩ : ∃ p, p + 1 + i = v.length := ⟨v.length - 1 - i, by omega⟩
   have hpl : p < v.length := by omega
   obtain ⟨x, hx⟩ : ∃ x, v[p]? = some x := ⟨_, List.getElem?_eq_getElem hpl⟩
   have ep : (v.length : Int) - 1 + (i : Nat) * -1 = (p : Int) := by omega
   rw [ep]
   have hvH := s2.seq hv
   have hxV : (v.map V.int)[p]? = some (.int x) := by rw [List.getElem?_map, hx]; rfl
   refine ⟨_, rfl, _, rfl, r, _, _, _, rfl, rfl, hvH, atI_nat hxV, _, _, rfl, rfl, _, rfl, ?_⟩
   refine ite2 (fun c1 => ?_) fun c1 => ?_
   ·have c1 : 0 <= x := of_decide_eq_true c1
    refine ⟨_, rfl, _, rfl, r, _, _, _, rfl, rfl, hvH, atI_nat hxV, _, rfl, _, _, rfl, rfl, _, rfl, ?_⟩
    refine ite2 (fun c2 => ?_) fun c2 => ?_
    ·have c2 : x <= hi := of_decide_eq_true c2
     refine ⟨_, rfl, _, _, rfl, rfl, _, rfl, _, v.length, rfl, lenI hvH, _, _, rfl, ⟨by omega, by omega, by omega, by omega⟩, fun F hF => ?_⟩
     refine lc_range (fun j H'' => H'' = upd H' F (.lst (nats (acc x (v.drop (p + 1)) (lens hi (v.drop (p + 1))) j)))) rfl (fun j H'' hj e => ?_) fun H'' e => ?_
     ·subst e
      have hjn : j < (v.drop (p + 1)).length := by rw [List.length_drop]; omega
      obtain ⟨y, hy⟩ : ∃ y, (v.drop (p + 1))[j]? = some y := ⟨_, List.getElem?_eq_getElem hjn⟩
      obtain ⟨n, hn⟩ : ∃ n, (lens hi (v.drop (p + 1)))[j]? = some n := ⟨_, List.getElem?_eq_getElem (by rw [lens_length]; exact hjn)⟩
      have hyV : (v.map V.int)[p + 1 + j]? = some (.int y) := by
       rw [List.getElem?_drop] at hy
       rw [List.getElem?_map, hy]
       rfl
      have hvF := (n0 (o := .lst (nats (acc x (v.drop (p + 1)) (lens hi (v.drop (p + 1))) j))) hF).seq hvH
      have ek : (p : Int) + 1 + (j : Nat) = ((p + 1 + j : Nat) : Int) := by omega
      rw [ek]
      refine ⟨rfl, _, rfl, _, rfl, r, _, _, _, rfl, rfl, hvF, atI_nat hyV, _, rfl, _, rfl, r, _, _, _, rfl, rfl, hvF, atI_nat hxV, _, _, rfl, rfl, _, rfl, ?_⟩
      refine ite2 (fun c3 => ?_) fun c3 => ?_
      ·have c3 : x <= y := of_decide_eq_true c3
       have hLF : (upd H' F (.lst (nats (acc x (v.drop (p + 1)) (lens hi (v.drop (p + 1))) j)))) L = some (.lst (nats (part hi v i))) := by rw [upd_ne (ne_of_none hL2 hF)]; exact hL2
       have hnV : (nats (part hi v i))[p + 1 + j]? = some (.int n) := by
        have e2 : v.length - i = p + 1 := by omega
        refine nats_get ?_
        have := part_get (hi := hi) (v := v) (i := i) (j := j) (by omega)
        rw [e2] at this
        rw [this]
        exact hn
       refine ⟨_, rfl, _, rfl, L, _, _, _, rfl, rfl, SqL.of hLF, atI_nat hnV, _, upd_same, ?_, ?_⟩
       ·rw [nats_len]
        have := acc_len x (v.drop (p + 1)) (lens hi (v.drop (p + 1))) j
        rw [List.length_drop] at hjn
        exact small40 (by omega)
       ·rw [upd_upd, acc_succ hy hn, if_pos c3, nats_snoc]
      ·have c3 : ¬ x <= y := fun z => c3 (decide_eq_true z)
       rw [acc_succ hy hn, if_neg c3]
     ·subst e
      have eall : acc x (v.drop (p + 1)) (lens hi (v.drop (p + 1))) ((v.length : Int) - ((p : Int) + 1)).toNat = (((v.drop (p + 1)).zip (lens hi (v.drop (p + 1)))).filter fun q => decide (x <= q.1)).map (·.2) := acc_all (by rw [List.length_drop]; omega)
      rw [eall]
      generalize hfl : (((v.drop (p + 1)).zip (lens hi (v.drop (p + 1)))).filter fun q => decide (x <= q.1)).map (·.2) = fl
      have hFl : (upd H' F (.lst (nats fl))) F = some (.lst ((fl.map fun n : Nat => (n : Int)).map V.int)) := by rw [upd_same, nats_eq]
      have hLF : (upd H' F (.lst (nats fl))) L = some (.lst (nats (part hi v i))) := by rw [upd_ne (ne_of_none hL2 hF)]; exact hL2
      have hix : ixN (nats (part hi v i)).length (p : Int) = some p := by
       unfold ixN
       rw [nats_len, part_len hi v i (by omega), if_pos (by omega), if_pos (by omega), Int.toNat_natCast]
      have sF : Same H (upd H' F (.lst (nats fl))) := s2.trans (n0 hF)
      have sL : ∀ o, Same H (upd (upd H' F (.lst (nats fl))) L o) := fun o b u e => by
       rw [upd_ne (ne_of_none e hLH)]
       exact sF b u e
      have ev : part hi v (i + 1) = (part hi v i).set p (1 + maxD fl) := by rw [part_succ hp hx, if_pos ⟨c1, c2⟩, hfl]
      have em : ∀ m : Int, m = (maxD fl : Nat) -> (upd (upd H' F (.lst (nats fl))) L (.lst ((nats (part hi v i)).set p (.int (1 + m))))) L = some (.lst (nats (part hi v (i + 1)))) := fun m e => by
       have e2 : (1 : Int) + m = ((1 + maxD fl : Nat) : Int) := by omega
       rw [upd_same, ev, e2, nats_set]
      refine ⟨_, rfl, F, fl.map (fun n : Nat => (n : Int)), rfl, SqL.of hFl, fun e0 => ?_, fun m m1 m2 => ?_⟩
      ·have e1 : (0 : Int) = (maxD fl : Nat) := by
        have : fl = [] := by simpa using e0
        rw [this]
        rfl
       exact ⟨_, _, rfl, rfl, _, rfl, _, rfl, L, _, _, p, rfl, rfl, hLF, hix, _, _, rfl, sL _, em 0 e1⟩
      ·exact ⟨_, _, rfl, rfl, _, rfl, _, rfl, L, _, _, p, rfl, rfl, hLF, hix, _, _, rfl, sL _, em m (maxD_eq m1 m2)⟩
    ·have c2 : ¬ x <= hi := fun z => c2 (decide_eq_true z)
     exact ⟨_, _, rfl, s2, by rw [part_same hp hx fun z => c2 z.2]; exact hL2⟩
   ·have c1 : ¬ 0 <= x := fun z => c1 (decide_eq_true z)
    exact iteF ⟨_, _, rfl, s2, by rw [part_same hp hx fun z => c1 z.1]; exact hL2⟩
  ·rintro σ H' ⟨o3, o4, rfl, s2, hL2⟩
   rw [part_all] at hL2
   exact ⟨_, rfl, q H' L s2 hLH hL2⟩
end
theorem for_by {J : It} {n : Nat} {g : TG} {tb : TS} {D : Ends} {σ : L2.St} {H : Hp} (Pv : Nat -> L2.St -> Hp -> Prop) (h0 : Pv 0 σ H) (hgo : ∀ i σ H, i < n -> Pv i σ H -> J.go i H) (hst : ∀ σ H, Pv n σ H -> J.stop n H)
  (hs : ∀ i σ H x H', i < n -> Pv i σ H -> J.yld i H x H' -> g x σ H' fun σ2 H2 => tb { D with nx := Pv (i + 1), ct := Pv (i + 1), bk := D.nx } σ2 H2) (hd : ∀ σ H, Pv n σ H -> D.nx σ H) :
  ∃ W : Nat -> Nat -> L2.St -> Hp -> Prop, (∃ m, W 0 m σ H) /\ ∀ i m σ H, W i m σ H ->
   (J.stop i H /\ D.nx σ H) ∨ (J.go i H /\ ∃ N : L2.St -> Hp -> Prop, (∀ σ' H', N σ' H' -> ∃ m', m' < m /\ W (i + 1) m' σ' H') /\ ∀ x H', J.yld i H x H' -> g x σ H' fun σ2 H2 => tb { D with nx := N, ct := N, bk := D.nx } σ2 H2) := by
 refine ⟨fun i m σ H => m = n - i /\ i <= n /\ Pv i σ H, ⟨n, by simp, Nat.zero_le _, h0⟩, ?_⟩
 rintro i m σ H ⟨rfl, hi, p⟩
 by_cases hlt : i < n
 ·exact .inr ⟨hgo i σ H hlt p, Pv (i + 1), fun σ' H' p' => ⟨n - (i + 1), by omega, rfl, hlt, p'⟩, fun x H' y => hs i σ H x H' hlt p y⟩
 ·have e : i = n := by omega
  subst e
  exact .inl ⟨hst σ H p, hd σ H p⟩
theorem lc_by {J : It} {n : Nat} {g : TG} {tt : TT} {te : TE} {vs : List Nat} {σ : L2.St} {H1 : Hp} {D : Addr} {Qd : Hp -> Prop} (Pv : Nat -> Hp -> Prop) (h0 : Pv 0 (upd H1 D (.lst []))) (hgo : ∀ i H, i < n -> Pv i H -> J.go i H) (hst : ∀ H, Pv n H -> J.stop n H)
  (hs : ∀ i x H H', i < n -> Pv i H -> J.yld i H x H' -> g x (wipe σ vs) H' fun σ2 H2 => wipe σ2 vs = wipe σ vs /\ tt σ2 H2 fun b H3 =>
   if b = true then te σ2 H3 fun y H4 => ∃ acc, H4 D = some (.lst acc) /\ acc.length < sizeLine /\ Pv (i + 1) (upd H4 D (.lst (acc ++ [y]))) else Pv (i + 1) H3) (hd : ∀ H, Pv n H -> Qd H) :
  ∃ W : Nat -> Nat -> Hp -> Prop, (∃ m, W 0 m (upd H1 D (.lst []))) /\ ∀ i m H, W i m H ->
   (J.stop i H /\ Qd H) ∨ (J.go i H /\ ∃ Nx : Hp -> Prop, (∀ H', Nx H' -> ∃ m', m' < m /\ W (i + 1) m' H') /\ ∀ x H', J.yld i H x H' -> g x (wipe σ vs) H' fun σ2 H2 => wipe σ2 vs = wipe σ vs /\ tt σ2 H2 fun b H3 =>
    if b = true then te σ2 H3 fun y H4 => ∃ acc, H4 D = some (.lst acc) /\ acc.length < sizeLine /\ Nx (upd H4 D (.lst (acc ++ [y]))) else Nx H3) := by
 refine ⟨fun i m H => m = n - i /\ i <= n /\ Pv i H, ⟨n, by simp, Nat.zero_le _, h0⟩, ?_⟩
 rintro i m H ⟨rfl, hi, p⟩
 by_cases hlt : i < n
 ·exact .inr ⟨hgo i H hlt p, Pv (i + 1), fun H' p' => ⟨n - (i + 1), by omega, rfl, hlt, p'⟩, fun x H' y => hs i x H H' hlt p y⟩
 ·have e : i = n := by omega
  subst e
  exact .inl ⟨hst H p, hd H p⟩
theorem Same.upd {H : Hp} {l : Addr} {o : HO} (h : H l = none) : Same H (upd H l o) := fun b u e => by rw [upd_ne (ne_of_none e h)]; exact e
def tMaxN (K : Frag) (i : Nat) : TE := fun σ H Q => ∃ (a : Addr) (u : List Nat), σ[i]? = some (some (.ref a)) /\ SqL K H a (nats u) /\ Q (.int (maxD u : Nat)) H
theorem pe_maxN {X : Cx} {i : Nat} {x : Str} {j : Nat} {p np kpos dpos pos : Pos} (hcalm : X.calm = true) (he : PE X (.Name x np) (tVar i)) (hg : Gl X "max") (hm : X.mg "max" = none) (hst : starEach [.Name x np] X.env = [(false, eval (.Name x np) X.env)] := by rfl) :
  PE X (.Call (.Name "max" p) [.Name x np] [⟨some "default", .Constant (.int 0) j dpos, kpos⟩] pos) (tMaxN X.K i) := by
 intro pins s σ H Q I h
 obtain ⟨a, u, h1, h2, q⟩ := h
 refine pe_maxD hcalm he hg hm boot_max hst pins s σ H Q I ⟨_, h1, a, u.map (fun n : Nat => (n : Int)), rfl, by rw [<- nats_eq]; exact h2, fun e0 => ?_, fun m m1 m2 => ?_⟩
 ·have e : u = [] := by simpa using e0
  subst e
  exact q
 ·rw [maxD_eq m1 m2]
  exact q
abbrev sLong : Stmt := top 53
def wantA : Nat -> List Nat -> Nat
 | w, [] => w
 | w, x :: l => if 0 < w /\ x = w then wantA (w - 1) l else wantA w l
theorem scan_snoc (w i : Nat) : ∀ (l : List Nat) (x : Nat), scan w i (l ++ [x]) = if 0 < wantA w l /\ x = wantA w l then scan w i l ++ [i + l.length] else scan w i l := by
 intro l
 induction l generalizing w i with
 | nil =>
  intro x
  show (if 0 < w /\ x = w then i :: scan (w - 1) (i + 1) [] else scan w (i + 1) []) = _
  rfl
 | cons y l ih =>
  intro x
  show (if 0 < w /\ y = w then i :: scan (w - 1) (i + 1) (l ++ [x]) else scan w (i + 1) (l ++ [x])) = if 0 < (if 0 < w /\ y = w then wantA (w - 1) l else wantA w l) /\ x = (if 0 < w /\ y = w then wantA (w - 1) l else wantA w l) then (if 0 < w /\ y = w then i :: scan (w - 1) (i + 1) l else scan w (i + 1) l) ++ [i + (l.length + 1)] else (if 0 < w /\ y = w then i :: scan (w - 1) (i + 1) l else scan w (i + 1) l)
  have e : i + 1 + l.length = i + (l.length + 1) := by omega
  by_cases h : 0 < w /\ y = w
  ·rw [if_pos h, if_pos h, if_pos h, ih (w - 1) (i + 1) x, e]
   split <;> rfl
  ·rw [if_neg h, if_neg h, if_neg h, ih w (i + 1) x, e]
theorem wantA_snoc : ∀ (l : List Nat) (w x : Nat), wantA w (l ++ [x]) = if 0 < wantA w l /\ x = wantA w l then wantA w l - 1 else wantA w l := by
 intro l
 induction l with
 | nil => intro w x; rfl
 | cons y l ih =>
  intro w x
  show (if 0 < w /\ y = w then wantA (w - 1) (l ++ [x]) else wantA w (l ++ [x])) = if 0 < (if 0 < w /\ y = w then wantA (w - 1) l else wantA w l) /\ x = (if 0 < w /\ y = w then wantA (w - 1) l else wantA w l) then (if 0 < w /\ y = w then wantA (w - 1) l else wantA w l) - 1 else (if 0 < w /\ y = w then wantA (w - 1) l else wantA w l)
  split
  ·exact ih _ x
  ·exact ih _ x
theorem scan_len : ∀ (l : List Nat) (w i : Nat), (scan w i l).length <= l.length
 | [], _, _ => Nat.le_refl _
 | x :: l, w, i => by
  show (if 0 < w /\ x = w then i :: scan (w - 1) (i + 1) l else scan w (i + 1) l).length <= l.length + 1
  split
  ·have := scan_len l (w - 1) (i + 1)
   rw [List.length_cons]
   omega
  ·have := scan_len l w (i + 1)
   omega
def spLong (K : Frag) : Sp := fun vs H Q _ => ∃ (r : Addr) (u : List Nat), vs = [.ref r] /\ SqL K H r (nats u) /\ u.length <= 40 /\ ∀ (H' : Hp) (D : Addr), Same H H' -> H D = none -> H' D = some (.lst (nats (scan (maxD u) 0 u))) -> Q (.ref D) H'
section
variable {P : Program} {w : World} {K : Frag} {mg : Str -> Option Value} {base : Heap}
theorem scLong : FnScope ["lengths", "places", "wanted", "place", "length"] ["lengths"] (defScope sLong) := scOf
theorem ok_long (D : Def K mg "earliest_longest" sLong ["lengths"]) (g1 : mg "max" = none) (g2 : mg "enumerate" = none) : Ok P w K mg base 1 "earliest_longest" ["lengths"] (spLong K) := by
 refine D.ok scLong (fun vs H Q E h => ?_) fun f cdv A outer s H vs Q E hr h => ?_
 ·obtain ⟨r, u, rfl, _⟩ := h; rfl
 ·obtain ⟨r, u, rfl, hv, hl, q⟩ := h
  refine ⟨_, pss_cons (ps_set (i := 1) scLong.nd rfl (Or.inl rfl) (pe_lst pa_nil))
   (pss_cons (ps_set (i := 2) scLong.nd rfl (Or.inl rfl) (pe_maxN (i := 0) rfl (pv 0) rfl g1))
   (pss_cons (ps_for PassesOwn.never rfl (pi_enum rfl g2 (pa_cons (pv 0) pa_nil)) (pg_tup rfl (pgs_cons (pg_name (i := 3) scLong.nd rfl (Or.inl rfl)) (pgs_cons (pg_name (i := 4) scLong.nd rfl (Or.inl rfl)) pgs_nil)))
    (pss_one (ps_if (PW.pt (pw_and (pt_cmpR op_gt (pv 2) pe_int rfl) (pw_and1 (pt_cmpR op_eq (pv 4) (pv 2) rfl))))
     (pss_cons (ps_expr (pe_bm PySem.F.plainAttrs_list PySem.F.slot_list_append PySem.F.type_list_append mt_append (pv 1) (pa_cons (pv 3) pa_nil)))
      (pss_one (ps_aug (i := 2) scLong.nd rfl (Or.inl rfl) pe_int ip_sub)))
     pss_nil)))
   (pss_one (ps_ret (pv 1))))), ?_⟩
  refine ⟨Nat.zero_le _, fun L hL => ?_⟩
  have s1 : Same H (upd H L (.lst [])) := Same.upd hL
  have hv1 := s1.seq hv
  refine ⟨r, u, rfl, hv1, ?_⟩
  refine ⟨_, rfl, r, _, rfl, hv1, for_by (n := u.length) (fun i σ H' => ∃ o3 o4, σ = [some (.ref r), some (.ref L), some (.int (wantA (maxD u) (u.take i) : Nat)), o3, o4] /\ Same H H' /\ H' L = some (.lst (nats (scan (maxD u) 0 (u.take i)))))
   ⟨none, none, rfl, s1, upd_same⟩ ?_ ?_ ?_ ?_⟩
  ·rintro i σ H' hi ⟨o3, o4, rfl, s2, _⟩
   exact ⟨_, _, s2.seq hv, nats_get (List.getElem?_eq_getElem hi)⟩
  ·rintro σ H' ⟨o3, o4, rfl, s2, _⟩
   exact ⟨_, s2.seq hv, by rw [nats_len]; exact Nat.le_refl _⟩
  ·rintro i σ H' x H'' hi ⟨o3, o4, rfl, s2, hL2⟩ ⟨T, y, rfl, hT, rfl, hy⟩
   have ey : y = .int (u[i] : Nat) := by
    have := hy _ (s2.seq hv)
    rw [nats_get (List.getElem?_eq_getElem hi)] at this
    exact (Option.some.inj this).symm
   subst ey
   have s3 : Same H (upd H' T (.tup [.int (i : Nat), .int (u[i] : Nat)])) := s2.trans (Same.upd hT)
   have hL3 : (upd H' T (.tup [.int (i : Nat), .int (u[i] : Nat)])) L = some (.lst (nats (scan (maxD u) 0 (u.take i)))) := by rw [upd_ne (ne_of_none hL2 hT)]; exact hL2
   have et : u.take (i + 1) = u.take i ++ [u[i]] := by rw [List.take_add_one, List.getElem?_eq_getElem hi]; rfl
   refine ⟨T, _, rfl, .inl (.inl upd_same), rfl, _, _, rfl, _, _, rfl, rfl, ?_⟩
   refine ⟨_, rfl, _, _, rfl, rfl, _, rfl, ?_⟩
   refine ite2 (fun c1 => ?_) fun c1 => ?_
   ·have c1 : (0 : Int) < (wantA (maxD u) (u.take i) : Nat) := of_decide_eq_true c1
    refine ⟨_, rfl, _, rfl, rfl, _, rfl, ?_⟩
    refine ite2 (fun c2 => ?_) fun c2 => ?_
    ·have c2 : ((u[i] : Nat) : Int) = (wantA (maxD u) (u.take i) : Nat) := by rw [dec_V] at c2; exact of_decide_eq_true c2
     have cc : 0 < wantA (maxD u) (u.take i) /\ u[i] = wantA (maxD u) (u.take i) := by omega
     refine ⟨_, rfl, .inl ⟨rfl, _, SqL.of hL3⟩, _, rfl, L, _, _, rfl, rfl, hL3, ?_, ?_⟩
     ·rw [nats_len]
      have := scan_len (u.take i) (maxD u) 0
      rw [List.length_take] at this
      exact small40 (by omega)
     ·refine ⟨_, rfl, _, _, rfl, rfl, some (.int (i : Nat)), some (.int (u[i] : Nat)), ?_, fun b o e => by rw [upd_ne (ne_of_none e hL)]; exact s3 b o e, ?_⟩
      ·rw [et, wantA_snoc, if_pos cc]
       have : ((wantA (maxD u) (u.take i) - 1 : Nat) : Int) = (wantA (maxD u) (u.take i) : Nat) - 1 := by omega
       rw [this]
       rfl
      ·rw [upd_same, et, scan_snoc, if_pos cc, <- nats_snoc, List.length_take, Nat.min_eq_left (by omega), Nat.zero_add]
    ·have c2 : ¬ ((u[i] : Nat) : Int) = (wantA (maxD u) (u.take i) : Nat) := fun z => c2 (by rw [dec_V]; exact decide_eq_true z)
     have cc : ¬ (0 < wantA (maxD u) (u.take i) /\ u[i] = wantA (maxD u) (u.take i)) := by omega
     exact ⟨_, _, by rw [et, wantA_snoc, if_neg cc]; rfl, s3, by rw [et, scan_snoc, if_neg cc]; exact hL3⟩
   ·have c1 : ¬ (0 : Int) < (wantA (maxD u) (u.take i) : Nat) := fun z => c1 (decide_eq_true z)
    have cc : ¬ (0 < wantA (maxD u) (u.take i) /\ u[i] = wantA (maxD u) (u.take i)) := by omega
    exact iteF ⟨_, _, by rw [et, wantA_snoc, if_neg cc]; rfl, s3, by rw [et, scan_snoc, if_neg cc]; exact hL3⟩
  ·rintro σ H' ⟨o3, o4, rfl, s2, hL2⟩
   rw [List.take_length] at hL2
   exact ⟨_, rfl, q H' L s2 hL hL2⟩
end
theorem pg_tupK {X : Cx} {es : List Expr} {k : Nat} {t : TGs} {pos : Pos} (K : Frag) (hK : X.K = K) (n : Nat) (hc : X.calm = true) (h : PGs X es t) (hn : (assignEach es X.env).length = n) (hst : (assignEach es X.env).findIdx? (·.1) = none) : PG X (.Tuple es k pos) (gTup K n t) := by subst hK; exact pg_tup hc h hn hst
theorem op_neTK {X : Cx} (K : Frag) (hK : X.K = K) (hu : X.A.units + 64 < cLine) : OpR X (compareOp .NotEq) (rEqT K true) := by subst hK; exact op_neT hu
theorem op_eqTK {X : Cx} (K : Frag) (hK : X.K = K) (hu : X.A.units + 64 < cLine) : OpR X (compareOp .Eq) (rEqT K false) := by subst hK; exact op_eqT hu
def NoP (K : Frag) (mg : Str -> Option Value) (np : Addr) : Prop := mg "NO_PLATE" = some (.ref np) /\ ∀ H : Hp, SqT K H np [.int 0, .int 0]
abbrev sPlat : Stmt := top 30
def spPlatW (K : Frag) (CT CS CH TB : Addr) : Sp := fun vs H Q _ => ∃ (T : Addr) (s d : Int) (a : Su54.Abs) (b : Bool) (ls lh : Addr) (ss hs : List Addr), vs = [.ref T, .int s, .int d] /\ TownR K CT CS CH H T a b ls lh ss hs /\ GoodO a /\ LT TB H /\ 0 <= s /\ 0 <= d /\
 ∀ (H' : Hp) (D : Addr), Ext H H' -> LT TB H' -> H D = none -> H' D = some (.lst (refs hs (a.plated s.toNat d.toNat))) -> Q (.ref D) H'
def spPlat (K : Frag) (CT CS CH TB : Addr) : Sp := fun vs H Q _ => ∃ (T : Addr) (s d : Int) (a : Su54.Abs) (b : Bool) (ls lh : Addr) (ss hs : List Addr), vs = [.ref T, .int s, .int d] /\ TownR K CT CS CH H T a b ls lh ss hs /\ Good a /\ LT TB H /\ 0 <= s /\ 0 <= d /\
 ∀ (H' : Hp) (D : Addr), Ext H H' -> LT TB H' -> H D = none -> H' D = some (.lst (refs hs (a.plated s.toNat d.toNat))) -> Q (.ref D) H'
theorem numOf_zero (x : Su54.House) : (numOf x = 0 /\ letOf x = 0) ↔ x.plate = 0 := by
 unfold numOf letOf
 constructor
 ·rintro ⟨h, _⟩
  split at h
  ·assumption
  ·unfold Su54.number at h
   omega
 ·intro h
  rw [if_pos h, if_pos h]
  exact ⟨rfl, rfl⟩
theorem side_get {a : Su54.Abs} {s d i j : Nat} {hs : List Addr} (hl : hs.length = a.houses.length) (h : (a.side s d)[i]? = some j) : ∃ p, hs[j]? = some p /\ (a.house j).gone = false := by
 have m := mem_side.mp (List.mem_of_getElem? h)
 have : j < hs.length := by omega
 exact ⟨_, List.getElem?_eq_getElem this, m.2.1⟩
theorem refs_get {hs : List Addr} {l : List Nat} {i : Nat} {x : V} (h : (refs hs l)[i]? = some x) : ∃ j, l[i]? = some j /\ x = .ref (hs.getD j 0) := by
 unfold refs at h
 rw [List.getElem?_map, List.getElem?_map] at h
 cases e : l[i]? with
 | none => rw [e] at h; cases h
 | some j =>
  rw [e] at h
  exact ⟨j, rfl, (Option.some.inj h).symm⟩
theorem take_filter_snoc {α : Type} {p : α -> Bool} {l : List α} {i : Nat} {x : α} (h : l[i]? = some x) : (l.take (i + 1)).filter p = if p x = true then (l.take i).filter p ++ [x] else (l.take i).filter p := by
 rw [List.take_add_one, h, List.filter_append]
 show _ ++ ([x].filter p) = _
 rw [List.filter_cons]
 split
 ·rfl
 ·exact List.append_nil _
section
variable {P : Program} {w : World} {K : Frag} {mg : Str -> Option Value} {base : Heap} {CT CS CH TB np : Addr}
theorem scPlat : FnScope ["town", "s", "d", "house"] ["town", "s", "d"] (defScope sPlat) := scOf
theorem ok_platW (D : Def K mg "plated_in_order" sPlat ["town", "s", "d"]) (o1 : Ok P w K mg base 2 "houses_in_order" ["town", "s", "d"] (spOrdW K CT CS CH TB)) (cl : Cl K CT CS CH) (gn : NoP K mg np) : Ok P w K mg base 3 "plated_in_order" ["town", "s", "d"] (spPlatW K CT CS CH TB) := by
 refine D.ok scPlat (fun vs H Q E h => ?_) fun f cdv A outer s0 H vs Q E hr h => ?_
 ·obtain ⟨T, s, d, a, b, ls, lh, ss, hs, rfl, _⟩ := h; rfl
 ·obtain ⟨T, s, d, a, b, ls, lh, ss, hs, rfl, R, G, lt, h0s, h0d, q⟩ := h
  have hu := hr.units
  refine ⟨_, pss_one (ps_ret (pe_lc (own := [("house", 3)]) rfl scPlat.nd (pi_list (pe_ok o1 hr rfl (pa_cons (pv 0) (pa_cons (pv 1) (pa_cons (pv 2) pa_nil))))) (blkOk_by rfl)
    (fun s H C cl fp => by exact pg_name (i := 3) scPlat.nd rfl (Or.inl rfl))
    (fun s H C cl fp => by exact pts_one (pt_cmpR (op_neTK K rfl hu) (pe_fldK K rfl (pv 3) rfl) (pe_glob (v := .ref np) rfl gn.1 rfl) rfl))
    (fun s H C cl fp => by exact pv 3))), ?_⟩
  refine ⟨_, rfl, _, rfl, _, rfl, T, s, d, a, b, ls, lh, ss, hs, rfl, R, G, lt, h0s, h0d, fun H1 D1 X1 lt1 n1 hD1 => ?_⟩
  have R1 := R.ext X1
  refine ⟨D1, rfl, ⟨_, SqL.of hD1⟩, fun F hF => ?_⟩
  refine lc_list (xs := refs hs (a.side s.toNat d.toNat)) (fun i H' => H' = upd H1 F (.lst (refs hs (((a.side s.toNat d.toNat).take i).filter fun h => (a.house h).plate != 0)))) rfl (fun i H' _ e => ?_) (fun i x H' hi e => ?_) fun H' e => ?_
  ·rw [e]
   exact (Ext.upd hF).seqL (SqL.of hD1)
  ·subst e
   obtain ⟨j, hj, rfl⟩ := refs_get hi
   obtain ⟨p, hp, gj⟩ := side_get R.hl hj
   rw [getD_at hp]
   obtain ⟨y, ey, ey2, dx, pl, st, sd, at_, h1, h2⟩ := R1.house hp
   rw [ey2] at gj
   obtain ⟨e1, e2, e3, e4⟩ := h2 gj
   have XF := Ext.upd (o := .lst (refs hs (((a.side s.toNat d.toNat).take i).filter fun h => (a.house h).plate != 0))) hF
   have h1' := XF.1 _ _ h1 (fun _ z => by cases z)
   refine ⟨rfl, _, rfl, p, CH, dx, _, _, rfl, h1', cl.h, cl.hn "plate" (by simp), rfl, pl, np, [numOf y, letOf y], [0, 0], rfl, rfl, XF.seqT e4, gn.2 _, sz8, sz8, _, rfl, ?_⟩
   have hc : (decide (([numOf y, letOf y] : List Int) = [0, 0])) = decide (y.plate = 0) := by
    rw [decide_eq_decide, <- numOf_zero y]
    simp
   refine ite2 (fun c => ?_) fun c => ?_
   ·have c : ¬ y.plate = 0 := by
     have c : (!decide (([numOf y, letOf y] : List Int) = [0, 0])) = true := c
     rw [hc] at c
     simpa using c
    refine ⟨_, rfl, _, upd_same, ?_, ?_⟩
    ·rw [refs_len]
     have l1 := List.length_filter_le (fun h => (a.house h).plate != 0) ((a.side s.toNat d.toNat).take i)
     have l2 := side_leO a G s.toNat d.toNat
     rw [List.length_take] at l1
     exact small40 (by omega)
    ·rw [upd_upd, take_filter_snoc hj, if_pos (by rw [ey2]; simpa using c), refs_snoc hp]
   ·have c : y.plate = 0 := by
     have c : ¬ (!decide (([numOf y, letOf y] : List Int) = [0, 0])) = true := c
     rw [hc] at c
     simpa using c
    rw [take_filter_snoc hj, if_neg (by rw [ey2, c]; decide)]
  ·subst e
   rw [refs_len, List.take_length]
   exact q _ F (X1.trans (Ext.upd hF)) (lt1.upd hF) (X1.2 F hF) upd_same
theorem ok_plat (D : Def K mg "plated_in_order" sPlat ["town", "s", "d"]) (o1 : Ok P w K mg base 2 "houses_in_order" ["town", "s", "d"] (spOrdW K CT CS CH TB)) (cl : Cl K CT CS CH) (gn : NoP K mg np) : Ok P w K mg base 3 "plated_in_order" ["town", "s", "d"] (spPlat K CT CS CH TB) :=
 (ok_platW D o1 cl gn).imp fun vs H Q E ⟨T, s, d, a, b, ls, lh, ss, hs, e, R, G, r⟩ => ⟨T, s, d, a, b, ls, lh, ss, hs, e, R, G.o, r⟩
end
abbrev sPlac : Stmt := top 51
def PlAt (K : Frag) (CH : Addr) (H : Hp) (p : Addr) (r : Nat) : Prop := ∃ dx fs pl n l, H p = some (.ins CH dx fs) /\ fs.lookup ("plate" : Str) = some (.ref pl) /\ SqT K H pl [.int n, .int l] /\ 0 <= n /\ n <= 4294967295 /\ (n - 1) / 2 * 27 + l = (r : Int)
theorem Same.seqT {K : Frag} {H H' : Hp} {a : Addr} {xs : List V} (e : Same H H') (h : SqT K H a xs) : SqT K H' a xs := (Ext.same e).seqT h
theorem PlAt.same {K : Frag} {CH : Addr} {H H' : Hp} {p : Addr} {r : Nat} (h : PlAt K CH H p r) (e : Same H H') : PlAt K CH H' p r := by
 obtain ⟨dx, fs, pl, n, l, h1, h2, h3, h4⟩ := h
 exact ⟨dx, fs, pl, n, l, e _ _ h1, h2, Same.seqT e h3, h4⟩
def spPlac (K : Frag) (CH : Addr) : Sp := fun vs H Q _ => ∃ (r : Addr) (d : Int) (ps : List Addr) (rk : List Nat), vs = [.ref r, .int d] /\ SqL K H r (ps.map V.ref) /\ ps.length = rk.length /\ rk.length <= 40 /\ (∀ (i : Nat) (p : Addr) (k : Nat), ps[i]? = some p -> rk[i]? = some k -> PlAt K CH H p k) /\ (d = 0 ∨ d = 1) /\
 ∀ (H' : Hp) (D : Addr), Same H H' -> H D = none -> H' D = some (.lst (nats (stayPlaces (Su54.top d.toNat) rk))) -> Q (.ref D) H'
def rooms (rk : List Nat) (i : Nat) : List V := (((prs rk).map rm).take i).map V.int
theorem rooms_snoc {rk : List Nat} {i k : Nat} (h : rk[i]? = some k) : rooms rk (i + 1) = rooms rk i ++ [.int ((k : Int) - (i : Int))] := by
 unfold rooms
 have e : ((prs rk).map rm)[i]? = some ((k : Int) - (i : Int)) := by
  have hi := (List.getElem?_eq_some_iff.mp h).1
  have hi' : i < (prs rk).length := by rw [prs_length]; exact hi
  obtain ⟨z, h2⟩ : ∃ z, (prs rk)[i]? = some z := ⟨_, List.getElem?_eq_getElem hi'⟩
  have h3 := prs_get h2
  rw [List.getElem?_map, h2]
  show some (rm z) = _
  unfold rm
  rw [h] at h3
  rw [h3.1, <- Option.some.inj h3.2]
 rw [List.take_add_one, e, List.map_append]
 rfl
theorem rooms_len (rk : List Nat) (i : Nat) : (rooms rk i).length <= i := by
 unfold rooms
 rw [List.length_map, List.length_take]
 omega
theorem rooms_all (rk : List Nat) : rooms rk rk.length = ((prs rk).map rm).map V.int := by
 unfold rooms
 rw [List.take_of_length_le (by rw [List.length_map, prs_length]; exact Nat.le_refl _)]
section
variable {P : Program} {w : World} {K : Frag} {mg : Str -> Option Value} {base : Heap} {CT CS CH : Addr}
theorem scPlac : FnScope ["plated", "side", "room", "most_room", "place", "house"] ["plated", "side"] (defScope sPlac) := scOf
theorem ok_plac (D : Def K mg "places_that_stay" sPlac ["plated", "side"]) (cl : Cl K CT CS CH) (g1 : mg "len" = none) (g2 : mg "enumerate" = none)
  (o1 : Ok P w K mg base 1 "rank_of" ["plate"] (spRankOf K)) (o2 : Ok P w K mg base 2 "plates_of_side" ["side"] spPlatesOf) (o3 : Ok P w K mg base 1 "stays_from" ["room", "most_room"] (spFrom K)) (o4 : Ok P w K mg base 1 "earliest_longest" ["lengths"] (spLong K)) :
  Ok P w K mg base 3 "places_that_stay" ["plated", "side"] (spPlac K CH) := by
 refine D.ok scPlac (fun vs H Q E h => ?_) fun f cdv A outer s0 H vs Q E hr h => ?_
 ·obtain ⟨r, d, ps, rk, rfl, _⟩ := h; rfl
 ·obtain ⟨r, d, ps, rk, rfl, hv, hpl, h40, hP, hd, q⟩ := h
  have hr1 := hr.mono (show 1 <= 2 by decide)
  refine ⟨_, pss_cons (ps_setLc (i := 2) (own := [("place", 4), ("house", 5)]) rfl scPlac.nd rfl rfl (sw_true rfl rfl rfl rfl) (pi_enum rfl g2 (pa_cons (pv 0) pa_nil)) (blkOk_by rfl)
    (fun s H C cl fp => by exact pg_tupK K rfl 2 rfl (pgs_cons (pg_name (i := 4) scPlac.nd rfl (Or.inl rfl)) (pgs_cons (pg_name (i := 5) scPlac.nd rfl (Or.inl rfl)) pgs_nil)) rfl rfl)
    (fun s H C cl fp => by exact pts_nil)
    (fun s H C cl fp => by exact pe_op op_sub (pe_ok o1 hr1 rfl (pa_cons (pe_fldK K rfl (pv 5) rfl) pa_nil)) (pv 4)))
   (pss_cons (ps_set (i := 3) scPlac.nd rfl (Or.inl rfl) (pe_op op_sub (pe_ok o2 hr rfl (pa_cons (pv 1) pa_nil)) (pe_callB call_len rfl g1 PySem.boot_len (pa_cons (pv 0) pa_nil))))
   (pss_one (ps_ret (pe_ok o4 hr1 rfl (pa_cons (pe_ok o3 hr1 rfl (pa_cons (pv 2) (pa_cons (pv 3) pa_nil))) pa_nil))))), ?_⟩
  refine ⟨_, rfl, r, _, rfl, hv, fun F hF => ?_⟩
  refine lc_by (n := rk.length) (fun i H' => Same H H' /\ H' F = some (.lst (rooms rk i))) ⟨Same.upd hF, upd_same⟩ (fun i H' hi e => ?_) (fun H' e => ?_) (fun i x H' H'' hi e y => ?_) fun H' e => ?_
  ·exact ⟨_, _, e.1.seq hv, List.getElem?_eq_getElem (by rw [List.length_map]; omega)⟩
  ·exact ⟨_, e.1.seq hv, by rw [List.length_map]; omega⟩
  ·obtain ⟨T, z, rfl, hT, rfl, hz⟩ := y
   obtain ⟨s2, hF2⟩ := e
   have hip : i < ps.length := by omega
   have ez : z = .ref ps[i] := by
    have := hz _ (s2.seq hv)
    rw [List.getElem?_map, List.getElem?_eq_getElem hip] at this
    exact (Option.some.inj this).symm
   subst ez
   have s3 : Same H (upd H' T (.tup [.int (i : Nat), .ref ps[i]])) := s2.trans (Same.upd hT)
   have hF3 : (upd H' T (.tup [.int (i : Nat), .ref ps[i]])) F = some (.lst (rooms rk i)) := by rw [upd_ne (ne_of_none hF2 hT)]; exact hF2
   obtain ⟨dx, fs, pl, n, l, h1, h2, h3, h4, h5, h6⟩ := (hP i _ _ (List.getElem?_eq_getElem hip) (List.getElem?_eq_getElem hi)).same s3
   refine ⟨T, _, rfl, .inl (.inl upd_same), rfl, _, _, rfl, _, _, rfl, rfl, rfl, ?_⟩
   dsimp only [tYes]
   rw [if_pos rfl]
   refine ⟨_, rfl, ps[i], CH, dx, fs, _, rfl, h1, cl.h, cl.hn "plate" (by simp), h2, pl, n, l, rfl, h3, h4, h5, _, rfl, _, _, rfl, rfl, _, hF3, ?_, ?_, ?_⟩
   ·have := rooms_len rk i
    exact small40 (by omega)
   ·intro b o e
    rw [upd_ne (ne_of_none e hF)]
    exact s3 b o e
   ·rw [upd_same, rooms_snoc (List.getElem?_eq_getElem hi), <- h6]
  ·obtain ⟨s2, hF2⟩ := e
   rw [rooms_all] at hF2
   refine ⟨_, rfl, d, rfl, hd, _, rfl, _, ps.length, rfl, ?_, _, _, rfl, rfl, ?_⟩
   ·exact .inl ⟨_, s2.seq hv, by rw [List.length_map]⟩
   ·refine ⟨_, rfl, _, rfl, F, (prs rk).map rm, _, rfl, SqL.of hF2, by rw [List.length_map, prs_length]; exact h40, fun H3 D3 s3 n3 h3 => ?_⟩
    refine ⟨D3, _, rfl, SqL.of h3, by rw [lens_length, List.length_map, prs_length]; exact h40, fun H4 D4 s4 n4 h4 => ?_⟩
    refine q H4 D4 ((s2.trans s3).trans s4) ((s2.trans s3).free n4) ?_
    rw [h4]
    unfold stayPlaces
    rw [hpl]
end
structure Kp (ls lh : Addr) (H H' : Hp) : Prop where
 lst : ∀ b xs, H b = some (.lst xs) -> b ≠ ls -> b ≠ lh -> H' b = some (.lst xs)
 frz : ∀ b o u, H b = some (.frz o u) -> H' b = some (.frz o u)
 dom : ∀ b, H' b = none -> H b = none
theorem Kp.ext {ls lh : Addr} {H H' : Hp} (e : Ext H H') : Kp ls lh H H' := ⟨fun b xs h _ _ => e.1 _ _ h (fun _ z => by cases z), fun b o u h => e.1 _ _ h (fun _ z => by cases z), e.2⟩
theorem Kp.trans {ls lh : Addr} {H H1 H2 : Hp} (a : Kp ls lh H H1) (b : Kp ls lh H1 H2) : Kp ls lh H H2 := ⟨fun c xs h n1 n2 => b.lst c xs (a.lst c xs h n1 n2) n1 n2, fun c o u h => b.frz c o u (a.frz c o u h), fun c h => a.dom c (b.dom c h)⟩
def But (p : Addr) (H H' : Hp) : Prop := ∀ b u, H b = some u -> b ≠ p -> H' b = some u
theorem But.upd {p : Addr} {H : Hp} {o : HO} : But p H (upd H p o) := fun b u e n => by rw [upd_ne n]; exact e
theorem LT.but {TB p C dx : Addr} {fs : List (Str × V)} {H H' : Hp} (h : LT TB H) (e : But p H H') (hp : H p = some (.ins C dx fs)) : LT TB H' := h.go fun b u q k => e _ _ q (ne_of q hp (by intro z; rw [z] at k; exact k))
theorem But.seqT {K : Frag} {p C dx : Addr} {fs : List (Str × V)} {H H' : Hp} {a : Addr} {xs : List V} (e : But p H H') (hp : H p = some (.ins C dx fs)) (h : SqT K H a xs) : SqT K H' a xs := by
 rcases h with (h | ⟨o, h⟩) | h
 ·exact .inl (.inl (e _ _ h (ne_of h hp (by intro z; cases z))))
 ·exact .inl (.inr ⟨o, e _ _ h (ne_of h hp (by intro z; cases z))⟩)
 ·exact .inr h
theorem Kp.but {ls lh p C dx : Addr} {fs : List (Str × V)} {H H' : Hp} {o : HO} (e : But p H H') (hp : H p = some (.ins C dx fs)) (hp' : H' p = some o) (dom : ∀ b, b ≠ p -> H' b = none -> H b = none) : Kp ls lh H H' :=
 ⟨fun b xs h _ _ => e _ _ h (ne_of h hp (by intro z; cases z)), fun b o u h => e _ _ h (ne_of h hp (by intro z; cases z)), fun b h => dom b (fun z => by rw [z, hp'] at h; cases h) h⟩
section
variable {K : Frag} {CT CS CH : Addr} {H H' : Hp} {T : Addr} {a : Su54.Abs} {b : Bool} {ls lh : Addr} {ss hs : List Addr}
theorem TownR.write (R : TownR K CT CS CH H T a b ls lh ss hs) {i : Nat} {p : Addr} {f : Su54.House -> Su54.House} (hi : hs[i]? = some p) (e : But p H H') (hn : ∀ x, a.houses[i]? = some x -> HouseAt K CH H' i p (f x)) : TownR K CT CS CH H' T (a.set i f) b ls lh ss hs := by
 obtain ⟨x, ex, ex2, dx, pl, st, sd, at_, h1, h2⟩ := R.house hi
 obtain ⟨dT, hT⟩ := R.tw
 refine ⟨⟨dT, e _ _ hT (ne_of hT h1 (by intro z; unfold tf hf at z; cases z))⟩, e _ _ R.ls (ne_of R.ls h1 (by intro z; cases z)), e _ _ R.lh (ne_of R.lh h1 (by intro z; cases z)), R.sn, R.hn, R.sl, ?_, fun j q y hj hy => ?_, fun j q y hj hy => ?_, R.ne⟩
 ·show hs.length = (a.houses.modify i f).length
  rw [List.length_modify]
  exact R.hl
 ·obtain ⟨dq, n, m, hq, k1, k2⟩ := R.st j q y hj hy
  exact ⟨dq, n, m, e _ _ hq (ne_of hq h1 (by intro z; unfold sf hf at z; cases z)), k1, k2⟩
 ·obtain ⟨z, hz, ⟨rfl, rfl⟩ | ⟨hne, rfl⟩⟩ := modify_get hy
  ·rw [hi] at hj
   cases hj
   exact hn z hz
  ·obtain ⟨dq, ql, qs, qd, qa, g1, g2⟩ := R.ho j q y hj hz
   have nq : q ≠ p := fun w => hne (nd_ix R.hn hj (by rw [w]; exact hi))
   exact ⟨dq, ql, qs, qd, qa, e _ _ g1 nq, fun g => let ⟨c1, c2, c3, c4⟩ := g2 g; ⟨c1, c2, c3, e.seqT h1 c4⟩⟩
end
def spDo (K : Frag) (CT CS CH TB : Addr) (n : Nat) (c : List Nat -> Su54.Call) : Sp := fun vs H Q _ => ∃ (T : Addr) (xs : List Int) (a : Su54.Abs) (ls lh : Addr) (ss hs : List Addr), vs = .ref T :: xs.map V.int /\ xs.length = n /\ (∀ x ∈ xs, 0 <= x /\ x <= 4294967295) /\ TownR K CT CS CH H T a true ls lh ss hs /\ Good a /\ LT TB H /\
 ∀ (H' : Hp) (D : Addr) (ls' lh' : Addr) (ss' hs' : List Addr), TownR K CT CS CH H' T (Su54.does a (c (xs.map Int.toNat))).1 true ls' lh' ss' hs' -> LT TB H' -> Kp ls lh H H' -> (ls' = ls ∨ H ls' = none) -> (lh' = lh ∨ H lh' = none) -> H D = none -> D ≠ ls' -> D ≠ lh' ->
  H' D = some (.lst (((Su54.does a (c (xs.map Int.toNat))).2.value :: Su54Neutral.outs (Su54.does a (c (xs.map Int.toNat))).2.out).map V.int)) -> Q (.ref D) H'
theorem spDo_len {K : Frag} {CT CS CH TB : Addr} {n : Nat} {c : List Nat -> Su54.Call} {ps : List Str} (h : n + 1 = ps.length := by rfl) : ∀ vs H Q E, spDo K CT CS CH TB n c vs H Q E -> vs.length = ps.length := fun vs H Q E ⟨T, xs, a, ls, lh, ss, hs, e, hl, _⟩ => by
 rw [e, List.length_cons, List.length_map, hl]
 exact h
abbrev sFindH : Stmt := top 25
def spFindH (K : Frag) (CT CS CH : Addr) : Sp := fun vs H Q _ => ∃ (T : Addr) (h : Int) (a : Su54.Abs) (b : Bool) (ls lh : Addr) (ss hs : List Addr), vs = [.ref T, .int h] /\ 0 <= h /\ TownR K CT CS CH H T a b ls lh ss hs /\
 (∀ p x, hs[h.toNat]? = some p -> a.houses[h.toNat]? = some x -> x.gone = false -> a.isH h.toNat = true -> Q (.ref p) H) /\ (a.isH h.toNat = false -> Q .non H)
section
variable {P : Program} {w : World} {K : Frag} {mg : Str -> Option Value} {base : Heap} {CT CS CH TB : Addr}
theorem scFindH : FnScope ["town", "h"] ["town", "h"] (defScope sFindH) := scOf
theorem ok_findH (D : Def K mg "find_house" sFindH ["town", "h"]) (cl : Cl K CT CS CH) (g1 : mg "len" = none) : Ok P w K mg base 1 "find_house" ["town", "h"] (spFindH K CT CS CH) := by
 refine D.ok scFindH (fun vs H Q E h => ?_) fun f cdv A outer s0 H vs Q E hr h => ?_
 ·obtain ⟨T, h, a, b, ls, lh, ss, hs, rfl, _⟩ := h; rfl
 ·obtain ⟨T, h, a, b, ls, lh, ss, hs, rfl, h0, R, q1, q2⟩ := h
  refine ⟨_, pss_cons (ps_if (PW.pt (pw_and (pt_cmpR op_lt (pv 1) (pe_callB call_len rfl g1 PySem.boot_len (pa_cons (pe_fld (pv 0) rfl) pa_nil)) rfl) (pw_and1 (pt_val (pe_fld (pe_ix ix_list (pe_fld (pv 0) rfl) (pv 1) (fun _ _ => rfl)) rfl)))))
    (pss_one (ps_ret (pe_ix ix_list (pe_fld (pv 0) rfl) (pv 1) (fun _ _ => rfl)))) pss_nil)
   (pss_one (ps_ret pe_non)), ?_⟩
  obtain ⟨dT, hT⟩ := R.tw
  have tn := cl.tn "houses" (by simp)
  refine ⟨_, rfl, _, rfl, T, CT, dT, _, _, rfl, hT, cl.t, tn, rfl, _, hs.length, rfl, .inl ⟨_, SqL.of R.lh, by rw [List.length_map]⟩, _, _, rfl, rfl, _, rfl, ?_⟩
  have off : hs.length <= h.toNat -> a.isH h.toNat = false := fun z => by
   unfold Su54.Abs.isH Su54.Abs.house
   rw [List.getD_eq_getElem?_getD, List.getElem?_eq_none (by rw [<- R.hl]; exact z)]
   rfl
  refine ite2 (fun c => ?_) fun c => ?_
  ·have c : h < (hs.length : Nat) := of_decide_eq_true c
   have hl : h.toNat < hs.length := by omega
   obtain ⟨p, hp⟩ : ∃ p, hs[h.toNat]? = some p := ⟨_, List.getElem?_eq_getElem hl⟩
   obtain ⟨x, ex, ex2, dx, pl, st, sd, at_, h1, h2⟩ := R.house hp
   have eh : h = ((h.toNat : Nat) : Int) := by omega
   have hpV : atI (hs.map V.ref) h = some (.ref p) := at_of eh (by rw [List.getElem?_map, hp]; rfl)
   have hI : a.isH h.toNat = !x.gone := by unfold Su54.Abs.isH; rw [ex2]
   refine ⟨_, rfl, T, CT, dT, _, _, rfl, hT, cl.t, tn, rfl, _, rfl, lh, _, _, _, rfl, rfl, SqL.of R.lh, hpV, p, CH, dx, _, _, rfl, h1, cl.h, cl.hn "stands" (by simp), rfl, _, rfl, ?_⟩
   refine ite2 (fun g => ?_) fun g => ?_
   ·have g : x.gone = false := by simpa using g
    exact ⟨_, rfl, T, CT, dT, _, _, rfl, hT, cl.t, tn, rfl, _, rfl, lh, _, _, _, rfl, rfl, SqL.of R.lh, hpV, q1 p x hp ex g (by rw [hI, g]; rfl)⟩
   ·have g : x.gone = true := by simpa using g
    exact q2 (by rw [hI, g]; rfl)
  ·have c : ¬ h < (hs.length : Nat) := fun z => c (decide_eq_true z)
   exact iteF (q2 (off (by omega)))
end
def Want (K : Frag) (CT CS CH TB T : Addr) (ls lh : Addr) (H : Hp) (a : Su54.Abs) (c : Su54.Call) (Q : VK) : Prop := ∀ (H' : Hp) (D : Addr) (ls' lh' : Addr) (ss' hs' : List Addr), TownR K CT CS CH H' T (Su54.does a c).1 true ls' lh' ss' hs' -> LT TB H' -> Kp ls lh H H' -> (ls' = ls ∨ H ls' = none) -> (lh' = lh ∨ H lh' = none) -> H D = none -> D ≠ ls' -> D ≠ lh' ->
  H' D = some (.lst (((Su54.does a c).2.value :: Su54Neutral.outs (Su54.does a c).2.out).map V.int)) -> Q (.ref D) H'
section
variable {K : Frag} {CT CS CH TB T : Addr} {ls lh : Addr} {ss hs : List Addr} {H H1 : Hp} {a : Su54.Abs} {c : Su54.Call} {Q : VK}
theorem Want.keep {v : Int} {out : List Nat} (q : Want K CT CS CH TB T ls lh H a c Q) (R : TownR K CT CS CH H T a true ls lh ss hs) (X1 : Ext H H1) (lt : LT TB H1) (e : Su54.does a c = (a, { value := v, out := out })) (D : Addr) (hD : H1 D = none) : Q (.ref D) (upd H1 D (.lst ((v :: Su54Neutral.outs out).map V.int))) := by
 have R2 := (R.ext X1).ext (Ext.upd (o := .lst ((v :: Su54Neutral.outs out).map V.int)) hD)
 have R1 := R.ext X1
 refine q _ D ls lh ss hs ?_ (lt.upd hD) (Kp.ext (X1.trans (Ext.upd hD))) (.inl rfl) (.inl rfl) (X1.2 D hD) (fun z => ?_) (fun z => ?_) ?_
 ·rw [e]; exact R2
 ·rw [z, R1.ls] at hD; cases hD
 ·rw [z, R1.lh] at hD; cases hD
 ·rw [upd_same, e]
theorem Want.no {v : Int} (q : Want K CT CS CH TB T ls lh H a c Q) (R : TownR K CT CS CH H T a true ls lh ss hs) (X1 : Ext H H1) (lt : LT TB H1) (e : Su54.does a c = (a, Su54.no v)) (D : Addr) (hD : H1 D = none) : Q (.ref D) (upd H1 D (.lst [.int v])) := q.keep R X1 lt e D hD
end
abbrev sExch : Stmt := top 55
def spExch (K : Frag) (CH : Addr) : Sp := fun vs H Q _ => ∃ (p r dx : Addr) (i st sd at_ : Int) (pl : Addr) (bb : Bool) (n l : Int), vs = [.ref p, .ref r] /\ H p = some (.ins CH dx (hf i st sd at_ pl bb)) /\ SqT K H pl [.int n, .int l] /\
 ∀ D, (upd H p (.ins CH dx (hf i st sd at_ r bb))) D = none -> Q (.ref D) (upd (upd H p (.ins CH dx (hf i st sd at_ r bb))) D (.lst [.int 0, .int n, .int l]))
theorem put_plate {i st sd at_ : Int} {pl r : Addr} {bb : Bool} : putF "plate" (.ref r) (hf i st sd at_ pl bb) = hf i st sd at_ r bb := rfl
theorem put_stands {i st sd at_ : Int} {pl : Addr} {bb b2 : Bool} : putF "stands" (.bl b2) (hf i st sd at_ pl bb) = hf i st sd at_ pl b2 := rfl
section
variable {P : Program} {w : World} {K : Frag} {mg : Str -> Option Value} {base : Heap} {CT CS CH TB np : Addr}
theorem scExch : FnScope ["house", "plate", "former"] ["house", "plate"] (defScope sExch) := scOf
theorem ok_exch (D : Def K mg "exchange_plate" sExch ["house", "plate"]) (cl : Cl K CT CS CH) : Ok P w K mg base 1 "exchange_plate" ["house", "plate"] (spExch K CH) := by
 refine D.ok scExch (fun vs H Q E h => ?_) fun f cdv A outer s0 H vs Q E hr h => ?_
 ·obtain ⟨p, r, dx, i, st, sd, at_, pl, bb, n, l, rfl, _⟩ := h; rfl
 ·obtain ⟨p, r, dx, i, st, sd, at_, pl, bb, n, l, rfl, hp, ht, q⟩ := h
  refine ⟨_, pss_cons (ps_set (i := 2) scExch.nd rfl (Or.inl rfl) (pe_fld (pv 0) rfl)) (pss_cons (ps_fld (pv 0) (pv 1) rfl)
   (pss_one (ps_ret (pe_lst (pa_cons pe_int (pa_cons (pe_ix ix_tup (pv 2) pe_int (fun _ _ => rfl)) (pa_cons (pe_ix ix_tup (pv 2) pe_int (fun _ _ => rfl)) pa_nil))))))), ?_⟩
  have np := cl.hn "plate" (by simp)
  refine ⟨_, rfl, p, CH, dx, _, _, rfl, hp, cl.h, np, rfl, ?_⟩
  refine ⟨_, rfl, _, rfl, p, CH, dx, _, rfl, hp, cl.h, np, sq6, ?_⟩
  rw [put_plate]
  have ht' := But.upd.seqT (H' := upd H p (.ins CH dx (hf i st sd at_ r bb))) hp ht
  exact ⟨_, rfl, pl, _, _, _, rfl, rfl, ht', rfl, _, rfl, pl, _, _, _, rfl, rfl, ht', rfl, sz3, q⟩
abbrev sTake : Stmt := top 57
abbrev cTake : List Nat -> Su54.Call := fun l => .unplate (l.getD 0 0)
theorem scTake : FnScope ["town", "h", "house"] ["town", "h"] (defScope sTake) := scOf
theorem one_of {xs : List Int} (h : xs.length = 1) : ∃ x, xs = [x] := match xs, h with | [x], _ => ⟨x, rfl⟩
theorem ok_take (D : Def K mg "take_plate" sTake ["town", "h"]) (cl : Cl K CT CS CH) (gn : NoP K mg np) (n1 : Num mg "NO_SUCH" (-2)) (n2 : Num mg "WITHOUT_PLATE" (-6)) (o1 : Ok P w K mg base 1 "find_house" ["town", "h"] (spFindH K CT CS CH)) (o2 : Ok P w K mg base 1 "exchange_plate" ["house", "plate"] (spExch K CH)) :
  Ok P w K mg base 2 "take_plate" ["town", "h"] (spDo K CT CS CH TB 1 cTake) := by
 refine D.ok scTake spDo_len fun f cdv A outer s0 H vs Q E hr h => ?_
 ·obtain ⟨T, xs, a, ls, lh, ss, hs, rfl, hl, hx, R, G, lt, q⟩ := h
  obtain ⟨h, rfl⟩ := one_of hl
  have h0 := (hx h (by simp)).1
  have q : Want K CT CS CH TB T ls lh H a (.unplate h.toNat) Q := q
  have hu := hr.units
  refine ⟨_, pss_cons (ps_set (i := 2) scTake.nd rfl (Or.inl rfl) (pe_ok o1 hr rfl (pa_cons (pv 0) (pa_cons (pv 1) pa_nil))))
   (pss_cons (ps_if (pt_cmp (pc_isN (pv 2))) (pss_one (ps_ret (pe_lst (pa_cons (pe_num n1 rfl) pa_nil)))) pss_nil)
   (pss_cons (ps_if (pt_cmpR (op_eqT hu) (pe_fld (pv 2) rfl) (pe_glob (v := .ref np) rfl gn.1 rfl) rfl) (pss_one (ps_ret (pe_lst (pa_cons (pe_num n2 rfl) pa_nil)))) pss_nil)
   (pss_one (ps_ret (pe_ok o2 hr rfl (pa_cons (pv 2) (pa_cons (pe_glob (v := .ref np) rfl gn.1 rfl) pa_nil))))))), ?_⟩
  refine ⟨_, rfl, _, rfl, T, h, a, true, ls, lh, ss, hs, rfl, h0, R, fun p x hp ex g hI => ?_, fun hI => ?_⟩
  ·obtain ⟨x', ex', ex2, dx, pl, st, sd, at_, h1, h2⟩ := R.house hp
   rw [ex] at ex'
   cases ex'
   obtain ⟨e1, e2, e3, e4⟩ := h2 g
   refine ⟨_, rfl, _, rfl, iteF ?_⟩
   refine ⟨_, rfl, p, CH, dx, _, _, rfl, h1, cl.h, cl.hn "plate" (by simp), rfl, pl, np, [numOf x, letOf x], [0, 0], rfl, rfl, e4, gn.2 _, sz8, sz8, _, rfl, ?_⟩
   have hc : (decide (([numOf x, letOf x] : List Int) = [0, 0])) = decide (x.plate = 0) := by
    rw [decide_eq_decide, <- numOf_zero x]
    simp
   refine ite2 (fun c => ?_) fun c => ?_
   ·have c : x.plate = 0 := by
     have c : decide (([numOf x, letOf x] : List Int) = [0, 0]) = true := c
     rw [hc] at c
     exact of_decide_eq_true c
    refine ⟨sz1, fun D' hD' => q.no R (Ext.refl H) lt ?_ D' hD'⟩
    dsimp only [Su54.does]
    rw [if_neg (by rw [hI]; decide), if_pos (by rw [ex2]; exact c)]
   ·have c : ¬ x.plate = 0 := by
     have c : ¬ decide (([numOf x, letOf x] : List Int) = [0, 0]) = true := c
     rw [hc] at c
     simpa using c
    have ed : Su54.does a (.unplate h.toNat) = (a.set h.toNat (fun x => { x with plate := 0 }), Su54.num 0 (Su54.told x)) := by
     dsimp only [Su54.does]
     rw [if_neg (by rw [hI]; decide), if_neg (by rw [ex2]; exact c), ex2]
    refine ⟨_, rfl, p, np, dx, _, _, _, _, pl, _, _, _, rfl, h1, e4, fun D' hD' => ?_⟩
    have B1 : But p H (upd H p (.ins CH dx (hf h.toNat st sd at_ np (!x.gone)))) := But.upd
    have Ru := R.write (f := fun x => { x with plate := 0 }) hp B1 fun z hz => ?_
    ·have nD : D' ≠ p := fun z => by rw [z, upd_same] at hD'; cases hD'
     have hDH : H D' = none := by rw [upd_ne nD] at hD'; exact hD'
     have R2 := Ru.ext (Ext.upd (o := .lst [.int 0, .int (numOf x), .int (letOf x)]) hD')
     refine q _ D' ls lh ss hs (by rw [ed]; exact R2) ((lt.but B1 h1).upd hD') ((Kp.but B1 h1 upd_same fun b hb e => by rw [upd_ne hb] at e; exact e).trans (Kp.ext (Ext.upd hD'))) (.inl rfl) (.inl rfl) hDH (fun z => ?_) (fun z => ?_) ?_
     ·rw [z, Ru.ls] at hD'; cases hD'
     ·rw [z, Ru.lh] at hD'; cases hD'
     ·rw [upd_same, ed]
      have := told_eq x
      show _ = some (HO.lst (((0 : Int) :: (Su54.told x).map fun n : Nat => (n : Int)).map V.int))
      rw [this]
      rfl
    ·rw [ex] at hz
     cases hz
     refine ⟨dx, np, st, sd, at_, upd_same, fun _ => ⟨e1, e2, e3, ?_⟩⟩
     exact gn.2 _
  ·refine ⟨_, rfl, _, rfl, iteT ?_⟩
   refine ⟨sz1, fun D' hD' => q.no R (Ext.refl H) lt ?_ D' hD'⟩
   dsimp only [Su54.does]
   rw [if_pos hI]
end
section
variable {P : Program} {w : World} {K : Frag} {mg : Str -> Option Value} {base : Heap} {CT CS CH TB np : Addr}
theorem Want.wrote {T ls lh : Addr} {ss hs : List Addr} {H H0 : Hp} {a : Su54.Abs} {c : Su54.Call} {Q : VK} (q : Want K CT CS CH TB T ls lh H a c Q) (X0 : Ext H H0) (R : TownR K CT CS CH H0 T a true ls lh ss hs) (lt : LT TB H0) {i : Nat} {p dx C : Addr} {fs fs' : List (Str × V)} {f : Su54.House -> Su54.House} {v : Int} {out : List Nat} (hp : hs[i]? = some p) (h1 : H0 p = some (.ins C dx fs))
  (ed : Su54.does a c = (a.set i f, { value := v, out := out })) (hn : ∀ x, a.houses[i]? = some x -> HouseAt K CH (upd H0 p (.ins C dx fs')) i p (f x)) (D : Addr) (hD : (upd H0 p (.ins C dx fs')) D = none) : Q (.ref D) (upd (upd H0 p (.ins C dx fs')) D (.lst ((v :: Su54Neutral.outs out).map V.int))) := by
 have B1 : But p H0 (upd H0 p (.ins C dx fs')) := But.upd
 have Ru := R.write (f := f) hp B1 hn
 have nD : D ≠ p := fun z => by rw [z, upd_same] at hD; cases hD
 have hDH : H0 D = none := by rw [upd_ne nD] at hD; exact hD
 have R2 := Ru.ext (Ext.upd (o := .lst ((v :: Su54Neutral.outs out).map V.int)) hD)
 refine q _ D ls lh ss hs (by rw [ed]; exact R2) ((lt.but B1 h1).upd hD) (((Kp.ext X0).trans (Kp.but B1 h1 upd_same fun b hb e => by rw [upd_ne hb] at e; exact e)).trans (Kp.ext (Ext.upd hD))) (.inl rfl) (.inl rfl) (X0.2 D hDH) (fun z => ?_) (fun z => ?_) ?_
 ·rw [z, Ru.ls] at hD; cases hD
 ·rw [z, Ru.lh] at hD; cases hD
 ·rw [upd_same, ed]
theorem outs_told (x : Su54.House) : ((0 : Int) :: Su54Neutral.outs (Su54.told x)).map V.int = [.int 0, .int (numOf x), .int (letOf x)] := by
 have := told_eq x
 unfold Su54Neutral.outs
 rw [this]
 rfl
abbrev sPull : Stmt := top 44
abbrev cPull : List Nat -> Su54.Call := fun l => .pull (l.getD 0 0)
theorem scPull : FnScope ["town", "h", "house"] ["town", "h"] (defScope sPull) := scOf
theorem ok_pull (D : Def K mg "pull_house" sPull ["town", "h"]) (cl : Cl K CT CS CH) (n1 : Num mg "NO_SUCH" (-2)) (o1 : Ok P w K mg base 1 "find_house" ["town", "h"] (spFindH K CT CS CH)) : Ok P w K mg base 2 "pull_house" ["town", "h"] (spDo K CT CS CH TB 1 cPull) := by
 refine D.ok scPull spDo_len fun f cdv A outer s0 H vs Q E hr h => ?_
 ·obtain ⟨T, xs, a, ls, lh, ss, hs, rfl, hl, hx, R, G, lt, q⟩ := h
  obtain ⟨h, rfl⟩ := one_of hl
  have h0 := (hx h (by simp)).1
  have q : Want K CT CS CH TB T ls lh H a (.pull h.toNat) Q := q
  refine ⟨_, pss_cons (ps_set (i := 2) scPull.nd rfl (Or.inl rfl) (pe_ok o1 hr rfl (pa_cons (pv 0) (pa_cons (pv 1) pa_nil))))
   (pss_cons (ps_if (pt_cmp (pc_isN (pv 2))) (pss_one (ps_ret (pe_lst (pa_cons (pe_num n1 rfl) pa_nil)))) pss_nil)
   (pss_cons (ps_fld (pv 2) pe_bl rfl)
   (pss_one (ps_ret (pe_lst (pa_cons pe_int (pa_cons (pe_ix ix_tup (pe_fld (pv 2) rfl) pe_int (fun _ _ => rfl)) (pa_cons (pe_ix ix_tup (pe_fld (pv 2) rfl) pe_int (fun _ _ => rfl)) pa_nil)))))))), ?_⟩
  refine ⟨_, rfl, _, rfl, T, h, a, true, ls, lh, ss, hs, rfl, h0, R, fun p x hp ex g hI => ?_, fun hI => ?_⟩
  ·obtain ⟨x', ex', ex2, dx, pl, st, sd, at_, h1, h2⟩ := R.house hp
   rw [ex] at ex'
   cases ex'
   obtain ⟨e1, e2, e3, e4⟩ := h2 g
   refine ⟨_, rfl, _, rfl, iteF ?_⟩
   refine ⟨_, rfl, p, CH, dx, _, rfl, h1, cl.h, cl.hn "stands" (by simp), sq6, ?_⟩
   rw [put_stands]
   have e4' := But.upd.seqT (H' := upd H p (.ins CH dx (hf h.toNat st sd at_ pl false))) h1 e4
   refine ⟨_, rfl, p, CH, dx, _, _, rfl, upd_same, cl.h, cl.hn "plate" (by simp), rfl, pl, _, _, _, rfl, rfl, e4', rfl, _, rfl, p, CH, dx, _, _, rfl, upd_same, cl.h, cl.hn "plate" (by simp), rfl, pl, _, _, _, rfl, rfl, e4', rfl, sz3, fun D' hD' => ?_⟩
   have := q.wrote (Ext.refl H) R lt (f := fun x => { x with gone := true, plate := 0 }) (v := 0) (out := Su54.told x) hp h1 (by
    dsimp only [Su54.does]
    rw [if_neg (by rw [hI]; decide), ex2]
    rfl) (fun z hz => ⟨dx, pl, st, sd, at_, upd_same, fun g => by cases g⟩) D' hD'
   rw [outs_told] at this
   exact this
  ·refine ⟨_, rfl, _, rfl, iteT ?_⟩
   refine ⟨sz1, fun D' hD' => q.no R (Ext.refl H) lt ?_ D' hD'⟩
   dsimp only [Su54.does]
   rw [if_pos hI]
abbrev sPut : Stmt := top 56
abbrev cPut : List Nat -> Su54.Call := fun l => .plate (l.getD 0 0) (l.getD 1 0) (l.getD 2 0)
theorem three_of {xs : List Int} (h : xs.length = 3) : ∃ x y z, xs = [x, y, z] := match xs, h with | [x, y, z], _ => ⟨x, y, z, rfl⟩
theorem scPut : FnScope ["town", "h", "n", "letter", "house", "other"] ["town", "h", "n", "letter"] (defScope sPut) := scOf
theorem rank_iff {d n l r : Nat} (hd : d <= 1) (hn : 1 <= n) (hp : n % 2 = 1 - d) (hl : l <= 26) : r = Su54.rank d n l ↔ Su54.number d r = n /\ Su54.letter r = l := by
 unfold Su54.rank Su54.number Su54.letter
 omega
theorem plate_iff {x : Su54.House} {n l : Nat} (hd : x.side <= 1) (hn : 1 <= n) (hp : n % 2 = 1 - x.side) (hl : l <= 26) : (([numOf x, letOf x] : List Int) = [(n : Int), (l : Int)]) ↔ x.plate = Su54.rank x.side n l + 1 := by
 have key := rank_iff (r := x.plate - 1) hd hn hp hl
 unfold numOf letOf
 constructor
 ·intro h
  split at h
  ·simp at h
   omega
  ·simp only [List.cons.injEq, and_true] at h
   have := key.mpr ⟨by omega, by omega⟩
   omega
 ·intro h
  have hz : ¬ x.plate = 0 := by omega
  rw [if_neg hz, if_neg hz]
  have := key.mp (by omega)
  rw [this.1, this.2]
theorem has_iff {a : Su54.Abs} {s d r : Nat} : (a.has s d r).isSome = true ↔ ∃ j ∈ a.side s d, (a.house j).plate = r + 1 := by
 unfold Su54.Abs.has Su54.Abs.plated
 rw [List.find?_isSome]
 constructor
 ·rintro ⟨j, hj, e⟩
  exact ⟨j, (List.mem_filter.mp hj).1, beq_iff_eq.mp e⟩
 ·rintro ⟨j, hj, e⟩
  exact ⟨j, List.mem_filter.mpr ⟨hj, by rw [e]; simp⟩, beq_iff_eq.mpr e⟩
theorem TupsAt.snoc {H : Hp} {p : Addr} {c : List Int} (h : SqT K H p (c.map V.int)) (h8 : c.length <= 8) : ∀ {ps : List Addr} {cs : List (List Int)}, TupsAt K H ps cs -> TupsAt K H (ps ++ [p]) (cs ++ [c])
 | _, _, .nil => .cons ⟨h, h8⟩ .nil
 | _, _, .cons r t => .cons r (TupsAt.snoc h h8 t)
theorem TupsAt.ext {H H' : Hp} (e : Ext H H') : ∀ {ps : List Addr} {cs : List (List Int)}, TupsAt K H ps cs -> TupsAt K H' ps cs
 | _, _, .nil => .nil
 | _, _, .cons r t => .cons ⟨e.seqT r.1, r.2⟩ (TupsAt.ext e t)
def plOf (a : Su54.Abs) (j : Nat) : List Int := [numOf (a.house j), letOf (a.house j)]
theorem ok_put (D : Def K mg "put_plate" sPut ["town", "h", "n", "letter"]) (cl : Cl K CT CS CH) (n1 : Num mg "NO_SUCH" (-2)) (n2 : Num mg "OUT_OF_RANGE" (-22)) (n3 : Num mg "WRONG_SIDE" (-71)) (n4 : Num mg "SO_ALREADY" (-17))
  (o1 : Ok P w K mg base 1 "find_house" ["town", "h"] (spFindH K CT CS CH)) (o2 : Ok P w K mg base 1 "exchange_plate" ["house", "plate"] (spExch K CH)) (o3 : Ok P w K mg base 1 "is_plate" ["number", "letter"] spIsPlate) (o4 : Ok P w K mg base 1 "is_of_side" ["number", "side"] spOfSide) (o5 : Ok P w K mg base 2 "houses_in_order" ["town", "s", "d"] (spOrd K CT CS CH TB)) :
  Ok P w K mg base 3 "put_plate" ["town", "h", "n", "letter"] (spDo K CT CS CH TB 3 cPut) := by
 refine D.ok scPut spDo_len fun f cdv A outer s0 H vs Q E hr h => ?_
 ·obtain ⟨T, xs, a, ls, lh, ss, hs, rfl, hl, hx, R, G, lt, q⟩ := h
  obtain ⟨h, n, l, rfl⟩ := three_of hl
  have h0 := (hx h (by simp)).1
  have hn0 := (hx n (by simp)).1
  have hl0 := (hx l (by simp)).1
  have q : Want K CT CS CH TB T ls lh H a (.plate h.toNat n.toNat l.toNat) Q := q
  have hr1 := hr.mono (show 1 <= 2 by decide)
  have hu : (A.deeper (envOfC "put_plate" (defScope sPut) s0.heap.objs.size f cdv)).units + 100 < cLine := by have := hr.un; omega
  refine ⟨_, pss_cons (ps_set (i := 4) scPut.nd rfl (Or.inl rfl) (pe_ok o1 hr1 rfl (pa_cons (pv 0) (pa_cons (pv 1) pa_nil))))
   (pss_cons (ps_if (pt_cmp (pc_isN (pv 4))) (pss_one (ps_ret (pe_lst (pa_cons (pe_num n1 rfl) pa_nil)))) pss_nil)
   (pss_cons (ps_if (pt_not (pt_val (pe_ok o3 hr1 rfl (pa_cons (pv 2) (pa_cons (pv 3) pa_nil))))) (pss_one (ps_ret (pe_lst (pa_cons (pe_num n2 rfl) pa_nil)))) pss_nil)
   (pss_cons (ps_if (pt_not (pt_val (pe_ok o4 hr1 rfl (pa_cons (pv 2) (pa_cons (pe_fld (pv 4) rfl) pa_nil))))) (pss_one (ps_ret (pe_lst (pa_cons (pe_num n3 rfl) pa_nil)))) pss_nil)
   (pss_cons (ps_if (pt_cmpR (op_inT hu) (pe_tup (pa_cons (pv 2) (pa_cons (pv 3) pa_nil)))
     (pe_lc (own := [("other", 5)]) rfl scPut.nd (pi_list (pe_ok o5 hr rfl (pa_cons (pv 0) (pa_cons (pe_fld (pv 4) rfl) (pa_cons (pe_fld (pv 4) rfl) pa_nil))))) (blkOk_by rfl)
      (fun s H C cl fp => by exact pg_name (i := 5) scPut.nd rfl (Or.inl rfl)) (fun s H C cl fp => by exact pts_nil) (fun s H C cl fp => by exact pe_fldK K rfl (pv 5) rfl)) rfl)
    (pss_one (ps_ret (pe_lst (pa_cons (pe_num n4 rfl) pa_nil)))) pss_nil)
   (pss_one (ps_ret (pe_ok o2 hr1 rfl (pa_cons (pv 4) (pa_cons (pe_tup (pa_cons (pv 2) (pa_cons (pv 3) pa_nil))) pa_nil))))))))), ?_⟩
  refine ⟨_, rfl, _, rfl, T, h, a, true, ls, lh, ss, hs, rfl, h0, R, fun p x hp ex g hI => ?_, fun hI => ?_⟩
  ·obtain ⟨x', ex', ex2, dx, pl, st, sd, at_, h1, h2⟩ := R.house hp
   rw [ex] at ex'
   cases ex'
   obtain ⟨e1, e2, e3, e4⟩ := h2 g
   have hside := (G.ho _ x ex g).1
   have ed0 : Su54.does a (.plate h.toNat n.toNat l.toNat) = if Su54.okName n.toNat = false ∨ 26 < l.toNat then (a, Su54.no (-22)) else if n.toNat % 2 ≠ 1 - x.side then (a, Su54.no (-71)) else if (a.has x.street x.side (Su54.rank x.side n.toNat l.toNat)).isSome then (a, Su54.no (-17)) else (a.set h.toNat fun x' => { x' with plate := Su54.rank x.side n.toNat l.toNat + 1 }, Su54.num 0 (Su54.told x)) := by
    dsimp only [Su54.does]
    rw [if_neg (by rw [hI]; decide), ex2]
   refine ⟨_, rfl, _, rfl, iteF ?_⟩
   refine ⟨_, rfl, _, rfl, n, l, rfl, _, rfl, ?_⟩
   refine ite2 (fun c => ?_) fun c => ?_
   ·have c : ¬ (1 <= n /\ n <= 999 /\ l <= 26) := by
     have c : (!decide (1 <= n /\ n <= 999 /\ l <= 26)) = true := c
     rw [Bool.not_eq_true'] at c
     exact of_decide_eq_false c
    refine ⟨sz1, fun D' hD' => q.no R (Ext.refl H) lt ?_ D' hD'⟩
    rw [ed0, if_pos]
    by_cases z : Su54.okName n.toNat = false
    ·exact .inl z
    ·have := okName_iff.mp (show Su54.okName n.toNat = true by simpa using z)
     exact .inr (by omega)
   ·have c : 1 <= n /\ n <= 999 /\ l <= 26 := by
     have c : ¬ (!decide (1 <= n /\ n <= 999 /\ l <= 26)) = true := c
     simpa using c
    have ed1 : ¬ (Su54.okName n.toNat = false ∨ 26 < l.toNat) := by
     rintro (z | z)
     ·have : Su54.okName n.toNat = true := okName_iff.mpr (by omega)
      rw [this] at z
      cases z
     ·omega
    rw [if_neg ed1] at ed0
    refine ⟨_, rfl, _, rfl, p, CH, dx, _, _, rfl, h1, cl.h, cl.hn "side" (by simp), rfl, n, sd, rfl, _, rfl, ?_⟩
    refine ite2 (fun c2 => ?_) fun c2 => ?_
    ·have c2 : n % 2 = sd := by
      have c2 : (!(!decide (n % 2 = sd))) = true := c2
      simpa using c2
     refine ⟨sz1, fun D' hD' => q.no R (Ext.refl H) lt ?_ D' hD'⟩
     rw [ed0, if_pos (by omega)]
    ·have c2 : ¬ n % 2 = sd := by
      have c2 : ¬ (!(!decide (n % 2 = sd))) = true := c2
      simpa using c2
     have hpar : n.toNat % 2 = 1 - x.side := by omega
     rw [if_neg (by omega)] at ed0
     refine ⟨_, rfl, _, rfl, sz2, fun Tp hTp => ?_⟩
     have X1 : Ext H (upd H Tp (.tup [.int n, .int l])) := Ext.upd hTp
     have h1' := X1.1 _ _ h1 (fun _ z => by cases z)
     have lt1 : LT TB (upd H Tp (.tup [.int n, .int l])) := lt.upd hTp
     refine ⟨_, rfl, _, rfl, p, CH, dx, _, _, rfl, h1', cl.h, cl.hn "street" (by simp), rfl, _, rfl, p, CH, dx, _, _, rfl, h1', cl.h, cl.hn "side" (by simp), rfl, T, st, sd, a, true, ls, lh, ss, hs, rfl, R.ext X1, G, lt1, by omega, by omega, fun H2 D2 X2 lt2 nD2 hD2 => ?_⟩
     have XH2 := X1.trans X2
     have R2 := R.ext XH2
     have es : st.toNat = x.street := by omega
     have esd : sd.toNat = x.side := by omega
     rw [es, esd] at hD2
     refine ⟨D2, rfl, ⟨_, SqL.of hD2⟩, fun F hF => ?_⟩
     refine lc_list (xs := refs hs (a.side x.street x.side)) (fun i H' => ∃ ps, H' = upd H2 F (.lst (ps.map V.ref)) /\ ps.length = i /\ TupsAt K H2 ps (((a.side x.street x.side).take i).map (plOf a))) ⟨[], rfl, rfl, .nil⟩ (fun i H' _ e => ?_) (fun i y H' hi e => ?_) fun H' e => ?_
     ·obtain ⟨ps, e, _⟩ := e
      rw [e]
      exact (Ext.upd hF).seqL (SqL.of hD2)
     ·obtain ⟨ps, rfl, hpl, htu⟩ := e
      obtain ⟨j, hj, rfl⟩ := refs_get hi
      obtain ⟨pj, hpj, gj⟩ := side_get R.hl hj
      rw [getD_at hpj]
      obtain ⟨y, ey, ey2, dy, ply, sty, sdy, aty, k1, k2⟩ := R2.house hpj
      rw [ey2] at gj
      obtain ⟨f1, f2, f3, f4⟩ := k2 gj
      have XF := Ext.upd (o := .lst (ps.map V.ref)) hF
      refine ⟨rfl, ?_⟩
      dsimp only [tYes]
      rw [if_pos rfl]
      refine ⟨_, rfl, pj, CH, dy, _, _, rfl, XF.1 _ _ k1 (fun _ z => by cases z), cl.h, cl.hn "plate" (by simp), rfl, _, upd_same, ?_, ps ++ [ply], ?_, ?_, ?_⟩
      ·rw [List.length_map]
       have l1 := side_le a G x.street x.side
       have l2 := (List.getElem?_eq_some_iff.mp hj).1
       exact small40 (by omega)
      ·rw [upd_upd, List.map_append]
       rfl
      ·rw [List.length_append, hpl]
       rfl
      ·rw [List.take_add_one, hj, List.map_append]
       refine TupsAt.snoc ?_ (by show 2 <= 8; decide) htu
       show SqT K H2 ply [.int (numOf (a.house j)), .int (letOf (a.house j))]
       rw [ey2]
       exact f4
     ·obtain ⟨ps, rfl, hpl, htu⟩ := e
      rw [refs_len, List.take_length] at htu
      have XF : Ext H2 (upd H2 F (.lst (ps.map V.ref))) := Ext.upd hF
      have XA := XH2.trans XF
      have hTp2 : SqT K (upd H2 F (.lst (ps.map V.ref))) Tp ([n, l].map V.int) := (X2.trans XF).seqT (.inl (.inl upd_same))
      refine ⟨Tp, F, [n, l], ps, _, rfl, rfl, hTp2, sz8, SqL.of upd_same, TupsAt.ext XF htu, _, rfl, ?_⟩
      have hh : ((a.side x.street x.side).map (plOf a)).any (fun c => decide (c = [n, l])) = (a.has x.street x.side (Su54.rank x.side n.toNat l.toNat)).isSome := by
       rw [Bool.eq_iff_iff, has_iff, List.any_eq_true]
       have pp : ∀ j ∈ a.side x.street x.side, (plOf a j = [n, l] ↔ (a.house j).plate = Su54.rank x.side n.toNat l.toNat + 1) := fun j hj => by
        have mj := mem_side.mp hj
        have := plate_iff (x := a.house j) (n := n.toNat) (l := l.toNat) (by rw [mj.2.2.2]; exact hside) (by omega) (by rw [mj.2.2.2]; exact hpar) (by omega)
        rw [mj.2.2.2] at this
        have en : ((n.toNat : Nat) : Int) = n := by omega
        have el : ((l.toNat : Nat) : Int) = l := by omega
        rw [en, el] at this
        exact this
       constructor
       ·rintro ⟨c, hc, e⟩
        obtain ⟨j, hj, rfl⟩ := List.mem_map.mp hc
        exact ⟨j, hj, (pp j hj).mp (of_decide_eq_true e)⟩
       ·rintro ⟨j, hj, e⟩
        exact ⟨_, List.mem_map.mpr ⟨j, hj, rfl⟩, decide_eq_true ((pp j hj).mpr e)⟩
      rw [hh]
      refine ite2 (fun c3 => ?_) fun c3 => ?_
      ·refine ⟨sz1, fun D' hD' => q.no R XA (lt2.upd hF) ?_ D' hD'⟩
       rw [ed0, if_pos c3]
      ·rw [if_neg c3] at ed0
       refine ⟨_, rfl, _, rfl, _, rfl, sz2, fun Tq hTq => ?_⟩
       have XQ := XA.trans (Ext.upd (o := .tup [.int n, .int l]) hTq)
       have h1q := XQ.1 _ _ h1 (fun _ z => by cases z)
       refine ⟨p, Tq, dx, _, _, _, _, pl, _, _, _, rfl, h1q, XQ.seqT e4, fun D' hD' => ?_⟩
       have := q.wrote XQ (R.ext XQ) ((lt2.upd hF).upd hTq) (f := fun x' => { x' with plate := Su54.rank x.side n.toNat l.toNat + 1 }) (v := 0) (out := Su54.told x) hp h1q ed0 (fun z hz => ?_) D' hD'
       ·rw [outs_told] at this
        exact this
       ·rw [ex] at hz
        cases hz
        refine ⟨dx, Tq, st, sd, at_, upd_same, fun _ => ⟨e1, e2, e3, ?_⟩⟩
        have hq := But.upd.seqT (K := K) (H' := upd (upd (upd H2 F (.lst (ps.map V.ref))) Tq (.tup [.int n, .int l])) p (.ins CH dx (hf h.toNat st sd at_ Tq (!x.gone)))) (a := Tq) (xs := [.int n, .int l]) h1q (.inl (.inl upd_same))
        have pq := (plate_iff (x := { x with plate := Su54.rank x.side n.toNat l.toNat + 1 }) (n := n.toNat) (l := l.toNat) hside (by omega) hpar (by omega)).mpr rfl
        simp only [List.cons.injEq, and_true] at pq
        rw [pq.1, pq.2]
        have en : ((n.toNat : Nat) : Int) = n := by omega
        have el : ((l.toNat : Nat) : Int) = l := by omega
        rw [en, el]
        exact hq
  ·refine ⟨_, rfl, _, rfl, iteT ?_⟩
   refine ⟨sz1, fun D' hD' => q.no R (Ext.refl H) lt ?_ D' hD'⟩
   dsimp only [Su54.does]
   rw [if_pos hI]
end
def spFindS (K : Frag) (CT CS CH : Addr) : Sp := fun vs H Q _ => ∃ (T : Addr) (s : Int) (a : Su54.Abs) (b : Bool) (ls lh : Addr) (ss hs : List Addr), vs = [.ref T, .int s] /\ 0 <= s /\ TownR K CT CS CH H T a b ls lh ss hs /\ Good a /\
 (∀ p x, ss[s.toNat]? = some p -> a.streets[s.toNat]? = some x -> a.isS s.toNat = true -> Q (.ref p) H) /\ (a.isS s.toNat = false -> Q .non H)
def refuse (a : Su54.Abs) (s d : Int) : Int := if a.isS s.toNat = false then -2 else if 1 < d then -22 else 0
def spRef (K : Frag) (CT CS CH : Addr) : Sp := fun vs H Q _ => ∃ (T : Addr) (s d : Int) (a : Su54.Abs) (b : Bool) (ls lh : Addr) (ss hs : List Addr), vs = [.ref T, .int s, .int d] /\ 0 <= s /\ TownR K CT CS CH H T a b ls lh ss hs /\ Good a /\ Q (.int (refuse a s d)) H
section
variable {P : Program} {w : World} {K : Frag} {mg : Str -> Option Value} {base : Heap} {CT CS CH TB np : Addr}
abbrev sRef : Stmt := top 31
theorem scRef : FnScope ["town", "s", "d"] ["town", "s", "d"] (defScope sRef) := scOf
theorem ok_ref (D : Def K mg "refused_side" sRef ["town", "s", "d"]) (n1 : Num mg "NO_SUCH" (-2)) (n2 : Num mg "OUT_OF_RANGE" (-22)) (o1 : Ok P w K mg base 1 "find_street" ["town", "s"] (spFindS K CT CS CH)) : Ok P w K mg base 2 "refused_side" ["town", "s", "d"] (spRef K CT CS CH) := by
 refine D.ok scRef (fun vs H Q E h => ?_) fun f cdv A outer s0 H vs Q E hr h => ?_
 ·obtain ⟨T, s, d, a, b, ls, lh, ss, hs, rfl, _⟩ := h; rfl
 ·obtain ⟨T, s, d, a, b, ls, lh, ss, hs, rfl, h0, R, G, q⟩ := h
  refine ⟨_, pss_cons (ps_if (pt_cmp (pc_isN (pe_ok o1 hr rfl (pa_cons (pv 0) (pa_cons (pv 1) pa_nil))))) (pss_one (ps_ret (pe_num n1 rfl))) pss_nil)
   (pss_cons (ps_if (pt_cmpR op_gt (pv 2) pe_int rfl) (pss_one (ps_ret (pe_num n2 rfl))) pss_nil) (pss_one (ps_ret pe_int))), ?_⟩
  unfold refuse at q
  refine ⟨_, rfl, _, rfl, T, s, a, b, ls, lh, ss, hs, rfl, h0, R, G, fun p x hp ex hI => ⟨_, rfl, iteF ?_⟩, fun hI => ⟨_, rfl, iteT ?_⟩⟩
  ·rw [if_neg (by rw [hI]; decide)] at q
   refine ⟨_, rfl, _, _, rfl, rfl, _, rfl, ?_⟩
   refine ite2 (fun c => ?_) fun c => ?_
   ·rw [if_pos (of_decide_eq_true c)] at q
    exact q
   ·rw [if_neg fun z => c (decide_eq_true z)] at q
    exact q
  ·rw [if_pos hI] at q
   exact q
abbrev sList : Stmt := top 46
abbrev cList : List Nat -> Su54.Call := fun l => .order (l.getD 0 0) (l.getD 1 0)
theorem two_of {xs : List Int} (h : xs.length = 2) : ∃ x y, xs = [x, y] := match xs, h with | [x, y], _ => ⟨x, y, rfl⟩
theorem scList : FnScope ["town", "s", "d", "refusal", "there", "house"] ["town", "s", "d"] (defScope sList) := scOf
theorem ok_list (D : Def K mg "list_order" sList ["town", "s", "d"]) (cl : Cl K CT CS CH) (g1 : mg "len" = none) (o1 : Ok P w K mg base 2 "refused_side" ["town", "s", "d"] (spRef K CT CS CH)) (o2 : Ok P w K mg base 2 "houses_in_order" ["town", "s", "d"] (spOrd K CT CS CH TB)) :
  Ok P w K mg base 3 "list_order" ["town", "s", "d"] (spDo K CT CS CH TB 2 cList) := by
 refine D.ok scList spDo_len fun f cdv A outer s0 H vs Q E hr h => ?_
 ·obtain ⟨T, xs, a, ls, lh, ss, hs, rfl, hl, hx, R, G, lt, q⟩ := h
  obtain ⟨s, d, rfl⟩ := two_of hl
  have hs0 := (hx s (by simp)).1
  have hd0 := (hx d (by simp)).1
  have q : Want K CT CS CH TB T ls lh H a (.order s.toNat d.toNat) Q := q
  refine ⟨_, pss_cons (ps_set (i := 3) scList.nd rfl (Or.inl rfl) (pe_ok o1 hr rfl (pa_cons (pv 0) (pa_cons (pv 1) (pa_cons (pv 2) pa_nil)))))
   (pss_cons (ps_if (pt_cmpR op_ne (pv 3) pe_int rfl) (pss_one (ps_ret (pe_lst (pa_cons (pv 3) pa_nil)))) pss_nil)
   (pss_cons (ps_set (i := 4) scList.nd rfl (Or.inl rfl) (pe_ok o2 hr rfl (pa_cons (pv 0) (pa_cons (pv 1) (pa_cons (pv 2) pa_nil)))))
   (pss_one (ps_ret (pe_op op_cat (pe_lst (pa_cons (pe_callB call_len rfl g1 PySem.boot_len (pa_cons (pv 4) pa_nil)) pa_nil))
    (pe_lc (own := [("house", 5)]) rfl scList.nd (pi_list (pv 4)) (blkOk_by rfl) (fun s H C cl fp => by exact pg_name (i := 5) scList.nd rfl (Or.inl rfl)) (fun s H C cl fp => by exact pts_nil) (fun s H C cl fp => by exact pe_fldK K rfl (pv 5) rfl))))))), ?_⟩
  have dn : ∀ z : Int, 0 <= z -> ((1 : Nat) < z.toNat ↔ (1 : Int) < z) := fun z _ => by omega
  refine ⟨_, rfl, _, rfl, _, rfl, T, s, d, a, true, ls, lh, ss, hs, rfl, hs0, R, G, ?_⟩
  refine ⟨_, rfl, rfl, _, rfl, ?_⟩
  refine ite2 (fun c => ?_) fun c => ?_
  ·refine ⟨_, rfl, sz1, fun D' hD' => q.no R (Ext.refl H) lt ?_ D' hD'⟩
   have c : ¬ refuse a s d = 0 := by
    have c : (!decide (V.int (refuse a s d) = V.int 0)) = true := c
    rw [dec_V, Bool.not_eq_true'] at c
    exact of_decide_eq_false c
   dsimp only [Su54.does]
   unfold refuse at c ⊢
   by_cases h1 : a.isS s.toNat = false
   ·rw [if_pos h1, if_pos h1]
   ·rw [if_neg h1] at c ⊢
    rw [if_neg h1]
    by_cases h2 : 1 < d
    ·rw [if_pos h2, if_pos (by omega)]
    ·rw [if_neg h2] at c
     exact absurd rfl c
  ·have c : refuse a s d = 0 := by
    have c : ¬ (!decide (V.int (refuse a s d) = V.int 0)) = true := c
    rw [dec_V] at c
    simpa using c
   have ed : Su54.does a (.order s.toNat d.toNat) = (a, Su54.list (a.side s.toNat d.toNat)) := by
    dsimp only [Su54.does]
    unfold refuse at c
    by_cases h1 : a.isS s.toNat = false
    ·rw [if_pos h1] at c; cases c
    ·rw [if_neg h1] at c ⊢
     by_cases h2 : 1 < d
     ·rw [if_pos h2] at c; cases c
     ·rw [if_neg (by omega)]
   refine ⟨_, rfl, _, rfl, _, rfl, T, s, d, a, true, ls, lh, ss, hs, rfl, R, G, lt, hs0, hd0, fun H1 D1 X1 lt1 nD1 hD1 => ?_⟩
   have R1 := R.ext X1
   refine ⟨_, rfl, _, (a.side s.toNat d.toNat).length, rfl, .inl ⟨_, SqL.of hD1, by rw [refs_len]⟩, sz1, fun D2 hD2 => ?_⟩
   have X2 : Ext H1 (upd H1 D2 (.lst [.int ((a.side s.toNat d.toNat).length : Nat)])) := Ext.upd hD2
   have hD1' := X2.1 _ _ hD1 (fun _ z => by cases z)
   refine ⟨_, rfl, D1, rfl, ⟨_, SqL.of hD1'⟩, fun F hF => ?_⟩
   have X3 := X2.trans (Ext.upd (o := .lst []) hF)
   refine lc_list (xs := refs hs (a.side s.toNat d.toNat)) (fun i H' => H' = upd (upd H1 D2 (.lst [.int ((a.side s.toNat d.toNat).length : Nat)])) F (.lst (nats ((a.side s.toNat d.toNat).take i)))) rfl (fun i H' _ e => ?_) (fun i y H' hi e => ?_) fun H' e => ?_
   ·rw [e]
    exact (Ext.upd hF).seqL (SqL.of hD1')
   ·subst e
    obtain ⟨j, hj, rfl⟩ := refs_get hi
    obtain ⟨pj, hpj, gj⟩ := side_get R.hl hj
    rw [getD_at hpj]
    obtain ⟨y, ey, ey2, dy, ply, sty, sdy, aty, k1, k2⟩ := R1.house hpj
    have XF := X2.trans (Ext.upd (o := .lst (nats ((a.side s.toNat d.toNat).take i))) hF)
    refine ⟨rfl, ?_⟩
    dsimp only [tYes]
    rw [if_pos rfl]
    refine ⟨_, rfl, pj, CH, dy, _, _, rfl, XF.1 _ _ k1 (fun _ z => by cases z), cl.h, cl.hn "serial" (by simp), rfl, _, upd_same, ?_, ?_⟩
    ·rw [nats_len, List.length_take]
     have := side_le a G s.toNat d.toNat
     exact small40 (by omega)
    ·rw [upd_upd, nats_snoc, List.take_add_one, hj]
     rfl
   ·subst e
    rw [refs_len, List.take_length]
    refine ⟨D2, F, _, _, rfl, rfl, (by rw [upd_ne (fun z => (by rw [<- z, upd_same] at hF; cases hF))]; exact upd_same), upd_same, ?_, fun D' hD' => ?_⟩
    ·rw [nats_len]
     have := side_le a G s.toNat d.toNat
     exact Nat.le_of_lt (small40 (by show 1 + _ <= 40; omega))
    ·have := q.keep R (X1.trans (X2.trans (Ext.upd hF))) ((lt1.upd hD2).upd hF) ed D' hD'
     have e : (((a.side s.toNat d.toNat).length : Int) :: Su54Neutral.outs (a.side s.toNat d.toNat)).map V.int = [V.int ((a.side s.toNat d.toNat).length : Nat)] ++ nats (a.side s.toNat d.toNat) := by
      rw [nats_eq]
      rfl
     rw [<- e]
     exact this
end
section
variable {P : Program} {w : World} {K : Frag} {mg : Str -> Option Value} {base : Heap} {CT CS CH TB np : Addr}
theorem plated_mem {a : Su54.Abs} {s d j : Nat} (h : j ∈ a.plated s d) : j < a.houses.length /\ (a.house j).gone = false /\ (a.house j).street = s /\ (a.house j).side = d /\ (a.house j).plate ≠ 0 := by
 have h1 := List.mem_filter.mp h
 have h2 := mem_side.mp h1.1
 exact ⟨h2.1, h2.2.1, h2.2.2.1, h2.2.2.2, by simpa using h1.2⟩
theorem plated_at {H : Hp} {T ls lh : Addr} {a : Su54.Abs} {b : Bool} {ss hs : List Addr} (R : TownR K CT CS CH H T a b ls lh ss hs) (G : Good a) {s d : Nat} (i : Nat) (p : Addr) (k : Nat) (h1 : ((a.plated s d).map fun j => hs.getD j 0)[i]? = some p) (h2 : (a.ranks s d)[i]? = some k) : PlAt K CH H p k := by
 unfold Su54.Abs.ranks at h2
 rw [List.getElem?_map] at h1 h2
 cases e : (a.plated s d)[i]? with
 | none => rw [e] at h1; cases h1
 | some j =>
  rw [e] at h1 h2
  have e1 : hs.getD j 0 = p := Option.some.inj h1
  have e2 : (a.house j).plate - 1 = k := Option.some.inj h2
  have m := plated_mem (List.mem_of_getElem? e)
  have hj : j < hs.length := by rw [R.hl]; exact m.1
  have hp : hs[j]? = some p := by
   rw [getD_at (List.getElem?_eq_getElem hj)] at e1
   rw [List.getElem?_eq_getElem hj, e1]
  obtain ⟨x, ex, ex2, dx, pl, st, sd, at_, g1, g2⟩ := R.house hp
  rw [ex2] at m e2
  obtain ⟨f1, f2, f3, f4⟩ := g2 m.2.1
  obtain ⟨c1, c2, c3⟩ := G.ho j x ex m.2.1
  refine ⟨dx, _, pl, numOf x, letOf x, g1, rfl, f4, ?_, ?_, ?_⟩
  ·unfold numOf
   rw [if_neg m.2.2.2.2]
   omega
  ·unfold numOf Su54.number
   rw [if_neg m.2.2.2.2]
   rcases c3 with z | z
   ·exact absurd z m.2.2.2.2
   ·unfold Su54.top at z
    omega
  ·unfold numOf letOf Su54.number Su54.letter
   rw [if_neg m.2.2.2.2, if_neg m.2.2.2.2]
   omega
abbrev sFew : Stmt := top 49
abbrev cFew : List Nat -> Su54.Call := fun l => .fewest (l.getD 0 0) (l.getD 1 0)
theorem scFew : FnScope ["town", "s", "d", "refusal", "plated", "staying", "place"] ["town", "s", "d"] (defScope sFew) := scOf
theorem refuse_ne {a : Su54.Abs} {s d : Int} (hd0 : 0 <= d) (c : (!decide (V.int (refuse a s d) = V.int 0)) = true) {z : Su54.Abs × Su54.Ans} : (if a.isS s.toNat = false then (a, Su54.no (-2)) else if 1 < d.toNat then (a, Su54.no (-22)) else z) = (a, Su54.no (refuse a s d)) := by
 rw [dec_V, Bool.not_eq_true'] at c
 have c := of_decide_eq_false c
 unfold refuse at c ⊢
 by_cases h1 : a.isS s.toNat = false
 ·rw [if_pos h1, if_pos h1]
 ·rw [if_neg h1] at c ⊢
  rw [if_neg h1]
  by_cases h2 : 1 < d
  ·rw [if_pos h2, if_pos (by omega)]
  ·rw [if_neg h2] at c
   exact absurd rfl c
theorem refuse_eq {a : Su54.Abs} {s d : Int} (hd0 : 0 <= d) (c : ¬ (!decide (V.int (refuse a s d) = V.int 0)) = true) {z : Su54.Abs × Su54.Ans} : (d = 0 ∨ d = 1) /\ (if a.isS s.toNat = false then (a, Su54.no (-2)) else if 1 < d.toNat then (a, Su54.no (-22)) else z) = z := by
 rw [dec_V] at c
 have c : refuse a s d = 0 := by simpa using c
 unfold refuse at c
 by_cases h1 : a.isS s.toNat = false
 ·rw [if_pos h1] at c; cases c
 ·rw [if_neg h1] at c ⊢
  by_cases h2 : 1 < d
  ·rw [if_pos h2] at c; cases c
  ·rw [if_neg (by omega)]
   exact ⟨by omega, rfl⟩
theorem stay_lt {t : Nat} {l : List Nat} (h : l.length <= t + 1) : ∀ k ∈ stayPlaces t l, k < l.length := fun k hk => by
 rw [stayPlaces_eq t l h] at hk
 obtain ⟨y, hy, rfl⟩ := List.mem_map.mp hk
 rw [stays_choose t l h] at hy
 obtain ⟨j, hj, e⟩ := List.mem_iff_getElem.mp ((choose_sub _ _ _).subset hy)
 have := (prs_get (List.getElem?_eq_getElem hj)).1
 rw [e] at this
 rw [prs_length] at hj
 omega
theorem stay_len {t : Nat} {l : List Nat} (h : l.length <= t + 1) : (stayPlaces t l).length <= l.length := by
 rw [stayPlaces_eq t l h, List.length_map, stays_choose t l h]
 have := (choose_sub ((t : Int) + 1 - l.length) (prs l) 0).length_le
 rw [prs_length] at this
 exact this
theorem ok_few (D : Def K mg "count_fewest" sFew ["town", "s", "d"]) (cl : Cl K CT CS CH) (g1 : mg "len" = none) (o1 : Ok P w K mg base 2 "refused_side" ["town", "s", "d"] (spRef K CT CS CH)) (o2 : Ok P w K mg base 3 "plated_in_order" ["town", "s", "d"] (spPlat K CT CS CH TB)) (o3 : Ok P w K mg base 3 "places_that_stay" ["plated", "side"] (spPlac K CH)) :
  Ok P w K mg base 4 "count_fewest" ["town", "s", "d"] (spDo K CT CS CH TB 2 cFew) := by
 refine D.ok scFew spDo_len fun f cdv A outer s0 H vs Q E hr h => ?_
 ·obtain ⟨T, xs, a, ls, lh, ss, hs, rfl, hl, hx, R, G, lt, q⟩ := h
  obtain ⟨s, d, rfl⟩ := two_of hl
  have hs0 := (hx s (by simp)).1
  have hd0 := (hx d (by simp)).1
  have q : Want K CT CS CH TB T ls lh H a (.fewest s.toNat d.toNat) Q := q
  have hr2 := hr.mono (show 2 <= 3 by decide)
  refine ⟨_, pss_cons (ps_set (i := 3) scFew.nd rfl (Or.inl rfl) (pe_ok o1 hr2 rfl (pa_cons (pv 0) (pa_cons (pv 1) (pa_cons (pv 2) pa_nil)))))
   (pss_cons (ps_if (pt_cmpR op_ne (pv 3) pe_int rfl) (pss_one (ps_ret (pe_lst (pa_cons (pv 3) pa_nil)))) pss_nil)
   (pss_cons (ps_set (i := 4) scFew.nd rfl (Or.inr rfl) (pe_ok o2 hr rfl (pa_cons (pv 0) (pa_cons (pv 1) (pa_cons (pv 2) pa_nil)))))
   (pss_cons (ps_set (i := 5) scFew.nd rfl (Or.inl rfl) (pe_ok o3 hr rfl (pa_cons (pv 4) (pa_cons (pv 2) pa_nil))))
   (pss_one (ps_ret (pe_op op_cat (pe_lst (pa_cons (pe_op op_sub (pe_callB call_len rfl g1 PySem.boot_len (pa_cons (pv 4) pa_nil)) (pe_callB call_len rfl g1 PySem.boot_len (pa_cons (pv 5) pa_nil))) pa_nil))
    (pe_lc (own := [("place", 6)]) rfl scFew.nd (pi_list (pv 5)) (blkOk_by rfl) (fun s H C cl fp => by exact pg_name (i := 6) scFew.nd rfl (Or.inl rfl)) (fun s H C cl fp => by exact pts_nil) (fun s H C cl fp => by exact pe_fldK K rfl (pe_ixLK K rfl (pv 4) (pv 6) (fun _ _ => rfl)) rfl)))))))), ?_⟩
  refine ⟨_, rfl, _, rfl, _, rfl, T, s, d, a, true, ls, lh, ss, hs, rfl, hs0, R, G, ?_⟩
  refine ⟨_, rfl, rfl, _, rfl, ?_⟩
  refine ite2 (fun c => ?_) fun c => ?_
  ·exact ⟨_, rfl, sz1, fun D' hD' => q.no R (Ext.refl H) lt (refuse_ne hd0 c) D' hD'⟩
  ·have ed : Su54.does a (.fewest s.toNat d.toNat) = (a, Su54.num (Su54.changes (Su54.top d.toNat) (a.ranks s.toNat d.toNat)) ((Su54.stays (Su54.top d.toNat) (a.ranks s.toNat d.toNat)).map fun x => (a.plated s.toNat d.toNat).getD x.1 0)) := (refuse_eq hd0 c).2
   have hd := (refuse_eq (z := (a, Su54.no 0)) hd0 c).1
   have rl := ranks_le a G s.toNat d.toNat
   have tb := top_big (d := d.toNat) (by omega)
   have rt : (a.ranks s.toNat d.toNat).length <= Su54.top d.toNat + 1 := by omega
   have pln := ranks_len a s.toNat d.toNat
   refine ⟨_, rfl, _, rfl, _, rfl, T, s, d, a, true, ls, lh, ss, hs, rfl, R, G, lt, hs0, hd0, fun H1 D1 X1 lt1 nD1 hD1 => ?_⟩
   have R1 := R.ext X1
   refine ⟨_, rfl, _, rfl, D1, d, (a.plated s.toNat d.toNat).map fun j => hs.getD j 0, a.ranks s.toNat d.toNat, rfl, SqL.of hD1, by rw [List.length_map, pln], by omega, fun i p k => plated_at R1 G i p k, hd, fun H2 D2 s2 nD2 hD2 => ?_⟩
   have X2 := X1.trans (Ext.same s2)
   have R2 := R.ext X2
   have lt2 : LT TB H2 := by
    exact lt1.go fun b u q _ => s2 _ _ q
   have hD12 := s2 _ _ hD1
   refine ⟨_, rfl, _, (a.plated s.toNat d.toNat).length, rfl, .inl ⟨_, SqL.of hD12, by rw [refs_len]⟩, _, rfl, _, (stayPlaces (Su54.top d.toNat) (a.ranks s.toNat d.toNat)).length, rfl, .inl ⟨_, SqL.of hD2, by rw [nats_len]⟩, _, _, rfl, rfl, sz1, fun D3 hD3 => ?_⟩
   have X3 : Ext H2 (upd H2 D3 (.lst [.int (((a.plated s.toNat d.toNat).length : Nat) - ((stayPlaces (Su54.top d.toNat) (a.ranks s.toNat d.toNat)).length : Nat))])) := Ext.upd hD3
   generalize hst : stayPlaces (Su54.top d.toNat) (a.ranks s.toNat d.toNat) = stl at hD2 X3 ⊢
   have hstl : ∀ k ∈ stl, k < (a.plated s.toNat d.toNat).length := fun k hk => by rw [<- pln]; exact stay_lt rt k (by rw [hst]; exact hk)
   have hstn : stl.length <= (a.plated s.toNat d.toNat).length := by rw [<- pln, <- hst]; exact stay_len rt
   have hD2' := X3.1 _ _ hD2 (fun _ z => by cases z)
   have hD1' := X3.1 _ _ hD12 (fun _ z => by cases z)
   refine ⟨_, rfl, D2, rfl, ⟨_, SqL.of hD2'⟩, fun F hF => ?_⟩
   refine lc_list (xs := nats stl) (fun i H' => H' = upd (upd H2 D3 (.lst [.int (((a.plated s.toNat d.toNat).length : Nat) - (stl.length : Nat))])) F (.lst (nats ((stl.take i).map fun k => (a.plated s.toNat d.toNat).getD k 0)))) rfl (fun i H' _ e => ?_) (fun i y H' hi e => ?_) fun H' e => ?_
   ·rw [e]
    exact (Ext.upd hF).seqL (SqL.of hD2')
   ·subst e
    unfold nats at hi
    rw [List.getElem?_map] at hi
    obtain ⟨k, hk, rfl⟩ := Option.map_eq_some_iff.mp hi
    have kl := hstl k (List.mem_of_getElem? hk)
    obtain ⟨j, hj⟩ : ∃ j, (a.plated s.toNat d.toNat)[k]? = some j := ⟨_, List.getElem?_eq_getElem kl⟩
    have mj := plated_mem (List.mem_of_getElem? hj)
    have hjl : j < hs.length := by rw [R.hl]; exact mj.1
    obtain ⟨pj, hpj⟩ : ∃ pj, hs[j]? = some pj := ⟨_, List.getElem?_eq_getElem hjl⟩
    obtain ⟨y, ey, ey2, dy, ply, sty, sdy, aty, k1, k2⟩ := R2.house hpj
    have XF := X3.trans (Ext.upd (o := .lst (nats ((stl.take i).map fun k => (a.plated s.toNat d.toNat).getD k 0))) hF)
    have hat : atI (refs hs (a.plated s.toNat d.toNat)) ((k : Nat) : Int) = some (.ref pj) := atI_nat (by
     unfold refs
     rw [List.getElem?_map, List.getElem?_map, hj]
     show some (V.ref (hs.getD j 0)) = _
     rw [getD_at hpj])
    refine ⟨rfl, ?_⟩
    dsimp only [tYes]
    rw [if_pos rfl]
    refine ⟨_, rfl, _, rfl, D1, _, _, _, rfl, rfl, XF.seqL (SqL.of hD12), hat, pj, CH, dy, _, _, rfl, XF.1 _ _ k1 (fun _ z => by cases z), cl.h, cl.hn "serial" (by simp), rfl, _, upd_same, ?_, ?_⟩
    ·rw [nats_len, List.length_map, List.length_take]
     exact small40 (by omega)
    ·rw [upd_upd, nats_snoc, List.take_add_one, hk, List.map_append]
     show _ = upd _ F (.lst (nats (_ ++ [(a.plated s.toNat d.toNat).getD k 0])))
     rw [getD_at hj]
   ·subst e
    rw [nats_len, List.take_length]
    refine ⟨D3, F, _, _, rfl, rfl, (by rw [upd_ne (fun z => (by rw [<- z, upd_same] at hF; cases hF))]; exact upd_same), upd_same, ?_, fun D' hD' => ?_⟩
    ·rw [nats_len, List.length_map]
     exact Nat.le_of_lt (small40 (by show 1 + _ <= 40; omega))
    ·have := q.keep R (X2.trans (X3.trans (Ext.upd hF))) ((lt2.upd hD3).upd hF) ed D' hD'
     have e1 : ((Su54.changes (Su54.top d.toNat) (a.ranks s.toNat d.toNat) : Nat) : Int) = ((a.plated s.toNat d.toNat).length : Nat) - (stl.length : Nat) := by
      rw [changes_eq _ _ rt, hst, pln]
      omega
     have e2 : (Su54.stays (Su54.top d.toNat) (a.ranks s.toNat d.toNat)).map (fun x => (a.plated s.toNat d.toNat).getD x.1 0) = stl.map fun k => (a.plated s.toNat d.toNat).getD k 0 := by
      rw [<- hst, stayPlaces_eq _ _ rt, List.map_map]
      rfl
     have e3 : ((Su54.changes (Su54.top d.toNat) (a.ranks s.toNat d.toNat) : Int) :: Su54Neutral.outs ((Su54.stays (Su54.top d.toNat) (a.ranks s.toNat d.toNat)).map fun x => (a.plated s.toNat d.toNat).getD x.1 0)).map V.int = [V.int (((a.plated s.toNat d.toNat).length : Nat) - (stl.length : Nat))] ++ nats (stl.map fun k => (a.plated s.toNat d.toNat).getD k 0) := by
      rw [nats_eq, e2, <- e1]
      rfl
     rw [<- e3]
     exact this
end
theorem inV_nats (i : Nat) (l : List Nat) : inV (.int i) (nats l) = decide (i ∈ l) := by
 unfold inV nats
 rw [List.any_map, Bool.eq_iff_iff, List.any_eq_true, decide_eq_true_iff]
 constructor
 ·rintro ⟨x, hx, e⟩
  have e : ((x : Int) == (i : Int)) = true := e
  have : x = i := by have := beq_iff_eq.mp e; omega
  rw [<- this]
  exact hx
 ·intro h
  exact ⟨i, h, by show ((i : Int) == (i : Int)) = true; simp⟩
theorem flat_nats (l : List Nat) : (nats l).all flatV = true := by
 unfold nats
 rw [List.all_map, List.all_eq_true]
 intro x _
 rfl
theorem plates_snoc (a : Su54.Abs) (l : List (Nat × Nat)) (x : Nat × Nat) : a.plates (l ++ [x]) = (a.plates l).set x.1 fun z => { z with plate := x.2 + 1 } := by
 unfold Su54.Abs.plates
 rw [List.foldl_append]
 rfl
theorem plates_get {j : Nat} : ∀ {l : List (Nat × Nat)} {a : Su54.Abs}, j ∉ l.map (·.1) -> (a.plates l).houses[j]? = a.houses[j]?
 | [], _, _ => rfl
 | x :: l, a, h => by
  rw [List.map_cons, List.mem_cons, not_or] at h
  show ((a.set x.1 _).plates l).houses[j]? = _
  rw [plates_get h.2]
  show (a.houses.modify x.1 _)[j]? = _
  rw [List.getElem?_modify]
  cases a.houses[j]? with
  | none => rfl
  | some y =>
   show some (if x.1 = j then _ else y) = some y
   rw [if_neg (fun z => h.1 z.symm)]
theorem set_same {a : Su54.Abs} {j : Nat} {x : Su54.House} {f : Su54.House -> Su54.House} (h : a.houses[j]? = some x) (hf : f x = x) : a.set j f = a := by
 unfold Su54.Abs.set
 have : a.houses.modify j f = a.houses := by
  apply List.ext_getElem?
  intro i
  rw [List.getElem?_modify]
  cases e : a.houses[i]? with
  | none => rfl
  | some y =>
   show some (if j = i then f y else y) = some y
   split
   ·rename_i z
    subst z
    rw [h] at e
    cases e
    rw [hf]
   ·rfl
 rw [this]
theorem LT.same {TB : Addr} {H H' : Hp} (h : LT TB H) (s : Same H H') : LT TB H' := h.go fun b u q _ => s _ _ q
section
variable {P : Program} {w : World} {K : Frag} {mg : Str -> Option Value} {base : Heap} {CT CS CH TB np : Addr}
abbrev sMend : Stmt := top 50
abbrev cMend : List Nat -> Su54.Call := fun l => .mend (l.getD 0 0) (l.getD 1 0)
theorem scMend : FnScope ["town", "s", "d", "refusal", "plated", "staying", "rank", "place", "house"] ["town", "s", "d"] (defScope sMend) := scOf
theorem ok_mend (D : Def K mg "mend_side" sMend ["town", "s", "d"]) (cl : Cl K CT CS CH) (g1 : mg "len" = none) (g2 : mg "enumerate" = none) (o1 : Ok P w K mg base 2 "refused_side" ["town", "s", "d"] (spRef K CT CS CH)) (o2 : Ok P w K mg base 3 "plated_in_order" ["town", "s", "d"] (spPlat K CT CS CH TB)) (o3 : Ok P w K mg base 3 "places_that_stay" ["plated", "side"] (spPlac K CH))
  (o4 : Ok P w K mg base 1 "rank_of" ["plate"] (spRankOf K)) (o5 : Ok P w K mg base 2 "plate_at" ["side", "rank"] spPlateAt) : Ok P w K mg base 4 "mend_side" ["town", "s", "d"] (spDo K CT CS CH TB 2 cMend) := by
 refine D.ok scMend spDo_len fun f cdv A outer s0 H vs Q E hr h => ?_
 ·obtain ⟨T, xs, a, ls, lh, ss, hs, rfl, hl, hx, R, G, lt, q⟩ := h
  obtain ⟨s, d, rfl⟩ := two_of hl
  have hs0 := (hx s (by simp)).1
  have hd0 := (hx d (by simp)).1
  have q : Want K CT CS CH TB T ls lh H a (.mend s.toNat d.toNat) Q := q
  have hr2 := hr.mono (show 2 <= 3 by decide)
  have hr1 := hr.mono (show 1 <= 3 by decide)
  refine ⟨_, pss_cons (ps_set (i := 3) scMend.nd rfl (Or.inl rfl) (pe_ok o1 hr2 rfl (pa_cons (pv 0) (pa_cons (pv 1) (pa_cons (pv 2) pa_nil)))))
   (pss_cons (ps_if (pt_cmpR op_ne (pv 3) pe_int rfl) (pss_one (ps_ret (pe_lst (pa_cons (pv 3) pa_nil)))) pss_nil)
   (pss_cons (ps_set (i := 4) scMend.nd rfl (Or.inl rfl) (pe_ok o2 hr rfl (pa_cons (pv 0) (pa_cons (pv 1) (pa_cons (pv 2) pa_nil)))))
   (pss_cons (ps_set (i := 5) scMend.nd rfl (Or.inl rfl) (pe_ok o3 hr rfl (pa_cons (pv 4) (pa_cons (pv 2) pa_nil))))
   (pss_cons (ps_set (i := 6) scMend.nd rfl (Or.inl rfl) (pe_un un_neg pe_int))
   (pss_cons (ps_for PassesOwn.never rfl (pi_enum rfl g2 (pa_cons (pv 4) pa_nil)) (pg_tup rfl (pgs_cons (pg_name (i := 7) scMend.nd rfl (Or.inl rfl)) (pgs_cons (pg_name (i := 8) scMend.nd rfl (Or.inl rfl)) pgs_nil)))
    (pss_one (ps_if (pt_cmpR op_in_seq (pv 7) (pv 5) rfl)
     (pss_one (ps_set (i := 6) scMend.nd rfl (Or.inl rfl) (pe_ok o4 hr1 rfl (pa_cons (pe_fld (pv 8) rfl) pa_nil))))
     (pss_cons (ps_aug (i := 6) scMend.nd rfl (Or.inl rfl) pe_int ip_add) (pss_one (ps_fld (pv 8) (pe_ok o5 hr2 rfl (pa_cons (pv 2) (pa_cons (pv 6) pa_nil))) rfl))))))
   (pss_one (ps_ret (pe_lst (pa_cons (pe_op op_sub (pe_callB call_len rfl g1 PySem.boot_len (pa_cons (pv 4) pa_nil)) (pe_callB call_len rfl g1 PySem.boot_len (pa_cons (pv 5) pa_nil))) pa_nil))))))))), ?_⟩
  refine ⟨_, rfl, _, rfl, _, rfl, T, s, d, a, true, ls, lh, ss, hs, rfl, hs0, R, G, ?_⟩
  refine ⟨_, rfl, rfl, _, rfl, ?_⟩
  refine ite2 (fun c => ?_) fun c => ?_
  ·exact ⟨_, rfl, sz1, fun D' hD' => q.no R (Ext.refl H) lt (refuse_ne hd0 c) D' hD'⟩
  ·have ed : Su54.does a (.mend s.toNat d.toNat) = (a.plates ((a.plated s.toNat d.toNat).zip (Su54.mended (Su54.top d.toNat) (a.ranks s.toNat d.toNat))), Su54.num (Su54.changes (Su54.top d.toNat) (a.ranks s.toNat d.toNat)) []) := (refuse_eq hd0 c).2
   have hd := (refuse_eq (z := (a, Su54.no 0)) hd0 c).1
   have rl := ranks_le a G s.toNat d.toNat
   have tb := top_big (d := d.toNat) (by omega)
   have rt : (a.ranks s.toNat d.toNat).length <= Su54.top d.toNat + 1 := by omega
   have pln := ranks_len a s.toNat d.toNat
   refine ⟨_, rfl, _, rfl, _, rfl, T, s, d, a, true, ls, lh, ss, hs, rfl, R, G, lt, hs0, hd0, fun H1 D1 X1 lt1 nD1 hD1 => ?_⟩
   have R1 := R.ext X1
   refine ⟨_, rfl, _, rfl, D1, d, (a.plated s.toNat d.toNat).map fun j => hs.getD j 0, a.ranks s.toNat d.toNat, rfl, SqL.of hD1, by rw [List.length_map, pln], by omega, fun i p k => plated_at R1 G i p k, hd, fun H2 D2 s2 nD2 hD2 => ?_⟩
   have X2 := X1.trans (Ext.same s2)
   have hD12 := s2 _ _ hD1
   have mdl := mended_len (Su54.top d.toNat) (a.ranks s.toNat d.toNat)
   have mdr := mended_refill (Su54.top d.toNat) (a.ranks s.toNat d.toNat) rt
   have mdt := mended_le (Su54.top d.toNat) (a.ranks s.toNat d.toNat) rt
   have hce := changes_eq (Su54.top d.toNat) (a.ranks s.toNat d.toNat) rt
   have hsl := stay_len rt
   generalize hst : stayPlaces (Su54.top d.toNat) (a.ranks s.toNat d.toNat) = stl at hD2 mdr hce hsl
   generalize hmd : Su54.mended (Su54.top d.toNat) (a.ranks s.toNat d.toNat) = md at mdl mdr mdt ed
   generalize hpt : a.plated s.toNat d.toNat = pt at *
   generalize hrk : a.ranks s.toNat d.toNat = rk at *
   have ptn : pt.Nodup := by rw [<- hpt]; exact (side_nodup a _ _).sublist (plated_sub a _ _)
   refine ⟨_, rfl, _, rfl, D1, _, rfl, SqL.of hD12, for_by (n := pt.length) (fun i σ H' => ∃ o7 o8 r, σ = [some (.ref T), some (.int s), some (.int d), some (.int (refuse a s d)), some (.ref D1), some (.ref D2), some (.int r), o7, o8] /\ TownR K CT CS CH H' T (a.plates ((pt.zip md).take i)) true ls lh ss hs /\ LT TB H' /\ Kp ls lh H2 H' /\ H' D1 = some (.lst (refs hs pt)) /\ H' D2 = some (.lst (nats stl)) /\ (md.map fun n : Nat => (n : Int)).drop i = refill stl i r (rk.drop i))
    ⟨none, none, -1, rfl, R.ext X2, lt1.same s2, Kp.ext (Ext.refl _), hD12, hD2, mdr⟩ ?_ ?_ ?_ ?_⟩
   ·rintro i σ H' hi ⟨o7, o8, r, rfl, _, _, _, h1, _⟩
    exact ⟨_, _, SqL.of h1, List.getElem?_eq_getElem (by rw [refs_len]; exact hi)⟩
   ·rintro σ H' ⟨o7, o8, r, rfl, _, _, _, h1, _⟩
    exact ⟨_, SqL.of h1, by rw [refs_len]; exact Nat.le_refl _⟩
   ·rintro i σ H' x H'' hi ⟨o7, o8, r, rfl, Ri, lti, Ki, hd1, hd2, hrest⟩ ⟨Tu, y, rfl, hTu, rfl, hy⟩
    obtain ⟨j, hj⟩ : ∃ j, pt[i]? = some j := ⟨_, List.getElem?_eq_getElem hi⟩
    have him : i < md.length := by omega
    obtain ⟨m, hm⟩ : ∃ m, md[i]? = some m := ⟨_, List.getElem?_eq_getElem him⟩
    have hir : i < rk.length := by omega
    obtain ⟨k, hk⟩ : ∃ k, rk[i]? = some k := ⟨_, List.getElem?_eq_getElem hir⟩
    have mj : j ∈ a.plated s.toNat d.toNat := by rw [hpt]; exact List.mem_of_getElem? hj
    have pm := plated_mem mj
    have hjl : j < hs.length := by rw [R.hl]; exact pm.1
    obtain ⟨pj, hpj⟩ : ∃ pj, hs[j]? = some pj := ⟨_, List.getElem?_eq_getElem hjl⟩
    have ey : y = .ref pj := by
     have := hy _ (SqL.of hd1)
     unfold refs at this
     rw [List.getElem?_map, List.getElem?_map, hj] at this
     have this : V.ref (hs.getD j 0) = y := Option.some.inj this
     rw [getD_at hpj] at this
     exact this.symm
    subst ey
    have hzip : (pt.zip md)[i]? = some (j, m) := List.getElem?_zip_eq_some.mpr ⟨hj, hm⟩
    have etk : (pt.zip md).take (i + 1) = (pt.zip md).take i ++ [(j, m)] := by rw [List.take_add_one, hzip]; rfl
    have nj : j ∉ ((pt.zip md).take i).map (·.1) := fun z => by
     rw [List.map_take, List.map_fst_zip (by omega)] at z
     obtain ⟨i', hi', e'⟩ := List.mem_iff_getElem.mp z
     rw [List.length_take] at hi'
     rw [List.getElem_take] at e'
     have : i' = i := nd_ix ptn (by rw [List.getElem?_eq_getElem (by omega), e']) hj
     omega
    have eaj := plates_get (a := a) nj
    obtain ⟨x, ex, ex2, dx, pl, st, sd, at_, g1, g2⟩ := Ri.house hpj
    rw [eaj] at ex
    have exa := house_of ex
    rw [exa] at pm
    obtain ⟨f1, f2, f3, f4⟩ := g2 pm.2.1
    have ek : k = x.plate - 1 := by
     have h3 := hk
     rw [<- hrk] at h3
     unfold Su54.Abs.ranks at h3
     rw [hpt, List.getElem?_map, hj] at h3
     have h3 : (a.house j).plate - 1 = k := Option.some.inj h3
     rw [exa] at h3
     exact h3.symm
    have hmt := mdt m (List.mem_of_getElem? hm)
    have top13 : Su54.top d.toNat <= 13499 := by unfold Su54.top; omega
    have hdrop : rk.drop i = k :: rk.drop (i + 1) := by
     rw [List.drop_eq_getElem_cons hir]
     congr 1
     exact (List.getElem?_eq_some_iff.mp hk).2
    have hdm : (md.map fun n : Nat => (n : Int)).drop i = (m : Int) :: (md.map fun n : Nat => (n : Int)).drop (i + 1) := by
     have hlm : i < (md.map fun n : Nat => (n : Int)).length := by rw [List.length_map]; exact him
     rw [List.drop_eq_getElem_cons hlm, List.getElem_map]
     congr 2
     exact (List.getElem?_eq_some_iff.mp hm).2
    rw [hdrop, hdm] at hrest
    have XT : Ext H' (upd H' Tu (.tup [.int (i : Nat), .ref pj])) := Ext.upd hTu
    have Rt := Ri.ext XT
    have ltt : LT TB (upd H' Tu (.tup [.int (i : Nat), .ref pj])) := lti.upd hTu
    have Kt := Ki.trans (Kp.ext XT)
    have hd1t := XT.1 _ _ hd1 (fun _ z => by cases z)
    have hd2t := XT.1 _ _ hd2 (fun _ z => by cases z)
    have g1t := XT.1 _ _ g1 (fun _ z => by cases z)
    refine ⟨Tu, _, rfl, .inl (.inl upd_same), rfl, _, _, rfl, _, _, rfl, rfl, ?_⟩
    refine ⟨_, rfl, _, rfl, D2, _, rfl, .inl (SqL.of hd2t), rfl, flat_nats stl, _, rfl, ?_⟩
    refine ite2 (fun c => ?_) fun c => ?_
    ·have c : i ∈ stl := by
      have c : inV (.int (i : Nat)) (nats stl) = true := c
      rw [inV_nats] at c
      exact of_decide_eq_true c
     unfold refill at hrest
     rw [if_pos c] at hrest
     obtain ⟨hr1', hr2'⟩ := List.cons.inj hrest
     have emk : m = k := by omega
     have hn0 : 0 <= numOf x := by unfold numOf; split <;> omega
     have hn9 : numOf x <= 4294967295 := by
      unfold numOf Su54.number
      split
      ·decide
      ·rcases (G.ho j x ex pm.2.1).2.2 with z | z
       ·exact absurd z (by assumption)
       ·unfold Su54.top at z
        omega
     refine ⟨_, rfl, pj, CH, dx, _, _, rfl, g1t, cl.h, cl.hn "plate" (by simp), rfl, pl, numOf x, letOf x, rfl, XT.seqT f4, hn0, hn9, some (.int (i : Nat)), some (.ref pj), k, ?_, ?_, ltt, Kt, hd1t, hd2t, hr2'⟩
     ·have : (numOf x - 1) / 2 * 27 + letOf x = (k : Int) := by
       have hs1 := (G.ho j x ex pm.2.1).1
       unfold numOf letOf Su54.number Su54.letter
       rw [if_neg pm.2.2.2.2, if_neg pm.2.2.2.2, ek]
       omega
      rw [this]
      rfl
     ·rw [etk, plates_snoc, set_same (x := x) (by rw [eaj]; exact ex) (by
       have : m + 1 = x.plate := by have := pm.2.2.2.2; omega
       show ({ x with plate := m + 1 } : Su54.House) = x
       rw [this])]
      exact Rt
    ·have c : i ∉ stl := fun z => c (by
      show inV (.int (i : Nat)) (nats stl) = true
      rw [inV_nats]
      exact decide_eq_true z)
     unfold refill at hrest
     rw [if_neg c] at hrest
     obtain ⟨hr1', hr2'⟩ := List.cons.inj hrest
     refine ⟨_, rfl, _, _, rfl, rfl, ?_⟩
     refine ⟨_, rfl, _, rfl, d, r + 1, rfl, by omega, by omega, fun Tq hTq => ?_⟩
     have XQ := XT.trans (Ext.upd (o := .tup [.int (d + 1 + (r + 1) / 27 * 2), .int ((r + 1) % 27)]) hTq)
     have g1q := XQ.1 _ _ g1 (fun _ z => by cases z)
     have Rq := Ri.ext XQ
     refine ⟨_, rfl, pj, CH, dx, _, rfl, g1q, cl.h, cl.hn "plate" (by simp), sq6, ?_⟩
     rw [put_plate]
     have B1 : But pj (upd (upd H' Tu (.tup [.int (i : Nat), .ref pj])) Tq (.tup [.int (d + 1 + (r + 1) / 27 * 2), .int ((r + 1) % 27)])) (upd (upd (upd H' Tu (.tup [.int (i : Nat), .ref pj])) Tq (.tup [.int (d + 1 + (r + 1) / 27 * 2), .int ((r + 1) % 27)])) pj (.ins CH dx (hf j st sd at_ Tq (!x.gone)))) := But.upd
     have n1 : D1 ≠ pj := ne_of (XQ.1 _ _ hd1 (fun _ z => by cases z)) g1q (by intro z; cases z)
     have n2 : D2 ≠ pj := ne_of (XQ.1 _ _ hd2 (fun _ z => by cases z)) g1q (by intro z; cases z)
     refine ⟨_, _, r + 1, rfl, ?_, (ltt.upd hTq).but B1 g1q, (Ki.trans (Kp.ext XQ)).trans (Kp.but B1 g1q upd_same fun b hb e => by rw [upd_ne hb] at e; exact e), B1 _ _ (XQ.1 _ _ hd1 (fun _ z => by cases z)) n1, B1 _ _ (XQ.1 _ _ hd2 (fun _ z => by cases z)) n2, hr2'⟩
     rw [etk, plates_snoc]
     refine Rq.write (f := fun z => { z with plate := m + 1 }) hpj B1 fun z hz => ?_
     rw [eaj, ex] at hz
     cases hz
     refine ⟨dx, Tq, st, sd, at_, upd_same, fun _ => ⟨f1, f2, f3, ?_⟩⟩
     have hq := But.upd.seqT (K := K) (H' := upd (upd (upd H' Tu (.tup [.int (i : Nat), .ref pj])) Tq (.tup [.int (d + 1 + (r + 1) / 27 * 2), .int ((r + 1) % 27)])) pj (.ins CH dx (hf j st sd at_ Tq (!x.gone)))) (a := Tq) (xs := [.int (d + 1 + (r + 1) / 27 * 2), .int ((r + 1) % 27)]) g1q (.inl (.inl upd_same))
     have en : numOf { x with plate := m + 1 } = d + 1 + (r + 1) / 27 * 2 := by
      unfold numOf Su54.number
      rw [if_neg (by show ¬ m + 1 = 0; omega)]
      have : x.side = d.toNat := pm.2.2.2.1
      show ((2 * ((m + 1 - 1) / 27) + 1 + x.side : Nat) : Int) = _
      omega
     have el : letOf { x with plate := m + 1 } = (r + 1) % 27 := by
      unfold letOf Su54.letter
      rw [if_neg (by show ¬ m + 1 = 0; omega)]
      show (((m + 1 - 1) % 27 : Nat) : Int) = _
      omega
     rw [en, el]
     exact hq
   ·rintro σ H' ⟨o7, o8, r, rfl, Ri, lti, Ki, hd1, hd2, _⟩
    have zl : (pt.zip md).take pt.length = pt.zip md := List.take_of_length_le (by rw [List.length_zip]; omega)
    rw [zl] at Ri
    refine ⟨_, rfl, _, pt.length, rfl, .inl ⟨_, SqL.of hd1, by rw [refs_len]⟩, _, rfl, _, stl.length, rfl, .inl ⟨_, SqL.of hd2, by rw [nats_len]⟩, _, _, rfl, rfl, sz1, fun D' hD' => ?_⟩
    have e1 : ((Su54.changes (Su54.top d.toNat) rk : Nat) : Int) = (pt.length : Nat) - (stl.length : Nat) := by
     rw [hce]
     omega
    refine q _ D' ls lh ss hs (by rw [ed]; exact Ri.ext (Ext.upd hD')) (lti.upd hD') (((Kp.ext X2).trans Ki).trans (Kp.ext (Ext.upd hD'))) (.inl rfl) (.inl rfl) (X2.2 _ (Ki.dom _ hD')) (fun z => ?_) (fun z => ?_) ?_
    ·rw [z, Ri.ls] at hD'; cases hD'
    ·rw [z, Ri.lh] at hD'; cases hD'
    ·rw [upd_same, ed]
     show some (HO.lst [V.int (((pt.length : Nat) : Int) - ((stl.length : Nat) : Int))]) = _
     rw [<- e1]
     rfl
end
structure Alike (a b : Su54.Abs) : Prop where
 len : b.houses.length = a.houses.length
 at_ : ∀ j, (b.house j).at_ = (a.house j).at_ /\ (b.house j).street = (a.house j).street /\ (b.house j).side = (a.house j).side /\ (b.house j).gone = (a.house j).gone
theorem Alike.refl (a : Su54.Abs) : Alike a a := ⟨rfl, fun _ => ⟨rfl, rfl, rfl, rfl⟩⟩
theorem Alike.set {a b : Su54.Abs} (h : Alike a b) (i p : Nat) : Alike a (b.set i fun z => { z with plate := p }) := by
 refine ⟨?_, fun j => ?_⟩
 ·show (b.houses.modify i _).length = _
  rw [List.length_modify]
  exact h.len
 ·have := h.at_ j
  unfold Su54.Abs.set Su54.Abs.house at *
  rw [List.getD_eq_getElem?_getD, List.getD_eq_getElem?_getD, List.getElem?_modify] at *
  cases e : b.houses[j]? with
  | none => rw [e] at this; exact this
  | some y =>
   rw [e] at this
   have this : y.at_ = _ /\ y.street = _ /\ y.side = _ /\ y.gone = _ := this
   show (if i = j then ({ y with plate := p } : Su54.House) else y).at_ = _ /\ (if i = j then ({ y with plate := p } : Su54.House) else y).street = _ /\ (if i = j then ({ y with plate := p } : Su54.House) else y).side = _ /\ (if i = j then ({ y with plate := p } : Su54.House) else y).gone = _
   split <;> exact this
theorem Alike.plates {a : Su54.Abs} : ∀ {l : List (Nat × Nat)} {b : Su54.Abs}, Alike a b -> Alike a (b.plates l)
 | [], _, h => h
 | x :: l, _, h => Alike.plates (l := l) (h.set x.1 (x.2 + 1))
theorem Alike.put {a b : Su54.Abs} (h : Alike a b) (i : Nat) : ∀ l, b.put i l = a.put i l
 | [] => rfl
 | j :: l => by
  show (if (b.house i).at_ < (b.house j).at_ then i :: j :: l else j :: b.put i l) = if (a.house i).at_ < (a.house j).at_ then i :: j :: l else j :: a.put i l
  rw [(h.at_ i).1, (h.at_ j).1, h.put i l]
theorem Alike.side {a b : Su54.Abs} (h : Alike a b) (s d : Nat) : b.side s d = a.side s d := by
 unfold Su54.Abs.side Su54.Abs.hs Su54.Abs.isH
 rw [h.len]
 have e1 : (fun j => !(b.house j).gone) = fun j => !(a.house j).gone := by funext j; rw [(h.at_ j).2.2.2]
 have e2 : (fun j => (b.house j).street == s && (b.house j).side == d) = fun j => (a.house j).street == s && (a.house j).side == d := by funext j; rw [(h.at_ j).2.1, (h.at_ j).2.2.1]
 have e3 : (fun (l : List Nat) j => b.put j l) = fun l j => a.put j l := by funext l j; exact h.put j l
 rw [e1, e2, e3]
theorem anew_fst (a : Su54.Abs) (s d : Nat) : (a.anew s d).map (·.1) = a.side s d := by
 unfold Su54.Abs.anew
 rw [List.map_map]
 show ((a.side s d).zip (List.range (a.side s d).length)).map (·.1) = _
 rw [List.map_fst_zip (by rw [List.length_range]; exact Nat.le_refl _)]
theorem anew_get {a : Su54.Abs} {s d i j : Nat} (h : (a.side s d)[i]? = some j) : (a.anew s d)[i]? = some (j, i * 27) := by
 have hi := (List.getElem?_eq_some_iff.mp h).1
 unfold Su54.Abs.anew
 rw [List.getElem?_map, (List.getElem?_zip_eq_some (z := (j, i))).mpr ⟨h, List.getElem?_range hi⟩]
 rfl
theorem anew_len (a : Su54.Abs) (s d : Nat) : (a.anew s d).length = (a.side s d).length := by rw [<- anew_fst a s d, List.length_map]
theorem differ_snoc {a : Su54.Abs} {l : List (Nat × Nat)} {x : Nat × Nat} : a.differ (l ++ [x]) = if (a.house x.1).plate = x.2 + 1 then a.differ l else a.differ l + 1 := by
 unfold Su54.Abs.differ
 rw [List.filter_append, List.length_append, List.filter_cons]
 by_cases h : (a.house x.1).plate = x.2 + 1
 ·rw [if_pos h, if_neg (by simp [h])]
  rfl
 ·rw [if_neg h, if_pos (by simpa using h)]
  rfl
abbrev sSide : Stmt := top 59
def spSide (K : Frag) (CT CS CH TB : Addr) : Sp := fun vs H Q _ => ∃ (T : Addr) (s d : Int) (a : Su54.Abs) (ls lh : Addr) (ss hs : List Addr), vs = [.ref T, .int s, .int d] /\ 0 <= s /\ (d = 0 ∨ d = 1) /\ TownR K CT CS CH H T a true ls lh ss hs /\ Good a /\ LT TB H /\
 ∀ H' : Hp, TownR K CT CS CH H' T (a.plates (a.anew s.toNat d.toNat)) true ls lh ss hs -> LT TB H' -> Kp ls lh H H' -> Q (.int (a.differ (a.anew s.toNat d.toNat) : Nat)) H'
section
variable {P : Program} {w : World} {K : Frag} {mg : Str -> Option Value} {base : Heap} {CT CS CH TB np : Addr}
theorem scSide : FnScope ["town", "s", "d", "differing", "place", "house", "plate"] ["town", "s", "d"] (defScope sSide) := scOf
theorem ok_side (D : Def K mg "number_side_anew" sSide ["town", "s", "d"]) (cl : Cl K CT CS CH) (g2 : mg "enumerate" = none) (o1 : Ok P w K mg base 2 "houses_in_order" ["town", "s", "d"] (spOrd K CT CS CH TB)) (o2 : Ok P w K mg base 1 "least_number" ["side"] spLeast) : Ok P w K mg base 3 "number_side_anew" ["town", "s", "d"] (spSide K CT CS CH TB) := by
 refine D.ok scSide (fun vs H Q E h => ?_) fun f cdv A outer s0 H vs Q E hr h => ?_
 ·obtain ⟨T, s, d, a, ls, lh, ss, hs, rfl, _⟩ := h; rfl
 ·obtain ⟨T, s, d, a, ls, lh, ss, hs, rfl, hs0, hd, R, G, lt, q⟩ := h
  have hr1 := hr.mono (show 1 <= 2 by decide)
  have hu := hr.units
  refine ⟨_, pss_cons (ps_set (i := 3) scSide.nd rfl (Or.inl rfl) pe_int)
   (pss_cons (ps_for PassesOwn.never rfl (pi_enum rfl g2 (pa_cons (pe_ok o1 hr rfl (pa_cons (pv 0) (pa_cons (pv 1) (pa_cons (pv 2) pa_nil)))) pa_nil)) (pg_tup rfl (pgs_cons (pg_name (i := 4) scSide.nd rfl (Or.inl rfl)) (pgs_cons (pg_name (i := 5) scSide.nd rfl (Or.inl rfl)) pgs_nil)))
    (pss_cons (ps_set (i := 6) scSide.nd rfl (Or.inl rfl) (pe_tup (pa_cons (pe_op op_add (pe_ok o2 hr1 rfl (pa_cons (pv 2) pa_nil)) (pe_op op_mul pe_int (pv 4))) (pa_cons pe_int pa_nil))))
    (pss_cons (ps_if (pt_cmpR (op_neT hu) (pe_fld (pv 5) rfl) (pv 6) rfl) (pss_one (ps_aug (i := 3) scSide.nd rfl (Or.inl rfl) pe_int ip_add)) pss_nil)
    (pss_one (ps_fld (pv 5) (pv 6) rfl)))))
   (pss_one (ps_ret (pv 3)))), ?_⟩
  refine ⟨_, rfl, _, rfl, _, rfl, T, s, d, a, true, ls, lh, ss, hs, rfl, R, G, lt, hs0, by omega, fun H1 D1 X1 lt1 nD1 hD1 => ?_⟩
  have ptn := side_nodup a s.toNat d.toNat
  have sle := side_le a G s.toNat d.toNat
  have hsm : ∀ j, j ∈ a.side s.toNat d.toNat -> j < a.houses.length /\ (a.house j).gone = false /\ (a.house j).street = s.toNat /\ (a.house j).side = d.toNat := fun j h => mem_side.mp h
  have hag : ∀ i j, (a.side s.toNat d.toNat)[i]? = some j -> (a.anew s.toNat d.toNat)[i]? = some (j, i * 27) := fun i j h => anew_get h
  have hal := anew_len a s.toNat d.toNat
  have haf := anew_fst a s.toNat d.toNat
  generalize hpt : a.side s.toNat d.toNat = pt at *
  generalize han : a.anew s.toNat d.toNat = an at *
  refine ⟨D1, _, rfl, SqL.of hD1, for_by (n := pt.length) (fun i σ H' => ∃ o4 o5 o6, σ = [some (.ref T), some (.int s), some (.int d), some (.int (a.differ (an.take i) : Nat)), o4, o5, o6] /\ TownR K CT CS CH H' T (a.plates (an.take i)) true ls lh ss hs /\ LT TB H' /\ Kp ls lh H1 H' /\ H' D1 = some (.lst (refs hs pt)))
    ⟨none, none, none, rfl, R.ext X1, lt1, Kp.ext (Ext.refl _), hD1⟩ ?_ ?_ ?_ ?_⟩
  ·rintro i σ H' hi ⟨o4, o5, o6, rfl, _, _, _, h1⟩
   exact ⟨_, _, SqL.of h1, List.getElem?_eq_getElem (by rw [refs_len]; exact hi)⟩
  ·rintro σ H' ⟨o4, o5, o6, rfl, _, _, _, h1⟩
   exact ⟨_, SqL.of h1, by rw [refs_len]; exact Nat.le_refl _⟩
  ·rintro i σ H' x H'' hi ⟨o4, o5, o6, rfl, Ri, lti, Ki, hd1⟩ ⟨Tu, y, rfl, hTu, rfl, hy⟩
   obtain ⟨j, hj⟩ : ∃ j, pt[i]? = some j := ⟨_, List.getElem?_eq_getElem hi⟩
   have pm := hsm j (List.mem_of_getElem? hj)
   have hjl : j < hs.length := by rw [R.hl]; exact pm.1
   obtain ⟨pj, hpj⟩ : ∃ pj, hs[j]? = some pj := ⟨_, List.getElem?_eq_getElem hjl⟩
   have ey : y = .ref pj := by
    have := hy _ (SqL.of hd1)
    unfold refs at this
    rw [List.getElem?_map, List.getElem?_map, hj] at this
    have this : V.ref (hs.getD j 0) = y := Option.some.inj this
    rw [getD_at hpj] at this
    exact this.symm
   subst ey
   have etk : an.take (i + 1) = an.take i ++ [(j, i * 27)] := by rw [List.take_add_one, hag i j hj]; rfl
   have nj : j ∉ (an.take i).map (·.1) := fun z => by
    rw [List.map_take, haf] at z
    obtain ⟨i', hi', e'⟩ := List.mem_iff_getElem.mp z
    rw [List.length_take] at hi'
    rw [List.getElem_take] at e'
    have : i' = i := nd_ix ptn (by rw [List.getElem?_eq_getElem (by omega), e']) hj
    omega
   have eaj := plates_get (a := a) nj
   obtain ⟨x, ex, ex2, dx, pl, st, sd, at_, g1, g2⟩ := Ri.house hpj
   rw [eaj] at ex
   have exa := house_of ex
   rw [exa] at pm
   obtain ⟨f1, f2, f3, f4⟩ := g2 pm.2.1
   have hside := (G.ho j x ex pm.2.1).1
   have XT : Ext H' (upd H' Tu (.tup [.int (i : Nat), .ref pj])) := Ext.upd hTu
   refine ⟨Tu, _, rfl, .inl (.inl upd_same), rfl, _, _, rfl, _, _, rfl, rfl, ?_⟩
   refine ⟨_, rfl, d, rfl, _, rfl, _, _, rfl, rfl, .inl ⟨by decide, by decide⟩, _, _, rfl, rfl, sz2, fun Tq hTq => ?_⟩
   have XQ := XT.trans (Ext.upd (o := .tup [.int (d + 1 + 2 * (i : Nat)), .int 0]) hTq)
   have g1q := XQ.1 _ _ g1 (fun _ z => by cases z)
   have Rq := Ri.ext XQ
   have ltq : LT TB (upd (upd H' Tu (.tup [.int (i : Nat), .ref pj])) Tq (.tup [.int (d + 1 + 2 * (i : Nat)), .int 0])) := (lti.upd hTu).upd hTq
   have hd1q := XQ.1 _ _ hd1 (fun _ z => by cases z)
   have esd : x.side = d.toNat := pm.2.2.2
   have pif := plate_iff (x := x) (n := x.side + 1 + 2 * i) (l := 0) hside (by omega) (by omega) (by omega)
   have erk : Su54.rank x.side (x.side + 1 + 2 * i) 0 = i * 27 := by
    unfold Su54.rank
    omega
   rw [erk] at pif
   have en : (((x.side + 1 + 2 * i : Nat)) : Int) = d + 1 + 2 * (i : Nat) := by omega
   rw [en] at pif
   have pif : (([numOf x, letOf x] : List Int) = [d + 1 + 2 * (i : Nat), 0]) ↔ x.plate = i * 27 + 1 := pif
   have B1 : But pj (upd (upd H' Tu (.tup [.int (i : Nat), .ref pj])) Tq (.tup [.int (d + 1 + 2 * (i : Nat)), .int 0])) (upd (upd (upd H' Tu (.tup [.int (i : Nat), .ref pj])) Tq (.tup [.int (d + 1 + 2 * (i : Nat)), .int 0])) pj (.ins CH dx (hf j st sd at_ Tq (!x.gone)))) := But.upd
   have n1 : D1 ≠ pj := ne_of hd1q g1q (by intro z; cases z)
   have Rw : TownR K CT CS CH (upd (upd (upd H' Tu (.tup [.int (i : Nat), .ref pj])) Tq (.tup [.int (d + 1 + 2 * (i : Nat)), .int 0])) pj (.ins CH dx (hf j st sd at_ Tq (!x.gone)))) T (a.plates (an.take (i + 1))) true ls lh ss hs := by
    rw [etk, plates_snoc]
    refine Rq.write (f := fun z => { z with plate := i * 27 + 1 }) hpj B1 fun z hz => ?_
    rw [eaj, ex] at hz
    cases hz
    refine ⟨dx, Tq, st, sd, at_, upd_same, fun _ => ⟨f1, f2, f3, ?_⟩⟩
    have hq := But.upd.seqT (K := K) (H' := upd (upd (upd H' Tu (.tup [.int (i : Nat), .ref pj])) Tq (.tup [.int (d + 1 + 2 * (i : Nat)), .int 0])) pj (.ins CH dx (hf j st sd at_ Tq (!x.gone)))) (a := Tq) (xs := [.int (d + 1 + 2 * (i : Nat)), .int 0]) g1q (.inl (.inl upd_same))
    have pq := (plate_iff (x := { x with plate := i * 27 + 1 }) (n := x.side + 1 + 2 * i) (l := 0) hside (by omega) (by show (x.side + 1 + 2 * i) % 2 = 1 - x.side; omega) (by omega)).mpr (by rw [erk])
    simp only [List.cons.injEq, and_true] at pq
    rw [pq.1, pq.2, en]
    exact hq
   have ltw := ltq.but B1 g1q
   have Kw := (Ki.trans (Kp.ext XQ)).trans (Kp.but B1 g1q upd_same fun b hb e => by rw [upd_ne hb] at e; exact e)
   have hd1w := B1 _ _ hd1q n1
   refine ⟨_, rfl, pj, CH, dx, _, _, rfl, g1q, cl.h, cl.hn "plate" (by simp), rfl, _, rfl, pl, Tq, [numOf x, letOf x], [d + 1 + 2 * (i : Nat), 0], rfl, rfl, XQ.seqT f4, .inl (.inl upd_same), sz8, sz8, _, rfl, ?_⟩
   refine ite2 (fun c => ?_) fun c => ?_
   ·have c : ¬ x.plate = i * 27 + 1 := fun z => by
     have c : (!decide (([numOf x, letOf x] : List Int) = [d + 1 + 2 * (i : Nat), 0])) = true := c
     rw [decide_eq_true (pif.mpr z)] at c
     cases c
    refine ⟨_, rfl, _, _, rfl, rfl, ?_⟩
    refine ⟨_, rfl, _, rfl, pj, CH, dx, _, rfl, g1q, cl.h, cl.hn "plate" (by simp), sq6, ?_⟩
    rw [put_plate]
    refine ⟨some (.int (i : Nat)), some (.ref pj), some (.ref Tq), ?_, Rw, ltw, Kw, hd1w⟩
    rw [etk, differ_snoc, if_neg (by show ¬ (a.house j).plate = i * 27 + 1; rw [exa]; exact c)]
    rfl
   ·have c : x.plate = i * 27 + 1 := by
     have c : ¬ (!decide (([numOf x, letOf x] : List Int) = [d + 1 + 2 * (i : Nat), 0])) = true := c
     rw [Bool.not_eq_true', Bool.not_eq_false] at c
     exact pif.mp (of_decide_eq_true c)
    refine ⟨_, rfl, _, rfl, pj, CH, dx, _, rfl, g1q, cl.h, cl.hn "plate" (by simp), sq6, ?_⟩
    rw [put_plate]
    refine ⟨some (.int (i : Nat)), some (.ref pj), some (.ref Tq), ?_, Rw, ltw, Kw, hd1w⟩
    rw [etk, differ_snoc, if_pos (by show (a.house j).plate = i * 27 + 1; rw [exa]; exact c)]
    rfl
  ·rintro σ H' ⟨o4, o5, o6, rfl, Ri, lti, Ki, hd1⟩
   have zl : an.take pt.length = an := List.take_of_length_le (by omega)
   rw [zl] at Ri ⊢
   exact ⟨_, rfl, q H' Ri lti ((Kp.ext X1).trans Ki)⟩
abbrev sAnew : Stmt := top 58
abbrev cAnew : List Nat -> Su54.Call := fun l => .anew (l.getD 0 0)
theorem scAnew : FnScope ["town", "s"] ["town", "s"] (defScope sAnew) := scOf
theorem plates_app (a : Su54.Abs) (l m : List (Nat × Nat)) : a.plates (l ++ m) = (a.plates l).plates m := by
 unfold Su54.Abs.plates
 rw [List.foldl_append]
theorem anew_after (a : Su54.Abs) (l : List (Nat × Nat)) (s d : Nat) : (a.plates l).anew s d = a.anew s d := by
 unfold Su54.Abs.anew
 rw [((Alike.refl a).plates (l := l)).side s d]
theorem house_plates {a : Su54.Abs} {l : List (Nat × Nat)} {j : Nat} (h : j ∉ l.map (·.1)) : (a.plates l).house j = a.house j := by
 unfold Su54.Abs.house
 rw [List.getD_eq_getElem?_getD, List.getD_eq_getElem?_getD, plates_get h]
theorem differ_after (a : Su54.Abs) (s : Nat) : (a.plates (a.anew s 0)).differ (a.anew s 1) = a.differ (a.anew s 1) := by
 unfold Su54.Abs.differ
 congr 1
 refine List.filter_congr fun q hq => ?_
 have h1 : q.1 ∈ a.side s 1 := by rw [<- anew_fst a s 1]; exact List.mem_map.mpr ⟨q, hq, rfl⟩
 rw [house_plates fun z => by
  rw [anew_fst] at z
  have e0 := (mem_side.mp z).2.2.2
  have e1 := (mem_side.mp h1).2.2.2
  omega]
theorem ok_anew (D : Def K mg "number_anew" sAnew ["town", "s"]) (n1 : Num mg "NO_SUCH" (-2)) (o1 : Ok P w K mg base 1 "find_street" ["town", "s"] (spFindS K CT CS CH)) (o2 : Ok P w K mg base 3 "number_side_anew" ["town", "s", "d"] (spSide K CT CS CH TB)) : Ok P w K mg base 4 "number_anew" ["town", "s"] (spDo K CT CS CH TB 1 cAnew) := by
 refine D.ok scAnew spDo_len fun f cdv A outer s0 H vs Q E hr h => ?_
 ·obtain ⟨T, xs, a, ls, lh, ss, hs, rfl, hl, hx, R, G, lt, q⟩ := h
  obtain ⟨s, rfl⟩ := one_of hl
  have hs0 := (hx s (by simp)).1
  have q : Want K CT CS CH TB T ls lh H a (.anew s.toNat) Q := q
  have hr1 := hr.mono (show 1 <= 3 by decide)
  refine ⟨_, pss_cons (ps_if (pt_cmp (pc_isN (pe_ok o1 hr1 rfl (pa_cons (pv 0) (pa_cons (pv 1) pa_nil))))) (pss_one (ps_ret (pe_lst (pa_cons (pe_num n1 rfl) pa_nil)))) pss_nil)
   (pss_one (ps_ret (pe_lst (pa_cons (pe_op op_add (pe_ok o2 hr rfl (pa_cons (pv 0) (pa_cons (pv 1) (pa_cons pe_int pa_nil)))) (pe_ok o2 hr rfl (pa_cons (pv 0) (pa_cons (pv 1) (pa_cons pe_int pa_nil))))) pa_nil)))), ?_⟩
  refine ⟨_, rfl, _, rfl, T, s, a, true, ls, lh, ss, hs, rfl, hs0, R, G, fun p x hp ex hI => ⟨_, rfl, iteF ?_⟩, fun hI => ⟨_, rfl, iteT ?_⟩⟩
  ·have ed : Su54.does a (.anew s.toNat) = (a.plates (a.anew s.toNat 0 ++ a.anew s.toNat 1), Su54.num (a.differ (a.anew s.toNat 0 ++ a.anew s.toNat 1)) []) := by
    dsimp only [Su54.does]
    rw [if_neg (by rw [hI]; decide)]
   refine ⟨_, rfl, _, rfl, T, s, 0, a, ls, lh, ss, hs, rfl, hs0, .inl rfl, R, G, lt, fun H1 R1 lt1 K1 => ?_⟩
   have G1 : Good (a.plates (a.anew s.toNat 0)) := G.plates fun q hq => anew_top G (by omega) q hq
   refine ⟨_, rfl, _, rfl, T, s, 1, a.plates (a.anew s.toNat 0), ls, lh, ss, hs, rfl, hs0, .inr rfl, R1, G1, lt1, fun H2 R2 lt2 K2 => ?_⟩
   have R2 : TownR K CT CS CH H2 T ((a.plates (a.anew s.toNat 0)).plates ((a.plates (a.anew s.toNat 0)).anew s.toNat 1)) true ls lh ss hs := R2
   rw [anew_after, <- plates_app] at R2
   refine ⟨_, _, rfl, rfl, sz1, fun D' hD' => ?_⟩
   have ev : ((a.differ (a.anew s.toNat 0 ++ a.anew s.toNat 1) : Nat) : Int) = (a.differ (a.anew s.toNat (0 : Int).toNat) : Nat) + ((a.plates (a.anew s.toNat 0)).differ ((a.plates (a.anew s.toNat 0)).anew s.toNat (1 : Int).toNat) : Nat) := by
    have e1 : (a.plates (a.anew s.toNat 0)).anew s.toNat (1 : Int).toNat = a.anew s.toNat 1 := anew_after a _ _ _
    rw [e1, differ_after]
    show ((a.differ (a.anew s.toNat 0 ++ a.anew s.toNat 1) : Nat) : Int) = (a.differ (a.anew s.toNat 0) : Nat) + (a.differ (a.anew s.toNat 1) : Nat)
    unfold Su54.Abs.differ
    rw [List.filter_append, List.length_append]
    omega
   refine q _ D' ls lh ss hs (by rw [ed]; exact R2.ext (Ext.upd hD')) (lt2.upd hD') ((K1.trans K2).trans (Kp.ext (Ext.upd hD'))) (.inl rfl) (.inl rfl) (K1.dom _ (K2.dom _ hD')) (fun z => ?_) (fun z => ?_) ?_
   ·rw [z, R2.ls] at hD'; cases hD'
   ·rw [z, R2.lh] at hD'; cases hD'
   ·rw [upd_same, ed]
    show some (HO.lst [V.int ((a.differ (a.anew s.toNat (0 : Int).toNat) : Nat) + ((a.plates (a.anew s.toNat 0)).differ ((a.plates (a.anew s.toNat 0)).anew s.toNat (1 : Int).toNat) : Nat))]) = _
    rw [<- ev]
    rfl
  ·refine ⟨sz1, fun D' hD' => q.no R (Ext.refl H) lt ?_ D' hD'⟩
   dsimp only [Su54.does]
   rw [if_pos hI]
end
def fitB (p : List Int) (cs ds : List (List Int)) : Bool := !(cs.any fun c => decide (c = p)) && (!(ds.any fun c => decide (c = p)) && match ds with | [] => true | d :: _ => HT.lexLt p d)
def spFits (K : Frag) : Sp := fun vs H Q _ => ∃ (pl bf bh : Addr) (n l : Int) (ps qs : List Addr) (cs ds : List (List Int)), vs = [.ref pl, .ref bf, .ref bh] /\ SqT K H pl [.int n, .int l] /\ SqL K H bf (ps.map V.ref) /\ TupsAt K H ps cs /\ SqL K H bh (qs.map V.ref) /\ TupsAt K H qs ds /\ Q (.bl (fitB [n, l] cs ds)) H
def spTry (K : Frag) : Sp := fun vs H Q _ => ∃ (d : Int) (bf : Addr) (ps : List Addr) (cs : List (List Int)), vs = [.int d, .ref bf] /\ SqL K H bf (ps.map V.ref) /\ TupsAt K H ps cs /\
 (cs = [] -> ∀ t D, H t = none -> (upd H t (.tup [.int (d + 1), .int 0])) D = none -> Q (.ref D) (upd (upd H t (.tup [.int (d + 1), .int 0])) D (.lst [.ref t]))) /\
 (cs ≠ [] -> ∃ n l, cs.getLast? = some [n, l] /\ ∀ t u D, H t = none -> (upd H t (.tup [.int (n + 2), .int 0])) u = none -> (upd (upd H t (.tup [.int (n + 2), .int 0])) u (.tup [.int n, .int (l + 1)])) D = none -> Q (.ref D) (upd (upd (upd H t (.tup [.int (n + 2), .int 0])) u (.tup [.int n, .int (l + 1)])) D (.lst [.ref t, .ref u])))
theorem TupsAt.len {K : Frag} {H : Hp} {ps : List Addr} {cs : List (List Int)} (h : TupsAt K H ps cs) : ps.length = cs.length := Paired.length h
theorem TupsAt.get {K : Frag} {H : Hp} : ∀ {ps : List Addr} {cs : List (List Int)} {i : Nat} {c : List Int}, TupsAt K H ps cs -> cs[i]? = some c -> ∃ p, ps[i]? = some p /\ SqT K H p (c.map V.int)
 | _, _, _, _, .nil, e => by simp at e
 | _, _, 0, _, .cons r _, e => by
  have e := Option.some.inj e
  subst e
  exact ⟨_, rfl, r.1⟩
 | _, _, i + 1, c, .cons _ t, e => TupsAt.get (i := i) (c := c) t e
section
variable {P : Program} {w : World} {K : Frag} {mg : Str -> Option Value} {base : Heap} {CT CS CH TB np : Addr}
abbrev sFits : Stmt := top 62
abbrev sTry : Stmt := top 61
theorem scFits : FnScope ["plate", "before", "behind"] ["plate", "before", "behind"] (defScope sFits) := scOf
theorem ok_fits (D : Def K mg "fits_ahead" sFits ["plate", "before", "behind"]) (g1 : mg "len" = none) : Ok P w K mg base 1 "fits_ahead" ["plate", "before", "behind"] (spFits K) := by
 refine D.ok scFits (fun vs H Q E h => ?_) fun f cdv A outer s0 H vs Q E hr h => ?_
 ·obtain ⟨pl, bf, bh, n, l, ps, qs, cs, ds, rfl, _⟩ := h; rfl
 ·obtain ⟨pl, bf, bh, n, l, ps, qs, cs, ds, rfl, hp, hb, tb, hh, th, q⟩ := h
  have hu : (A.deeper (envOfC "fits_ahead" (defScope sFits) s0.heap.objs.size f cdv)).units + 100 < cLine := by have := hr.un; omega
  have hu0 : (A.deeper (envOfC "fits_ahead" (defScope sFits) s0.heap.objs.size f cdv)).units < cLine := by omega
  refine ⟨_, pss_cons (ps_if (PW.pt (pw_or (pt_cmpR (op_inT hu) (pv 0) (pv 1) rfl) (pw_or1 (pt_cmpR (op_inT hu) (pv 0) (pv 2) rfl)))) (pss_one (ps_ret pe_bl)) pss_nil)
   (pss_one (ps_ret (pe_or (pe_cmpR op_eq (pe_callB call_len rfl g1 PySem.boot_len (pa_cons (pv 2) pa_nil)) pe_int rfl) (pe_one (pe_cmpR (op_ltT hu0) (pv 0) (pe_ix ix_list (pv 2) pe_int (fun _ _ => rfl)) rfl))))), ?_⟩
  have hp' : SqT K H pl ([n, l].map V.int) := hp
  unfold fitB at q
  refine ⟨_, rfl, _, rfl, pl, bf, [n, l], ps, cs, rfl, rfl, hp', sz8, hb, tb, _, rfl, ?_⟩
  refine ite2 (fun c => ?_) fun c => ?_
  ·rw [c] at q
   exact iteT q
  ·have c : (cs.any fun c => decide (c = [n, l])) = false := by rw [Bool.not_eq_true] at c; exact c
   rw [c] at q
   refine ⟨_, rfl, _, rfl, pl, bh, [n, l], qs, ds, rfl, rfl, hp', sz8, hh, th, _, rfl, ?_⟩
   refine ite2 (fun c2 => ?_) fun c2 => ?_
   ·rw [c2] at q
    exact q
   ·have c2 : (ds.any fun c => decide (c = [n, l])) = false := by rw [Bool.not_eq_true] at c2; exact c2
    rw [c2] at q
    refine ⟨_, rfl, _, qs.length, rfl, .inl ⟨_, hh, by rw [List.length_map]⟩, rfl, _, rfl, ?_⟩
    have ql := TupsAt.len th
    refine ite2 (fun c3 => ?_) fun c3 => ?_
    ·rw [dec_V] at c3
     have c3 : ((qs.length : Nat) : Int) = 0 := of_decide_eq_true c3
     have e : ds = [] := List.length_eq_zero_iff.mp (by omega)
     subst e
     exact q
    ·cases ds with
     | nil => exact absurd (by rw [dec_V]; exact decide_eq_true (by rw [ql]; rfl)) c3
     | cons d0 ds =>
      obtain ⟨p0, hp0, t0⟩ := TupsAt.get th (i := 0) (c := d0) rfl
      refine ⟨_, rfl, _, rfl, bh, _, _, _, rfl, rfl, hh, atI_nat (j := 0) (v := .ref p0) (by rw [List.getElem?_map, hp0]; rfl), pl, p0, [n, l], d0, rfl, rfl, hp', t0, q⟩
theorem scTry : FnScope ["side", "before", "number", "letter"] ["side", "before"] (defScope sTry) := scOf
theorem atI_back {α : Type} {l : List α} {x : α} (h : l.getLast? = some x) : atI l (-1) = some x := by
 obtain ⟨m, rfl⟩ := List.getLast?_eq_some_iff.mp h
 exact atI_last m x
theorem ok_try (D : Def K mg "plates_to_try" sTry ["side", "before"]) (g1 : mg "len" = none) (o1 : Ok P w K mg base 1 "least_number" ["side"] spLeast) : Ok P w K mg base 2 "plates_to_try" ["side", "before"] (spTry K) := by
 refine D.ok scTry (fun vs H Q E h => ?_) fun f cdv A outer s0 H vs Q E hr h => ?_
 ·obtain ⟨d, bf, ps, cs, rfl, _⟩ := h; rfl
 ·obtain ⟨d, bf, ps, cs, rfl, hb, tb, q1, q2⟩ := h
  refine ⟨_, pss_cons (ps_if (pt_cmpR op_eq (pe_callB call_len rfl g1 PySem.boot_len (pa_cons (pv 1) pa_nil)) pe_int rfl) (pss_one (ps_ret (pe_lst (pa_cons (pe_tup (pa_cons (pe_ok o1 hr rfl (pa_cons (pv 0) pa_nil)) (pa_cons pe_int pa_nil))) pa_nil)))) pss_nil)
   (pss_cons (ps_set (i := 2) scTry.nd rfl (Or.inl rfl) (pe_ix ix_tup (pe_ix ix_list (pv 1) (pe_un un_neg pe_int) (fun _ _ => rfl)) pe_int (fun _ _ => rfl)))
   (pss_cons (ps_set (i := 3) scTry.nd rfl (Or.inl rfl) (pe_ix ix_tup (pe_ix ix_list (pv 1) (pe_un un_neg pe_int) (fun _ _ => rfl)) pe_int (fun _ _ => rfl)))
   (pss_one (ps_ret (pe_lst (pa_cons (pe_tup (pa_cons (pe_op op_add (pv 2) pe_int) (pa_cons pe_int pa_nil))) (pa_cons (pe_tup (pa_cons (pv 2) (pa_cons (pe_op op_add (pv 3) pe_int) pa_nil))) pa_nil))))))), ?_⟩
  have pl := TupsAt.len tb
  refine ⟨_, rfl, _, ps.length, rfl, .inl ⟨_, hb, by rw [List.length_map]⟩, rfl, _, rfl, ?_⟩
  refine ite2 (fun c => ?_) fun c => ?_
  ·rw [dec_V] at c
   have c : ((ps.length : Nat) : Int) = 0 := of_decide_eq_true c
   have e : cs = [] := List.length_eq_zero_iff.mp (by omega)
   exact ⟨_, rfl, d, rfl, sz2, fun t ht => ⟨sz1, fun D' hD' => q1 e t D' ht hD'⟩⟩
  ·have e : cs ≠ [] := fun z => c (by
    rw [dec_V]
    refine decide_eq_true ?_
    rw [pl, z]
    rfl)
   obtain ⟨n, l, hla, q3⟩ := q2 e
   have hl2 : cs[cs.length - 1]? = some [n, l] := by rw [<- List.getLast?_eq_getElem?]; exact hla
   obtain ⟨p0, hp0, t0⟩ := TupsAt.get tb hl2
   have t0 : SqT K H p0 [.int n, .int l] := t0
   have hat : atI (ps.map V.ref) (-1) = some (.ref p0) := atI_back (by
    rw [List.getLast?_eq_getElem?, List.length_map, List.getElem?_map, pl, hp0]
    rfl)
   refine ⟨_, rfl, _, rfl, bf, _, _, _, rfl, rfl, hb, hat, p0, _, _, _, rfl, rfl, t0, rfl, ?_⟩
   refine ⟨_, rfl, _, rfl, bf, _, _, _, rfl, rfl, hb, hat, p0, _, _, _, rfl, rfl, t0, rfl, ?_⟩
   refine ⟨_, rfl, _, _, rfl, rfl, sz2, fun t ht => ?_⟩
   refine ⟨_, rfl, _, rfl, _, _, rfl, rfl, sz2, fun u hu => ⟨sz2, fun D' hD' => q3 t u D' ht hu hD'⟩⟩
end
def bfL (a : Su54.Abs) (h : Nat) : List Nat := (a.plated (a.house h).street (a.house h).side).filter fun i => decide ((a.house i).at_ < (a.house h).at_)
def bhL (a : Su54.Abs) (h : Nat) : List Nat := (a.plated (a.house h).street (a.house h).side).filter fun i => decide ((a.house h).at_ < (a.house i).at_)
def okC (a : Su54.Abs) (h : Nat) (n l : Int) : Bool := decide (1 <= n /\ n <= 999 /\ l <= 26) && fitB [n, l] ((bfL a h).map (plOf a)) ((bhL a h).map (plOf a))
theorem at_house {a : Su54.Abs} {j : Nat} (h : j < a.houses.length) : a.houses[j]? = some (a.house j) := by
 have e : a.houses[j]? = some a.houses[j] := List.getElem?_eq_getElem h
 rw [e, house_of e]
theorem has_split {a : Su54.Abs} (G : Good a) {h : Nat} {x : Su54.House} (ex : a.houses[h]? = some x) (g : x.gone = false) (hp : x.plate = 0) {r : Nat} : (a.has x.street x.side r).isSome = true ↔ ∃ j ∈ bfL a h ++ bhL a h, (a.house j).plate = r + 1 := by
 rw [has_iff]
 have exa := house_of ex
 unfold bfL bhL
 rw [exa]
 constructor
 ·rintro ⟨j, hj, e⟩
  have mj := mem_side.mp hj
  have hpj : j ∈ a.plated x.street x.side := List.mem_filter.mpr ⟨hj, by rw [e]; simp⟩
  have ej := at_house mj.1
  have ne : (a.house j).at_ ≠ x.at_ := fun z => by
   have := G.di j h _ _ ej ex mj.2.1 g mj.2.2.1 mj.2.2.2 z
   rw [this, exa, hp] at e
   cases e
  refine ⟨j, List.mem_append.mpr ?_, e⟩
  by_cases c : (a.house j).at_ < x.at_
  ·exact .inl (List.mem_filter.mpr ⟨hpj, decide_eq_true c⟩)
  ·exact .inr (List.mem_filter.mpr ⟨hpj, decide_eq_true (by omega)⟩)
 ·rintro ⟨j, hj, e⟩
  have hj : j ∈ a.plated x.street x.side := by
   rcases List.mem_append.mp hj with z | z
   ·exact (List.mem_filter.mp z).1
   ·exact (List.mem_filter.mp z).1
  exact ⟨j, (List.mem_filter.mp hj).1, e⟩
theorem lex_rank {d r q : Nat} : HT.lexLt [((Su54.number d r : Nat) : Int), ((Su54.letter r : Nat) : Int)] [((Su54.number d q : Nat) : Int), ((Su54.letter q : Nat) : Int)] = decide (r < q) := by
 rw [HT.lexLt_cons, HT.lexLt_cons]
 unfold Su54.number Su54.letter
 rw [Bool.eq_iff_iff, decide_eq_true_iff]
 by_cases c1 : ((2 * (r / 27) + 1 + d : Nat) : Int) = ((2 * (q / 27) + 1 + d : Nat) : Int)
 ·rw [if_pos c1]
  by_cases c2 : ((r % 27 : Nat) : Int) = ((q % 27 : Nat) : Int)
  ·rw [if_pos c2]
   constructor
   ·intro z; cases z
   ·intro z; omega
  ·rw [if_neg c2, decide_eq_true_iff]
   omega
 ·rw [if_neg c1, decide_eq_true_iff]
  omega
theorem fits_eq {a : Su54.Abs} (G : Good a) {h : Nat} {x : Su54.House} (ex : a.houses[h]? = some x) (g : x.gone = false) (hp : x.plate = 0) {r : Nat} (hr : r <= Su54.top x.side) :
  fitB [((Su54.number x.side r : Nat) : Int), ((Su54.letter r : Nat) : Int)] ((bfL a h).map (plOf a)) ((bhL a h).map (plOf a)) = a.fitsBehind h r := by
 have exa := house_of ex
 have hside := (G.ho h x ex g).1
 have key : ∀ j, j ∈ a.plated x.street x.side -> (plOf a j = [((Su54.number x.side r : Nat) : Int), ((Su54.letter r : Nat) : Int)] ↔ (a.house j).plate = r + 1) := fun j hj => by
  have pm := plated_mem hj
  have := plate_iff (x := a.house j) (n := Su54.number x.side r) (l := Su54.letter r) (by rw [pm.2.2.2.1]; exact hside) (by unfold Su54.number; omega) (by rw [pm.2.2.2.1]; unfold Su54.number; omega) (by unfold Su54.letter; omega)
  rw [pm.2.2.2.1, <- (rank_iff (r := r) hside (by unfold Su54.number; omega) (by unfold Su54.number; omega) (by unfold Su54.letter; omega)).mpr ⟨rfl, rfl⟩] at this
  exact this
 have sub1 : ∀ j ∈ bfL a h, j ∈ a.plated x.street x.side := fun j hj => by unfold bfL at hj; rw [exa] at hj; exact (List.mem_filter.mp hj).1
 have sub2 : ∀ j ∈ bhL a h, j ∈ a.plated x.street x.side := fun j hj => by unfold bhL at hj; rw [exa] at hj; exact (List.mem_filter.mp hj).1
 have any_of : ∀ l : List Nat, (∀ j ∈ l, j ∈ a.plated x.street x.side) -> (((l.map (plOf a)).any fun c => decide (c = [((Su54.number x.side r : Nat) : Int), ((Su54.letter r : Nat) : Int)])) = true ↔ ∃ j ∈ l, (a.house j).plate = r + 1) := fun l hl => by
  rw [List.any_eq_true]
  constructor
  ·rintro ⟨c, hc, e⟩
   obtain ⟨j, hj, rfl⟩ := List.mem_map.mp hc
   exact ⟨j, hj, (key j (hl j hj)).mp (of_decide_eq_true e)⟩
  ·rintro ⟨j, hj, e⟩
   exact ⟨_, List.mem_map.mpr ⟨j, hj, rfl⟩, decide_eq_true ((key j (hl j hj)).mpr e)⟩
 have hb : a.behind h = (bhL a h).head? := rfl
 unfold fitB Su54.Abs.fitsBehind
 rw [hb, exa, decide_eq_true hr, Bool.true_and]
 have hn : (a.has x.street x.side r).isNone = (!((bfL a h).map (plOf a)).any (fun c => decide (c = [((Su54.number x.side r : Nat) : Int), ((Su54.letter r : Nat) : Int)])) && !((bhL a h).map (plOf a)).any (fun c => decide (c = [((Su54.number x.side r : Nat) : Int), ((Su54.letter r : Nat) : Int)]))) := by
  have hs := has_split G ex g hp (r := r)
  rw [Bool.eq_iff_iff, Option.isNone_iff_eq_none, <- Option.not_isSome_iff_eq_none, hs, Bool.and_eq_true, Bool.not_eq_true', Bool.not_eq_true', <- Bool.not_eq_true, <- Bool.not_eq_true, any_of _ sub1, any_of _ sub2]
  constructor
  ·intro z
   exact ⟨fun ⟨j, hj, e⟩ => z ⟨j, List.mem_append_left _ hj, e⟩, fun ⟨j, hj, e⟩ => z ⟨j, List.mem_append_right _ hj, e⟩⟩
  ·rintro ⟨z1, z2⟩ ⟨j, hj, e⟩
   rcases List.mem_append.mp hj with w | w
   ·exact z1 ⟨j, w, e⟩
   ·exact z2 ⟨j, w, e⟩
 rw [hn, Bool.and_assoc]
 congr 2
 cases eb : bhL a h with
 | nil => rfl
 | cons i l =>
  show HT.lexLt _ (plOf a i) = decide (r < (a.house i).plate - 1)
  have pm := plated_mem (sub2 i (by rw [eb]; exact List.mem_cons_self))
  unfold plOf numOf letOf
  rw [if_neg pm.2.2.2.2, if_neg pm.2.2.2.2, pm.2.2.2.1]
  exact lex_rank
theorem betw_none {a : Su54.Abs} (G : Good a) {h : Nat} {x : Su54.House} (ex : a.houses[h]? = some x) (g : x.gone = false) (hp : x.plate = 0) (hb : bfL a h = []) : a.between h = if okC a h ((x.side : Int) + 1) 0 = true then some 0 else none := by
 have hbe : a.before h = (bfL a h).getLast? := rfl
 have hside := (G.ho h x ex g).1
 unfold Su54.Abs.between okC
 rw [hbe, hb]
 have := fits_eq G ex g hp (r := 0) (Nat.zero_le _)
 have e : (((Su54.number x.side 0 : Nat)) : Int) = (x.side : Int) + 1 := by unfold Su54.number; omega
 have e2 : (((Su54.letter 0 : Nat)) : Int) = 0 := rfl
 rw [e, e2, hb] at this
 rw [this, decide_eq_true (by omega), Bool.true_and]
 rfl
theorem betw_some {a : Su54.Abs} (G : Good a) {h : Nat} {x : Su54.House} (ex : a.houses[h]? = some x) (g : x.gone = false) (hp : x.plate = 0) {i : Nat} (hb : (bfL a h).getLast? = some i) {n l : Int} (hn : numOf (a.house i) = n) (hl : letOf (a.house i) = l) :
  a.between h = if okC a h (n + 2) 0 = true then some (((a.house i).plate - 1) / 27 * 27 + 27) else if okC a h n (l + 1) = true then some ((a.house i).plate - 1 + 1) else none := by
 have exa := house_of ex
 have hbe : a.before h = (bfL a h).getLast? := rfl
 have hside := (G.ho h x ex g).1
 have mi : i ∈ a.plated x.street x.side := by
  have z := List.mem_of_getLast? hb
  unfold bfL at z
  rw [exa] at z
  exact (List.mem_filter.mp z).1
 have pm := plated_mem mi
 have ei := at_house pm.1
 have hrt : (a.house i).plate - 1 <= Su54.top x.side := by
  rcases (G.ho i _ ei pm.2.1).2.2 with z | z
  ·exact absurd z pm.2.2.2.2
  ·rw [pm.2.2.2.1] at z; exact z
 generalize hr : (a.house i).plate - 1 = r at hrt
 have en : n = ((Su54.number x.side r : Nat) : Int) := by rw [<- hn]; unfold numOf; rw [if_neg pm.2.2.2.2, hr, pm.2.2.2.1]
 have el : l = ((Su54.letter r : Nat) : Int) := by rw [<- hl]; unfold letOf; rw [if_neg pm.2.2.2.2, hr]
 have c1 : okC a h (n + 2) 0 = a.fitsBehind h ((r / 27 + 1) * 27) := by
  unfold okC
  by_cases c : (r / 27 + 1) * 27 <= Su54.top x.side
  ·have := fits_eq G ex g hp c
   have e1 : (((Su54.number x.side ((r / 27 + 1) * 27) : Nat)) : Int) = n + 2 := by rw [en]; unfold Su54.number; omega
   have e2 : (((Su54.letter ((r / 27 + 1) * 27) : Nat)) : Int) = 0 := by unfold Su54.letter; omega
   rw [e1, e2] at this
   rw [this, decide_eq_true (by rw [en]; unfold Su54.number; unfold Su54.top at c; omega), Bool.true_and]
  ·rw [decide_eq_false (by rw [en]; unfold Su54.number; unfold Su54.top at c; omega), Bool.false_and]
   unfold Su54.Abs.fitsBehind
   rw [exa, decide_eq_false c, Bool.false_and]
 have c2 : okC a h n (l + 1) = decide ((r + 1) % 27 ≠ 0 /\ a.fitsBehind h (r + 1) = true) := by
  unfold okC
  by_cases c : (r + 1) % 27 = 0
  ·rw [decide_eq_false (by rw [el]; unfold Su54.letter; omega), Bool.false_and, decide_eq_false (fun z => z.1 c)]
  ·have := fits_eq G ex g hp (r := r + 1) (by unfold Su54.top at hrt ⊢; omega)
   have e1 : (((Su54.number x.side (r + 1) : Nat)) : Int) = n := by rw [en]; unfold Su54.number; omega
   have e2 : (((Su54.letter (r + 1) : Nat)) : Int) = l + 1 := by rw [el]; unfold Su54.letter; omega
   rw [e1, e2] at this
   rw [this, decide_eq_true (by rw [en, el]; unfold Su54.number Su54.letter; unfold Su54.top at hrt; omega), Bool.true_and, Bool.eq_iff_iff, decide_eq_true_iff]
   exact ⟨fun z => ⟨c, z⟩, fun z => z.2⟩
 unfold Su54.Abs.between
 rw [hbe, hb]
 simp only [hr]
 rw [c1, c2]
 have e27 : (r / 27 + 1) * 27 = r / 27 * 27 + 27 := by omega
 rw [e27]
 by_cases k1 : a.fitsBehind h (r / 27 * 27 + 27) = true
 ·rw [if_pos k1, if_pos k1]
 ·rw [if_neg k1, if_neg k1]
  by_cases k2 : (r + 1) % 27 ≠ 0 /\ a.fitsBehind h (r + 1) = true
  ·rw [if_pos k2, if_pos (decide_eq_true k2)]
  ·rw [if_neg k2, if_neg (fun z => k2 (of_decide_eq_true z))]
section
variable {P : Program} {w : World} {K : Frag} {mg : Str -> Option Value} {base : Heap} {CT CS CH TB np : Addr}
theorem comp_plates {T ls lh p0 D F dx0 : Addr} {a : Su54.Abs} {b : Bool} {ss hs : List Addr} {H1 : Hp} (cl : Cl K CT CS CH) (R : TownR K CT CS CH H1 T a b ls lh ss hs) (cmp : Int -> Int -> Bool) {L : List Nat} (hL : ∀ j ∈ L, j < a.houses.length /\ (a.house j).gone = false) (h10 : L.length <= 10) (hD : H1 D = some (.lst (refs hs L)))
  {fs0 : List (Str × V)} {m0 : Int} (hp0 : H1 p0 = some (.ins CH dx0 fs0)) (hm0 : fs0.lookup ("metre" : Str) = some (.int m0)) {σ : L2.St} {e0 e1 e3 e4 e5 e6 : Option V} (hσ : σ = [e0, e1, some (.ref p0), e3, e4, e5, e6, none]) (hF : H1 F = none) {Qd : Hp -> Prop}
  (hd : ∀ ps, TupsAt K H1 ps ((L.filter fun j => cmp ((a.house j).at_ : Int) m0).map (plOf a)) -> Qd (upd H1 F (.lst (ps.map V.ref)))) :
  ∃ W : Nat -> Nat -> Hp -> Prop, (∃ m, W 0 m (upd H1 F (.lst []))) /\ ∀ i m H, W i m H ->
   ((Itl K D).stop i H /\ Qd H) ∨ ((Itl K D).go i H /\ ∃ Nx : Hp -> Prop, (∀ H', Nx H' -> ∃ m', m' < m /\ W (i + 1) m' H') /\ ∀ x H', (Itl K D).yld i H x H' -> gName 7 x (wipe σ [7]) H' fun σ2 H2 => wipe σ2 [7] = wipe σ [7] /\ tTest (tOp (rI0 fun i j => .bl (cmp i j)) (tFld K (tVar 7) "metre") (tFld K (tVar 2) "metre")) σ2 H2 fun b H3 =>
    if b = true then tFld K (tVar 7) "plate" σ2 H3 fun y H4 => ∃ acc, H4 F = some (.lst acc) /\ acc.length < sizeLine /\ Nx (upd H4 F (.lst (acc ++ [y]))) else Nx H3) := by
 subst hσ
 refine lc_list (xs := refs hs L) (fun i H' => ∃ ps, H' = upd H1 F (.lst (ps.map V.ref)) /\ TupsAt K H1 ps (((L.take i).filter fun j => cmp ((a.house j).at_ : Int) m0).map (plOf a))) ⟨[], rfl, .nil⟩ (fun i H' _ e => ?_) (fun i y H' hi e => ?_) fun H' e => ?_
 ·obtain ⟨ps, e, _⟩ := e
  rw [e]
  exact (Ext.upd hF).seqL (SqL.of hD)
 ·obtain ⟨ps, rfl, htu⟩ := e
  obtain ⟨j, hj, rfl⟩ := refs_get hi
  have mj := hL j (List.mem_of_getElem? hj)
  have hjl : j < hs.length := by rw [R.hl]; exact mj.1
  obtain ⟨pj, hpj⟩ : ∃ pj, hs[j]? = some pj := ⟨_, List.getElem?_eq_getElem hjl⟩
  rw [getD_at hpj]
  obtain ⟨y, ey, ey2, dy, ply, sty, sdy, aty, k1, k2⟩ := R.house hpj
  have gj := mj.2
  rw [ey2] at gj
  obtain ⟨f1, f2, f3, f4⟩ := k2 gj
  have XF := Ext.upd (o := .lst (ps.map V.ref)) hF
  have k1' := XF.1 _ _ k1 (fun _ z => by cases z)
  refine ⟨rfl, _, rfl, pj, CH, dy, _, _, rfl, k1', cl.h, cl.hn "metre" (by simp), rfl, _, rfl, p0, CH, dx0, fs0, _, rfl, XF.1 _ _ hp0 (fun _ z => by cases z), cl.h, cl.hn "metre" (by simp), hm0, _, _, rfl, rfl, _, rfl, ?_⟩
  have ec : cmp aty m0 = cmp ((a.house j).at_ : Int) m0 := by rw [ey2, f3]
  refine ite2 (fun c => ?_) fun c => ?_
  ·have c : cmp ((a.house j).at_ : Int) m0 = true := by rw [<- ec]; exact c
   refine ⟨_, rfl, pj, CH, dy, _, _, rfl, k1', cl.h, cl.hn "plate" (by simp), rfl, _, upd_same, ?_, ps ++ [ply], ?_, ?_⟩
   ·rw [List.length_map, TupsAt.len htu, List.length_map]
    have l1 := List.length_filter_le (fun j => cmp ((a.house j).at_ : Int) m0) (L.take i)
    rw [List.length_take] at l1
    exact small40 (by omega)
   ·rw [upd_upd, List.map_append]
    rfl
   ·rw [take_filter_snoc hj, if_pos c, List.map_append]
    refine TupsAt.snoc ?_ (by show 2 <= 8; decide) htu
    show SqT K H1 ply [.int (numOf (a.house j)), .int (letOf (a.house j))]
    rw [ey2]
    exact f4
  ·have c : ¬ cmp ((a.house j).at_ : Int) m0 = true := by rw [<- ec]; exact c
   exact ⟨ps, rfl, by rw [take_filter_snoc hj, if_neg c]; exact htu⟩
 ·obtain ⟨ps, rfl, htu⟩ := e
  rw [refs_len, List.take_length] at htu
  exact hd ps htu
def bodyB (K : Frag) : TS := tIfS (tAnd (tB (tCall spIsPlate [] E0 (tCons (tOp (rIxT K) (tVar 6) (tC (.int 0))) (tCons (tOp (rIxT K) (tVar 6) (tC (.int 1))) tNil)))) (tB (tCall (spFits K) [] E0 (tCons (tVar 6) (tCons (tVar 4) (tCons (tVar 5) tNil))))))
 (tSeq (sFld K (tVar 2) (tVar 6) "plate") (tRet (tLst (tCons (tC (.int 0)) (tCons (tOp (rIxT K) (tVar 6) (tC (.int 0))) (tCons (tOp (rIxT K) (tVar 6) (tC (.int 1))) tNil)))))) tNext
theorem betw_loop {T ls lh p dx D4 F F2 : Addr} {a : Su54.Abs} {ss hs : List Addr} {H H4 : Hp} {h : Nat} {x : Su54.House} {st sd at_ : Int} {pl : Addr} {Q : VK} {ps qs : List Addr} {ts : List (Addr × Int × Int)} {e0 e1 e3 e6 : Option V} {nx : L2.St -> Hp -> Prop} (cl : Cl K CT CS CH) (q : Want K CT CS CH TB T ls lh H a (.between h) Q) (X4 : Ext H H4) (R4 : TownR K CT CS CH H4 T a true ls lh ss hs) (lt4 : LT TB H4)
  (hp : hs[h]? = some p) (ex : a.houses[h]? = some x) (g : x.gone = false) (hpl : x.plate = 0) (h1 : H4 p = some (.ins CH dx (hf h st sd at_ pl (!x.gone)))) (e1' : st = x.street) (e2' : sd = x.side) (e3' : at_ = x.at_) (hI : a.isH h = true)
  (hF : H4 F = some (.lst (ps.map V.ref))) (htp : TupsAt K H4 ps ((bfL a h).map (plOf a))) (hF2 : H4 F2 = some (.lst (qs.map V.ref))) (htq : TupsAt K H4 qs ((bhL a h).map (plOf a)))
  (hD4 : H4 D4 = some (.lst (ts.map fun t => V.ref t.1))) (hts : ∀ t ∈ ts, SqT K H4 t.1 [.int t.2.1, .int t.2.2])
  (hsucc : ∀ (i : Nat) (t : Addr × Int × Int), ts[i]? = some t -> (∀ (j : Nat) (u : Addr × Int × Int), j < i -> ts[j]? = some u -> okC a h u.2.1 u.2.2 = false) -> okC a h t.2.1 t.2.2 = true -> ∃ r, a.between h = some r /\ ((Su54.number x.side r : Nat) : Int) = t.2.1 /\ ((Su54.letter r : Nat) : Int) = t.2.2)
  (hfail : (∀ t ∈ ts, okC a h t.2.1 t.2.2 = false) -> ∀ o6, nx [e0, e1, some (.ref p), e3, some (.ref F), some (.ref F2), o6, none] H4) :
  ∃ W : Nat -> Nat -> L2.St -> Hp -> Prop, (∃ m, W 0 m [e0, e1, some (.ref p), e3, some (.ref F), some (.ref F2), e6, none] H4) /\ ∀ i m σ H, W i m σ H ->
   ((Itl K D4).stop i H /\ nx σ H) ∨ ((Itl K D4).go i H /\ ∃ N : L2.St -> Hp -> Prop, (∀ σ' H', N σ' H' -> ∃ m', m' < m /\ W (i + 1) m' σ' H') /\ ∀ x H', (Itl K D4).yld i H x H' -> gName 6 x σ H' fun σ2 H2 => bodyB K { nx := N, rt := Q, bk := nx, ct := N } σ2 H2) := by
 refine for_list (D := { nx := nx, rt := Q }) (xs := ts.map fun t => V.ref t.1) (fun i σ H' => H' = H4 /\ (∃ o6, σ = [e0, e1, some (.ref p), e3, some (.ref F), some (.ref F2), o6, none]) /\ ∀ (j : Nat) (u : Addr × Int × Int), j < i -> ts[j]? = some u -> okC a h u.2.1 u.2.2 = false) ⟨rfl, ⟨_, rfl⟩, fun j u hj => absurd hj (Nat.not_lt_zero _)⟩ (fun i σ H' _ e => ?_) (fun i y σ H' hi e => ?_) fun σ H' e => ?_
 ·rw [e.1]
  exact SqL.of hD4
 ·obtain ⟨rfl, ⟨o6, rfl⟩, hprev⟩ := e
  rw [List.getElem?_map] at hi
  obtain ⟨t, ht, rfl⟩ := Option.map_eq_some_iff.mp hi
  have hT := hts t (List.mem_of_getElem? ht)
  have hnext : okC a h t.2.1 t.2.2 = false -> ∀ (j : Nat) (u : Addr × Int × Int), j < i + 1 -> ts[j]? = some u -> okC a h u.2.1 u.2.2 = false := fun z j u hj hu => by
   by_cases c : j = i
   ·rw [c, ht] at hu
    cases hu
    exact z
   ·exact hprev j u (by omega) hu
  refine ⟨_, rfl, t.1, _, _, _, rfl, rfl, hT, rfl, _, rfl, t.1, _, _, _, rfl, rfl, hT, rfl, t.2.1, t.2.2, rfl, _, rfl, ?_⟩
  refine ite2 (fun c => ?_) fun c => ?_
  ·refine ⟨_, rfl, _, rfl, _, rfl, t.1, F, F2, t.2.1, t.2.2, ps, qs, _, _, rfl, hT, SqL.of hF, htp, SqL.of hF2, htq, _, rfl, ?_⟩
   refine ite2 (fun c2 => ?_) fun c2 => ?_
   ·have hok : okC a h t.2.1 t.2.2 = true := by
     unfold okC
     rw [c, c2]
     rfl
    obtain ⟨r, hr, en, el⟩ := hsucc i t ht hprev hok
    refine ⟨_, rfl, _, rfl, p, CH, dx, _, rfl, h1, cl.h, cl.hn "plate" (by simp), sq6, ?_⟩
    rw [put_plate]
    have hT' := But.upd.seqT (H' := upd H' p (.ins CH dx (hf h st sd at_ t.1 (!x.gone)))) h1 hT
    refine ⟨_, rfl, t.1, _, _, _, rfl, rfl, hT', rfl, _, rfl, t.1, _, _, _, rfl, rfl, hT', rfl, sz3, fun D' hD' => ?_⟩
    have exa := house_of ex
    have eb : (a.set h fun x => { x with plate := r + 1 }).house h = { x with plate := r + 1 } := by
     unfold Su54.Abs.set
     refine house_of ?_
     show (a.houses.modify h _)[h]? = _
     rw [List.getElem?_modify, ex]
     show some (if h = h then _ else _) = _
     rw [if_pos rfl]
    have nn : numOf { x with plate := r + 1 } = t.2.1 := by
     unfold numOf
     rw [if_neg (by show ¬ r + 1 = 0; omega)]
     exact en
    have ll : letOf { x with plate := r + 1 } = t.2.2 := by
     unfold letOf
     rw [if_neg (by show ¬ r + 1 = 0; omega)]
     exact el
    have := q.wrote X4 R4 lt4 (f := fun x => { x with plate := r + 1 }) (v := 0) (out := Su54.told { x with plate := r + 1 }) hp h1 (by
     dsimp only [Su54.does]
     rw [if_neg (by rw [hI]; decide), if_neg (by rw [exa, hpl]; simp), hr]
     dsimp only
     rw [eb]
     rfl) (fun z hz => by
      rw [ex] at hz
      cases hz
      refine ⟨dx, t.1, st, sd, at_, upd_same, fun _ => ⟨e1', e2', e3', ?_⟩⟩
      rw [nn, ll]
      exact hT') D' hD'
    rw [outs_told, nn, ll] at this
    exact this
   ·refine ⟨rfl, ⟨_, rfl⟩, hnext ?_⟩
    unfold okC
    rw [c]
    rw [Bool.not_eq_true] at c2
    rw [c2]
    rfl
  ·refine iteF ⟨rfl, ⟨_, rfl⟩, hnext ?_⟩
   unfold okC
   rw [Bool.not_eq_true] at c
   rw [c]
   rfl
 ·obtain ⟨rfl, ⟨o6, rfl⟩, hprev⟩ := e
  rw [List.length_map] at hprev
  refine hfail (fun t ht => ?_) o6
  obtain ⟨j, hj, e⟩ := List.mem_iff_getElem.mp ht
  exact hprev j t hj (by rw [List.getElem?_eq_getElem hj, e])
abbrev sBetw : Stmt := top 60
abbrev cBetw : List Nat -> Su54.Call := fun l => .between (l.getD 0 0)
theorem scBetw : FnScope ["town", "h", "house", "plated", "before", "behind", "plate", "other"] ["town", "h"] (defScope sBetw) := scOf
theorem ok_betw (D : Def K mg "plate_between" sBetw ["town", "h"]) (cl : Cl K CT CS CH) (gn : NoP K mg np) (n1 : Num mg "NO_SUCH" (-2)) (n2 : Num mg "SO_ALREADY" (-17)) (n3 : Num mg "NONE_FOUND" (-33))
  (o1 : Ok P w K mg base 1 "find_house" ["town", "h"] (spFindH K CT CS CH)) (o2 : Ok P w K mg base 3 "plated_in_order" ["town", "s", "d"] (spPlat K CT CS CH TB)) (o3 : Ok P w K mg base 2 "plates_to_try" ["side", "before"] (spTry K)) (o4 : Ok P w K mg base 1 "is_plate" ["number", "letter"] spIsPlate) (o5 : Ok P w K mg base 1 "fits_ahead" ["plate", "before", "behind"] (spFits K)) :
  Ok P w K mg base 4 "plate_between" ["town", "h"] (spDo K CT CS CH TB 1 cBetw) := by
 refine D.ok scBetw spDo_len fun f cdv A outer s0 H vs Q E hr h => ?_
 ·obtain ⟨T, xs, a, ls, lh, ss, hs, rfl, hl, hx, R, G, lt, q⟩ := h
  obtain ⟨h, rfl⟩ := one_of hl
  have h0 := (hx h (by simp)).1
  have q : Want K CT CS CH TB T ls lh H a (.between h.toNat) Q := q
  have hu := hr.units
  have hr1 := hr.mono (show 1 <= 3 by decide)
  have hr2 := hr.mono (show 2 <= 3 by decide)
  refine ⟨_, pss_cons (ps_set (i := 2) scBetw.nd rfl (Or.inr rfl) (pe_ok o1 hr1 rfl (pa_cons (pv 0) (pa_cons (pv 1) pa_nil))))
   (pss_cons (ps_if (pt_cmp (pc_isN (pv 2))) (pss_one (ps_ret (pe_lst (pa_cons (pe_num n1 rfl) pa_nil)))) pss_nil)
   (pss_cons (ps_if (pt_cmpR (op_neT hu) (pe_fld (pv 2) rfl) (pe_glob (v := .ref np) rfl gn.1 rfl) rfl) (pss_one (ps_ret (pe_lst (pa_cons (pe_num n2 rfl) pa_nil)))) pss_nil)
   (pss_cons (ps_set (i := 3) scBetw.nd rfl (Or.inl rfl) (pe_ok o2 hr rfl (pa_cons (pv 0) (pa_cons (pe_fld (pv 2) rfl) (pa_cons (pe_fld (pv 2) rfl) pa_nil)))))
   (pss_cons (ps_setLc (i := 4) (own := [("other", 7)]) rfl scBetw.nd rfl rfl (sw_true rfl rfl rfl rfl) (pi_list (pv 3)) (blkOk_by rfl) (fun s H C cl fp => by exact pg_name (i := 7) scBetw.nd rfl (Or.inl rfl))
     (fun s H C cl fp => by exact pts_one (pt_cmpR op_lt (pe_fldK K rfl (pv 7) rfl) (pe_fldK K rfl (pv 2) rfl) rfl)) (fun s H C cl fp => by exact pe_fldK K rfl (pv 7) rfl))
   (pss_cons (ps_setLc (i := 5) (own := [("other", 7)]) rfl scBetw.nd rfl rfl (sw_true rfl rfl rfl rfl) (pi_list (pv 3)) (blkOk_by rfl) (fun s H C cl fp => by exact pg_name (i := 7) scBetw.nd rfl (Or.inl rfl))
     (fun s H C cl fp => by exact pts_one (pt_cmpR op_gt (pe_fldK K rfl (pv 7) rfl) (pe_fldK K rfl (pv 2) rfl) rfl)) (fun s H C cl fp => by exact pe_fldK K rfl (pv 7) rfl))
   (pss_cons (ps_for PassesOwn.never rfl (pi_list (pe_ok o3 hr2 rfl (pa_cons (pe_fld (pv 2) rfl) (pa_cons (pv 4) pa_nil)))) (pg_name (i := 6) scBetw.nd rfl (Or.inl rfl))
    (pss_one (ps_if (PW.pt (pw_and (pt_val (pe_ok o4 hr1 rfl (pa_cons (pe_ix ix_tup (pv 6) pe_int (fun _ _ => rfl)) (pa_cons (pe_ix ix_tup (pv 6) pe_int (fun _ _ => rfl)) pa_nil)))) (pw_and1 (pt_val (pe_ok o5 hr1 rfl (pa_cons (pv 6) (pa_cons (pv 4) (pa_cons (pv 5) pa_nil))))))))
     (pss_cons (ps_fld (pv 2) (pv 6) rfl) (pss_one (ps_ret (pe_lst (pa_cons pe_int (pa_cons (pe_ix ix_tup (pv 6) pe_int (fun _ _ => rfl)) (pa_cons (pe_ix ix_tup (pv 6) pe_int (fun _ _ => rfl)) pa_nil))))))) pss_nil)))
   (pss_one (ps_ret (pe_lst (pa_cons (pe_num n3 rfl) pa_nil)))))))))), ?_⟩
  refine ⟨_, rfl, _, rfl, T, h, a, true, ls, lh, ss, hs, rfl, h0, R, fun p x hp ex g hI => ?_, fun hI => ?_⟩
  ·obtain ⟨x', ex', ex2, dx, pl, st, sd, at_, h1, h2⟩ := R.house hp
   rw [ex] at ex'
   cases ex'
   obtain ⟨e1, e2, e3, e4⟩ := h2 g
   refine ⟨_, rfl, _, rfl, iteF ?_⟩
   refine ⟨_, rfl, p, CH, dx, _, _, rfl, h1, cl.h, cl.hn "plate" (by simp), rfl, pl, np, [numOf x, letOf x], [0, 0], rfl, rfl, e4, gn.2 _, sz8, sz8, _, rfl, ?_⟩
   have hc : (decide (([numOf x, letOf x] : List Int) = [0, 0])) = decide (x.plate = 0) := by
    rw [decide_eq_decide, <- numOf_zero x]
    simp
   refine ite2 (fun c => ?_) fun c => ?_
   ·have c : ¬ x.plate = 0 := by
     have c : (!decide (([numOf x, letOf x] : List Int) = [0, 0])) = true := c
     rw [hc] at c
     simpa using c
    refine ⟨sz1, fun D' hD' => q.no R (Ext.refl H) lt ?_ D' hD'⟩
    dsimp only [Su54.does]
    rw [if_neg (by rw [hI]; decide), if_pos (by rw [ex2]; exact c)]
   ·have c : x.plate = 0 := by
     have c : ¬ (!decide (([numOf x, letOf x] : List Int) = [0, 0])) = true := c
     rw [hc] at c
     simpa using c
    have hside := (G.ho _ x ex g).1
    refine ⟨_, rfl, _, rfl, p, CH, dx, _, _, rfl, h1, cl.h, cl.hn "street" (by simp), rfl, _, rfl, p, CH, dx, _, _, rfl, h1, cl.h, cl.hn "side" (by simp), rfl, T, st, sd, a, true, ls, lh, ss, hs, rfl, R, G, lt, by omega, by omega, fun H1 D1 X1 lt1 nD1 hD1 => ?_⟩
    have es : st.toNat = x.street := by omega
    have esd : sd.toNat = x.side := by omega
    rw [es, esd] at hD1
    have R1 := R.ext X1
    have h11 := X1.1 _ _ h1 (fun _ z => by cases z)
    have pl10 : (a.plated x.street x.side).length <= 10 := by rw [<- ranks_len]; exact ranks_le a G _ _
    have hLm : ∀ j ∈ a.plated x.street x.side, j < a.houses.length /\ (a.house j).gone = false := fun j hj => ⟨(plated_mem hj).1, (plated_mem hj).2.1⟩
    have ebf : ((a.plated x.street x.side).filter fun j => decide (((a.house j).at_ : Int) < at_)) = bfL a h.toNat := by
     unfold bfL
     rw [ex2]
     refine List.filter_congr fun j _ => ?_
     rw [decide_eq_decide, e3]
     omega
    have ebh : ((a.plated x.street x.side).filter fun j => decide (at_ < ((a.house j).at_ : Int))) = bhL a h.toNat := by
     unfold bhL
     rw [ex2]
     refine List.filter_congr fun j _ => ?_
     rw [decide_eq_decide, e3]
     omega
    refine ⟨_, rfl, D1, rfl, ⟨_, SqL.of hD1⟩, fun F hF => ?_⟩
    refine comp_plates cl R1 (fun i j => decide (i < j)) hLm pl10 hD1 h11 rfl rfl hF fun ps htp => ?_
    rw [ebf] at htp
    have X2 := X1.trans (Ext.upd (o := .lst (ps.map V.ref)) hF)
    have XF := Ext.upd (o := .lst (ps.map V.ref)) hF
    have hD2 := XF.1 _ _ hD1 (fun _ z => by cases z)
    have h12 := X2.1 _ _ h1 (fun _ z => by cases z)
    refine ⟨_, rfl, D1, rfl, ⟨_, SqL.of hD2⟩, fun F2 hF2 => ?_⟩
    refine comp_plates cl (R.ext X2) (fun i j => decide (j < i)) hLm pl10 hD2 h12 rfl rfl hF2 fun qs htq => ?_
    rw [ebh] at htq
    have XF2 := Ext.upd (o := .lst (qs.map V.ref)) hF2
    have X3 := X2.trans XF2
    have R3 := R.ext X3
    have hbf3 : (upd (upd H1 F (.lst (ps.map V.ref))) F2 (.lst (qs.map V.ref))) F = some (.lst (ps.map V.ref)) := XF2.1 _ _ upd_same (fun _ z => by cases z)
    have hbh3 : (upd (upd H1 F (.lst (ps.map V.ref))) F2 (.lst (qs.map V.ref))) F2 = some (.lst (qs.map V.ref)) := upd_same
    have htp3 := TupsAt.ext (XF.trans XF2) htp
    have htq3 := TupsAt.ext XF2 htq
    have h13 := X3.1 _ _ h1 (fun _ z => by cases z)
    have lt3 : LT TB (upd (upd H1 F (.lst (ps.map V.ref))) F2 (.lst (qs.map V.ref))) := (lt1.upd hF).upd hF2
    generalize hH3 : upd (upd H1 F (.lst (ps.map V.ref))) F2 (.lst (qs.map V.ref)) = H3 at X3 R3 hbf3 hbh3 htp3 htq3 h13 lt3 ⊢
    have exa := house_of ex
    have nofit : ∀ H4, Ext H H4 -> LT TB H4 -> a.between h.toNat = none -> ∀ D', H4 D' = none -> Q (.ref D') (upd H4 D' (.lst [.int (-33)])) := fun H4 X4 lt4 z D' hD' => q.no R X4 lt4 (by
     dsimp only [Su54.does]
     rw [if_neg (by rw [hI]; decide), if_neg (by rw [exa, c]; simp), z]) D' hD'
    refine ⟨_, rfl, p, CH, dx, _, _, rfl, h13, cl.h, cl.hn "side" (by simp), rfl, _, rfl, sd, F, ps, (bfL a h.toNat).map (plOf a), rfl, SqL.of hbf3, htp3, fun e0 t D4 ht hD4 => ?_, fun e0 => ?_⟩
    ·have hbn : bfL a h.toNat = [] := by simpa using e0
     have X4 := Ext.upd (o := .tup [.int (sd + 1), .int 0]) ht
     have X5 := X4.trans (Ext.upd (o := .lst [.ref t]) hD4)
     have hbt := betw_none G ex g c hbn
     refine ⟨D4, rfl, ⟨_, SqL.of upd_same⟩, betw_loop (ts := [(t, sd + 1, 0)]) (pl := pl) cl q (X3.trans X5) (R3.ext X5) ((lt3.upd ht).upd hD4) hp ex g c (X5.1 _ _ h13 (fun _ z => by cases z)) e1 e2 e3 hI (X5.1 _ _ hbf3 (fun _ z => by cases z)) (TupsAt.ext X5 htp3) (X5.1 _ _ hbh3 (fun _ z => by cases z)) (TupsAt.ext X5 htq3) upd_same (fun u hu => ?_) (fun i u hi hpv hok => ?_) (fun hno o6 => ?_)⟩
     ·rw [List.mem_singleton.mp hu]
      exact (Ext.upd hD4).seqT (.inl (.inl upd_same))
     ·match i, hi with
      | 0, hi =>
       have hi := Option.some.inj hi
       subst hi
       have hok : okC a h.toNat (sd + 1) 0 = true := hok
       rw [e2] at hok
       rw [if_pos hok] at hbt
       exact ⟨0, hbt, by show ((Su54.number x.side 0 : Nat) : Int) = sd + 1; rw [e2]; unfold Su54.number; omega, rfl⟩
      | i + 1, hi => cases hi
     ·have hno := hno (t, sd + 1, 0) (by simp)
      have hno : okC a h.toNat (sd + 1) 0 = false := hno
      rw [e2] at hno
      rw [if_neg (by rw [hno]; decide)] at hbt
      exact ⟨sz1, fun D' hD' => nofit _ (X3.trans X5) ((lt3.upd ht).upd hD4) hbt D' hD'⟩
    ·have hne : bfL a h.toNat ≠ [] := fun z => e0 (by rw [z]; rfl)
     obtain ⟨i0, hi0⟩ : ∃ i0, (bfL a h.toNat).getLast? = some i0 := ⟨_, List.getLast?_eq_some_getLast hne⟩
     refine ⟨numOf (a.house i0), letOf (a.house i0), by rw [List.getLast?_map, hi0]; rfl, fun t u D4 ht hu hD4 => ?_⟩
     have hbt := betw_some G ex g c hi0 rfl rfl
     have X4 := (Ext.upd (o := .tup [.int (numOf (a.house i0) + 2), .int 0]) ht).trans (Ext.upd (o := .tup [.int (numOf (a.house i0)), .int (letOf (a.house i0) + 1)]) hu)
     have X5 := X4.trans (Ext.upd (o := .lst [.ref t, .ref u]) hD4)
     have lt5 : LT TB (upd (upd (upd H3 t (.tup [.int (numOf (a.house i0) + 2), .int 0])) u (.tup [.int (numOf (a.house i0)), .int (letOf (a.house i0) + 1)])) D4 (.lst [.ref t, .ref u])) := ((lt3.upd ht).upd hu).upd hD4
     have mi : i0 ∈ a.plated x.street x.side := by
      have z := List.mem_of_getLast? hi0
      unfold bfL at z
      rw [exa] at z
      exact (List.mem_filter.mp z).1
     have pm := plated_mem mi
     refine ⟨D4, rfl, ⟨_, SqL.of upd_same⟩, betw_loop (ts := [(t, numOf (a.house i0) + 2, 0), (u, numOf (a.house i0), letOf (a.house i0) + 1)]) (pl := pl) cl q (X3.trans X5) (R3.ext X5) lt5 hp ex g c (X5.1 _ _ h13 (fun _ z => by cases z)) e1 e2 e3 hI (X5.1 _ _ hbf3 (fun _ z => by cases z)) (TupsAt.ext X5 htp3) (X5.1 _ _ hbh3 (fun _ z => by cases z)) (TupsAt.ext X5 htq3) upd_same (fun v hv => ?_) (fun i v hi hpv hok => ?_) (fun hno o6 => ?_)⟩
     ·rcases List.mem_cons.mp hv with rfl | hv
      ·exact ((Ext.upd hu).trans (Ext.upd hD4)).seqT (.inl (.inl upd_same))
      ·rw [List.mem_singleton.mp hv]
       exact (Ext.upd hD4).seqT (.inl (.inl upd_same))
     ·match i, hi with
      | 0, hi =>
       have hi := Option.some.inj hi
       subst hi
       have hok : okC a h.toNat (numOf (a.house i0) + 2) 0 = true := hok
       rw [if_pos hok] at hbt
       refine ⟨_, hbt, ?_, ?_⟩
       ·show _ = numOf (a.house i0) + 2
        unfold numOf Su54.number
        rw [if_neg pm.2.2.2.2, pm.2.2.2.1]
        omega
       ·show _ = (0 : Int)
        unfold Su54.letter
        omega
      | 1, hi =>
       have hi := Option.some.inj hi
       subst hi
       have hok : okC a h.toNat (numOf (a.house i0)) (letOf (a.house i0) + 1) = true := hok
       have h0' : okC a h.toNat (numOf (a.house i0) + 2) 0 = false := hpv 0 _ (by omega) rfl
       rw [if_neg (by rw [h0']; decide), if_pos hok] at hbt
       have hl26 : letOf (a.house i0) + 1 <= 26 := by
        unfold okC at hok
        rw [Bool.and_eq_true] at hok
        exact (of_decide_eq_true hok.1).2.2
       have hl26 : ((Su54.letter ((a.house i0).plate - 1) : Nat) : Int) + 1 <= 26 := by
        unfold letOf at hl26
        rw [if_neg pm.2.2.2.2] at hl26
        exact hl26
       refine ⟨_, hbt, ?_, ?_⟩
       ·show _ = numOf (a.house i0)
        unfold numOf Su54.number
        unfold Su54.letter at hl26
        rw [if_neg pm.2.2.2.2, pm.2.2.2.1]
        omega
       ·show _ = letOf (a.house i0) + 1
        unfold letOf
        rw [if_neg pm.2.2.2.2]
        unfold Su54.letter at hl26 ⊢
        omega
      | i + 2, hi => cases hi
     ·have n0 : okC a h.toNat (numOf (a.house i0) + 2) 0 = false := hno (t, numOf (a.house i0) + 2, 0) (by simp)
      have n1 : okC a h.toNat (numOf (a.house i0)) (letOf (a.house i0) + 1) = false := hno (u, numOf (a.house i0), letOf (a.house i0) + 1) (by simp)
      rw [if_neg (by rw [n0]; decide), if_neg (by rw [n1]; decide)] at hbt
      exact ⟨sz1, fun D' hD' => nofit _ (X3.trans X5) lt5 hbt D' hD'⟩
  ·refine ⟨_, rfl, _, rfl, iteT ?_⟩
   refine ⟨sz1, fun D' hD' => q.no R (Ext.refl H) lt ?_ D' hD'⟩
   dsimp only [Su54.does]
   rw [if_pos hI]
end
theorem op_ltTK {X : Cx} (K : Frag) (hK : X.K = K) (hu : X.A.units < cLine) : OpR X (compareOp .Lt) (rLtT K) := by subst hK; exact op_ltT hu
def wrongs (a : Su54.Abs) (s d : Nat) : List Nat := ((List.range ((a.plated s d).length - 1)).filter fun i => decide ((a.ranks s d).getD (i + 1) 0 <= (a.ranks s d).getD i 0)).map fun i => (a.plated s d).getD (i + 1) 0
theorem wrong_head (a : Su54.Abs) (s d : Nat) : a.wrong s d = (wrongs a s d).head? := by
 unfold Su54.Abs.wrong wrongs
 rw [List.head?_map, List.head?_filter]
def upW (a : Su54.Abs) (s d i : Nat) : List Nat := ((List.range i).filter fun i => decide ((a.ranks s d).getD (i + 1) 0 <= (a.ranks s d).getD i 0)).map fun i => (a.plated s d).getD (i + 1) 0
theorem upW_succ (a : Su54.Abs) (s d i : Nat) : upW a s d (i + 1) = if (a.ranks s d).getD (i + 1) 0 <= (a.ranks s d).getD i 0 then upW a s d i ++ [(a.plated s d).getD (i + 1) 0] else upW a s d i := by
 unfold upW
 rw [List.range_succ, List.filter_append, List.map_append, List.filter_cons]
 split
 ·rename_i c
  rw [if_pos (of_decide_eq_true c)]
  rfl
 ·rename_i c
  rw [if_neg (fun z => c (decide_eq_true z))]
  exact List.append_nil _
theorem upW_len (a : Su54.Abs) (s d i : Nat) : (upW a s d i).length <= i := by
 unfold upW
 rw [List.length_map]
 exact Nat.le_trans (List.length_filter_le _ _) (by rw [List.length_range]; exact Nat.le_refl _)
theorem cut_one (xs : List V) : cutV xs (some 1) none = xs.drop 1 := by
 unfold cutV
 have e : HT.sIx xs.length 0 (some 1) = min 1 xs.length := HT.sIx_nat xs.length 0 1
 rw [e, HT.sIx_none]
 cases xs with
 | nil => rfl
 | cons x l =>
  have : min 1 (x :: l).length = 1 := by rw [List.length_cons]; omega
  rw [this]
  exact List.take_of_length_le (by rw [List.length_drop]; exact Nat.le_refl _)
def spRise (K : Frag) (CT CS CH TB : Addr) : Sp := fun vs H Q _ => ∃ (T : Addr) (s d : Int) (a : Su54.Abs) (b : Bool) (ls lh : Addr) (ss hs : List Addr), vs = [.ref T, .int s, .int d] /\ TownR K CT CS CH H T a b ls lh ss hs /\ Good a /\ LT TB H /\ 0 <= s /\ 0 <= d /\
 ∀ (H' : Hp) (D : Addr), Ext H H' -> LT TB H' -> H D = none -> H' D = some (.lst (nats (wrongs a s.toNat d.toNat))) -> Q (.ref D) H'
section
variable {P : Program} {w : World} {K : Frag} {mg : Str -> Option Value} {base : Heap} {CT CS CH TB np : Addr}
abbrev sRise : Stmt := top 48
theorem scRise : FnScope ["town", "s", "d", "plated", "before", "house"] ["town", "s", "d"] (defScope sRise) := scOf
theorem ok_rise (D : Def K mg "houses_not_rising" sRise ["town", "s", "d"]) (cl : Cl K CT CS CH) (g1 : mg "zip" = none) (o1 : Ok P w K mg base 3 "plated_in_order" ["town", "s", "d"] (spPlat K CT CS CH TB)) : Ok P w K mg base 4 "houses_not_rising" ["town", "s", "d"] (spRise K CT CS CH TB) := by
 refine D.ok scRise (fun vs H Q E h => ?_) fun f cdv A outer s0 H vs Q E hr h => ?_
 ·obtain ⟨T, s, d, a, b, ls, lh, ss, hs, rfl, _⟩ := h; rfl
 ·obtain ⟨T, s, d, a, b, ls, lh, ss, hs, rfl, R, G, lt, h0s, h0d, q⟩ := h
  have hu : (A.deeper (envOfC "houses_not_rising" (defScope sRise) s0.heap.objs.size f cdv)).units < cLine := by have := hr.un; omega
  refine ⟨_, pss_cons (ps_set (i := 3) scRise.nd rfl (Or.inl rfl) (pe_ok o1 hr rfl (pa_cons (pv 0) (pa_cons (pv 1) (pa_cons (pv 2) pa_nil)))))
   (pss_one (ps_ret (pe_lc (own := [("before", 4), ("house", 5)]) rfl scRise.nd (pi_zip rfl g1 (pa_cons (pv 3) (pa_cons (pe_slice sl_list (pv 3) (po_some pe_int) po_none) pa_nil))) (blkOk_by rfl)
    (fun s H C cl fp => by exact pg_tupK K rfl 2 rfl (pgs_cons (pg_name (i := 4) scRise.nd rfl (Or.inl rfl)) (pgs_cons (pg_name (i := 5) scRise.nd rfl (Or.inl rfl)) pgs_nil)) rfl rfl)
    (fun s H C cl fp => by exact pts_one (pt_not (pt_cmpR (op_ltTK K rfl hu) (pe_fldK K rfl (pv 4) rfl) (pe_fldK K rfl (pv 5) rfl) rfl)))
    (fun s H C cl fp => by exact pe_fldK K rfl (pv 5) rfl)))), ?_⟩
  refine ⟨_, rfl, _, rfl, _, rfl, T, s, d, a, b, ls, lh, ss, hs, rfl, R, G, lt, h0s, h0d, fun H1 D1 X1 lt1 nD1 hD1 => ?_⟩
  have R1 := R.ext X1
  refine ⟨_, rfl, _, rfl, _, rfl, D1, _, rfl, SqL.of hD1, fun D2 hD2 => ?_⟩
  rw [cut_one]
  have X2 : Ext H1 (upd H1 D2 (.lst ((refs hs (a.plated s.toNat d.toNat)).drop 1))) := Ext.upd hD2
  have hD12 := X2.1 _ _ hD1 (fun _ z => by cases z)
  have R2 := R1.ext X2
  have lt2 : LT TB (upd H1 D2 (.lst ((refs hs (a.plated s.toNat d.toNat)).drop 1))) := lt1.upd hD2
  have hD22 : (upd H1 D2 (.lst ((refs hs (a.plated s.toNat d.toNat)).drop 1))) D2 = some (.lst ((refs hs (a.plated s.toNat d.toNat)).drop 1)) := upd_same
  have pl10 : (a.plated s.toNat d.toNat).length <= 10 := by rw [<- ranks_len]; exact ranks_le a G _ _
  refine ⟨D1, D2, _, _, rfl, SqL.of hD12, SqL.of hD22, fun F hF => ?_⟩
  generalize hH2 : upd H1 D2 (.lst ((refs hs (a.plated s.toNat d.toNat)).drop 1)) = H2 at *
  refine lc_by (n := (a.plated s.toNat d.toNat).length - 1) (fun i H' => Same H2 H' /\ H' F = some (.lst (nats (upW a s.toNat d.toNat i)))) ⟨Same.upd hF, upd_same⟩ (fun i H' hi e => ?_) (fun H' e => ?_) (fun i x H' H'' hi e y => ?_) fun H' e => ?_
  ·have l1 : i < (refs hs (a.plated s.toNat d.toNat)).length := by rw [refs_len]; omega
   have l2 : i < ((refs hs (a.plated s.toNat d.toNat)).drop 1).length := by rw [List.length_drop, refs_len]; omega
   exact ⟨_, _, _, _, e.1.seq (SqL.of hD12), e.1.seq (SqL.of hD22), List.getElem?_eq_getElem l1, List.getElem?_eq_getElem l2⟩
  ·exact ⟨_, _, e.1.seq (SqL.of hD12), e.1.seq (SqL.of hD22), .inr (by rw [List.length_drop, refs_len]; exact Nat.le_refl _)⟩
  ·obtain ⟨Tu, y1, y2, rfl, hTu, rfl, hy1, hy2⟩ := y
   obtain ⟨s2, hF2⟩ := e
   have at_pl : ∀ k, k < (a.plated s.toNat d.toNat).length -> ∃ j pj, (a.plated s.toNat d.toNat)[k]? = some j /\ hs[j]? = some pj /\ (refs hs (a.plated s.toNat d.toNat))[k]? = some (.ref pj) := fun k hk => by
    have ej : (a.plated s.toNat d.toNat)[k]? = some (a.plated s.toNat d.toNat)[k] := List.getElem?_eq_getElem hk
    have pm := plated_mem (List.mem_of_getElem? ej)
    have hjl : (a.plated s.toNat d.toNat)[k] < hs.length := by rw [R.hl]; exact pm.1
    refine ⟨_, _, ej, List.getElem?_eq_getElem hjl, ?_⟩
    unfold refs
    rw [List.getElem?_map, List.getElem?_map, ej]
    show some (V.ref (hs.getD _ 0)) = _
    rw [getD_at (List.getElem?_eq_getElem hjl)]
   obtain ⟨j1, p1, ej1, hp1, er1⟩ := at_pl i (by omega)
   obtain ⟨j2, p2, ej2, hp2, er2⟩ := at_pl (i + 1) (by omega)
   have e1 : y1 = .ref p1 := by
    have := hy1 _ (s2.seq (SqL.of hD12))
    rw [er1] at this
    exact (Option.some.inj this).symm
   have e2 : y2 = .ref p2 := by
    have := hy2 _ (s2.seq (SqL.of hD22))
    rw [List.getElem?_drop, Nat.add_comm 1 i, er2] at this
    exact (Option.some.inj this).symm
   subst e1 e2
   have s3 : Same H2 (upd H' Tu (.tup [.ref p1, .ref p2])) := s2.trans (Same.upd hTu)
   have hF3 : (upd H' Tu (.tup [.ref p1, .ref p2])) F = some (.lst (nats (upW a s.toNat d.toNat i))) := by rw [upd_ne (ne_of_none hF2 hTu)]; exact hF2
   have R3 := R2.ext (Ext.same s3)
   obtain ⟨x1, ex1, ex12, d1, pl1, st1, sd1, at1, k1, k12⟩ := R3.house hp1
   obtain ⟨x2, ex2, ex22, d2, pl2, st2, sd2, at2, k2, k22⟩ := R3.house hp2
   have pm1 := plated_mem (List.mem_of_getElem? ej1)
   have pm2 := plated_mem (List.mem_of_getElem? ej2)
   rw [ex12] at pm1
   rw [ex22] at pm2
   obtain ⟨f1, f2, f3, f4⟩ := k12 pm1.2.1
   obtain ⟨g1', g2', g3', g4'⟩ := k22 pm2.2.1
   have er : (a.ranks s.toNat d.toNat).getD i 0 = x1.plate - 1 := by
    unfold Su54.Abs.ranks
    refine getD_at ?_
    rw [List.getElem?_map, ej1]
    show some ((a.house j1).plate - 1) = _
    rw [ex12]
   have er' : (a.ranks s.toNat d.toNat).getD (i + 1) 0 = x2.plate - 1 := by
    unfold Su54.Abs.ranks
    refine getD_at ?_
    rw [List.getElem?_map, ej2]
    show some ((a.house j2).plate - 1) = _
    rw [ex22]
   have lx : HT.lexLt [numOf x1, letOf x1] [numOf x2, letOf x2] = decide (x1.plate - 1 < x2.plate - 1) := by
    unfold numOf letOf
    rw [if_neg pm1.2.2.2.2, if_neg pm1.2.2.2.2, if_neg pm2.2.2.2.2, if_neg pm2.2.2.2.2, pm1.2.2.2.1, pm2.2.2.2.1]
    exact lex_rank
   refine ⟨Tu, _, rfl, .inl (.inl upd_same), rfl, _, _, rfl, _, _, rfl, rfl, rfl, ?_⟩
   refine ⟨_, rfl, p1, CH, d1, _, _, rfl, k1, cl.h, cl.hn "plate" (by simp), rfl, _, rfl, p2, CH, d2, _, _, rfl, k2, cl.h, cl.hn "plate" (by simp), rfl, pl1, pl2, [numOf x1, letOf x1], [numOf x2, letOf x2], rfl, rfl, f4, g4', _, rfl, ?_⟩
   have keepF : ∀ o, Same H2 (upd (upd H' Tu (.tup [.ref p1, .ref p2])) F o) := fun o b u e => by
    rw [upd_ne (ne_of_none e hF)]
    exact s3 b u e
   rw [lx]
   refine ite2 (fun c => ?_) fun c => ?_
   ·have c : (a.ranks s.toNat d.toNat).getD (i + 1) 0 <= (a.ranks s.toNat d.toNat).getD i 0 := by
     rw [er, er']
     have c : (!decide (x1.plate - 1 < x2.plate - 1)) = true := c
     rw [Bool.not_eq_true'] at c
     have := of_decide_eq_false c
     omega
    refine ⟨_, rfl, p2, CH, d2, _, _, rfl, k2, cl.h, cl.hn "serial" (by simp), rfl, _, hF3, ?_, keepF _, ?_⟩
    ·rw [nats_len]
     have := upW_len a s.toNat d.toNat i
     exact small40 (by omega)
    ·rw [upd_same, upW_succ, if_pos c, nats_snoc, getD_at ej2]
   ·have c : ¬ (a.ranks s.toNat d.toNat).getD (i + 1) 0 <= (a.ranks s.toNat d.toNat).getD i 0 := by
     rw [er, er']
     have c : ¬ (!decide (x1.plate - 1 < x2.plate - 1)) = true := c
     rw [Bool.not_eq_true', Bool.not_eq_false] at c
     have := of_decide_eq_true c
     omega
    exact ⟨s3, by rw [upW_succ, if_neg c]; exact hF3⟩
  ·obtain ⟨s2, hF2⟩ := e
   exact q H' F ((X1.trans X2).trans (Ext.same s2)) (lt2.same s2) ((X1.trans X2).2 F hF) hF2
abbrev sRight : Stmt := top 47
abbrev cRight : List Nat -> Su54.Call := fun l => .right (l.getD 0 0)
theorem scRight : FnScope ["town", "s", "wrong"] ["town", "s"] (defScope sRight) := scOf
theorem ok_right (D : Def K mg "check_right" sRight ["town", "s"]) (g1 : mg "len" = none) (n1 : Num mg "NO_SUCH" (-2)) (o1 : Ok P w K mg base 1 "find_street" ["town", "s"] (spFindS K CT CS CH)) (o2 : Ok P w K mg base 4 "houses_not_rising" ["town", "s", "d"] (spRise K CT CS CH TB)) : Ok P w K mg base 5 "check_right" ["town", "s"] (spDo K CT CS CH TB 1 cRight) := by
 refine D.ok scRight spDo_len fun f cdv A outer s0 H vs Q E hr h => ?_
 ·obtain ⟨T, xs, a, ls, lh, ss, hs, rfl, hl, hx, R, G, lt, q⟩ := h
  obtain ⟨s, rfl⟩ := one_of hl
  have hs0 := (hx s (by simp)).1
  have q : Want K CT CS CH TB T ls lh H a (.right s.toNat) Q := q
  have hr1 := hr.mono (show 1 <= 4 by decide)
  refine ⟨_, pss_cons (ps_if (pt_cmp (pc_isN (pe_ok o1 hr1 rfl (pa_cons (pv 0) (pa_cons (pv 1) pa_nil))))) (pss_one (ps_ret (pe_lst (pa_cons (pe_num n1 rfl) pa_nil)))) pss_nil)
   (pss_cons (ps_set (i := 2) scRight.nd rfl (Or.inl rfl) (pe_op op_cat (pe_ok o2 hr rfl (pa_cons (pv 0) (pa_cons (pv 1) (pa_cons pe_int pa_nil)))) (pe_ok o2 hr rfl (pa_cons (pv 0) (pa_cons (pv 1) (pa_cons pe_int pa_nil))))))
   (pss_cons (ps_if (pt_cmpR op_eq (pe_callB call_len rfl g1 PySem.boot_len (pa_cons (pv 2) pa_nil)) pe_int rfl) (pss_one (ps_ret (pe_lst (pa_cons pe_int pa_nil)))) pss_nil)
   (pss_one (ps_ret (pe_lst (pa_cons pe_int (pa_cons (pe_ix ix_list (pv 2) pe_int (fun _ _ => rfl)) pa_nil))))))), ?_⟩
  refine ⟨_, rfl, _, rfl, T, s, a, true, ls, lh, ss, hs, rfl, hs0, R, G, fun p x hp ex hI => ⟨_, rfl, iteF ?_⟩, fun hI => ⟨_, rfl, iteT ?_⟩⟩
  ·refine ⟨_, rfl, _, rfl, T, s, 0, a, true, ls, lh, ss, hs, rfl, R, G, lt, hs0, (by decide), fun H1 D1 X1 lt1 n1' hD1 => ?_⟩
   refine ⟨_, rfl, _, rfl, T, s, 1, a, true, ls, lh, ss, hs, rfl, R.ext X1, G, lt1, hs0, (by decide), fun H2 D2 X2 lt2 n2' hD2 => ?_⟩
   have hD12 := X2.1 _ _ hD1 (fun _ z => by cases z)
   have wl : ∀ d, (wrongs a s.toNat d).length <= 10 := fun d => by
    have e : wrongs a s.toNat d = upW a s.toNat d ((a.plated s.toNat d).length - 1) := rfl
    rw [e]
    have l1 := upW_len a s.toNat d ((a.plated s.toNat d).length - 1)
    have l2 : (a.plated s.toNat d).length <= 10 := by rw [<- ranks_len]; exact ranks_le a G _ _
    omega
   refine ⟨D1, D2, _, _, rfl, rfl, hD12, hD2, ?_, fun D3 hD3 => ?_⟩
   ·rw [nats_len, nats_len]
    have a1 := wl (0 : Int).toNat
    have a2 := wl (1 : Int).toNat
    exact Nat.le_of_lt (small40 (by omega))
   have hw : nats (wrongs a s.toNat (0 : Int).toNat) ++ nats (wrongs a s.toNat (1 : Int).toNat) = nats (wrongs a s.toNat 0 ++ wrongs a s.toNat 1) := by
    unfold nats
    rw [List.map_append]
    rfl
   rw [hw]
   have X3 := (X1.trans X2).trans (Ext.upd (o := .lst (nats (wrongs a s.toNat 0 ++ wrongs a s.toNat 1))) hD3)
   have lt3 : LT TB (upd H2 D3 (.lst (nats (wrongs a s.toNat 0 ++ wrongs a s.toNat 1)))) := lt2.upd hD3
   have w0 := wrong_head a s.toNat 0
   have w1 := wrong_head a s.toNat 1
   have hd3 : (upd H2 D3 (.lst (nats (wrongs a s.toNat 0 ++ wrongs a s.toNat 1)))) D3 = some (.lst (nats (wrongs a s.toNat 0 ++ wrongs a s.toNat 1))) := upd_same
   generalize hwl : wrongs a s.toNat 0 ++ wrongs a s.toNat 1 = wl' at X3 lt3 hd3 ⊢
   refine ⟨_, rfl, _, wl'.length, rfl, .inl ⟨_, SqL.of hd3, by rw [nats_len]⟩, rfl, _, rfl, ?_⟩
   refine ite2 (fun c => ?_) fun c => ?_
   ·rw [dec_V] at c
    have c : ((wl'.length : Nat) : Int) = 0 := of_decide_eq_true c
    have e : wl' = [] := List.length_eq_zero_iff.mp (by omega)
    rw [e] at hwl
    obtain ⟨e0, e1⟩ := List.append_eq_nil_iff.mp hwl
    rw [e0] at w0
    rw [e1] at w1
    refine ⟨sz1, fun D' hD' => ?_⟩
    exact q.keep R X3 lt3 (v := 1) (out := []) (by
     dsimp only [Su54.does]
     rw [if_neg (by rw [hI]; decide), w0, w1]
     rfl) D' hD'
   ·cases wl' with
    | nil => exact absurd (by rw [dec_V]; rfl) c
    | cons j l =>
     refine ⟨_, rfl, D3, _, _, _, rfl, rfl, SqL.of hd3, atI_nat (j := 0) (v := .int (j : Nat)) rfl, sz2, fun D' hD' => ?_⟩
     exact q.keep R X3 lt3 (v := 0) (out := [j]) (by
      dsimp only [Su54.does]
      rw [if_neg (by rw [hI]; decide), w0]
      cases e0 : wrongs a s.toNat 0 with
      | nil =>
       rw [e0, List.nil_append] at hwl
       rw [w1, hwl]
       rfl
      | cons k l' =>
       rw [e0] at hwl
       have hk := (List.cons.inj hwl).1
       rw [<- hk]
       rfl) D' hD'
  ·refine ⟨sz1, fun D' hD' => q.no R (Ext.refl H) lt ?_ D' hD'⟩
   dsimp only [Su54.does]
   rw [if_pos hI]
end
def absO (st : St) : Su54.Abs := st.getD ⟨[], []⟩
def FzL (K : Frag) (H : Hp) (a : Addr) (xs : List V) : Prop := (∃ o, H a = some (.frz o (.lst xs))) ∨ ∃ (o : Obj) (its : Array Value) (n : Nat), K.lookup a = some o /\ o.cls = .type "list" /\ o.dict = none /\ o.data = .seq its n /\ its.size <= sizeLine /\ Vals xs its.toList
theorem FzL.seq {K : Frag} {H : Hp} {a : Addr} {xs : List V} (h : FzL K H a xs) : SqL K H a xs := h.elim (fun z => .inl (.inr z)) .inr
theorem FzL.kp {K : Frag} {H H' : Hp} {a ls lh : Addr} {xs : List V} (h : FzL K H a xs) (k : Kp ls lh H H') : FzL K H' a xs := h.elim (fun ⟨o, z⟩ => .inl ⟨o, k.frz _ _ _ z⟩) .inr
theorem FzL.ext {K : Frag} {H H' : Hp} {a : Addr} {xs : List V} (h : FzL K H a xs) (e : Ext H H') : FzL K H' a xs := h.elim (fun ⟨o, z⟩ => .inl ⟨o, e.1 _ _ z (fun _ w => by cases w)⟩) .inr
def spAC (K : Frag) (CT CS CH TB : Addr) : Sp := fun vs H Q _ => ∃ (T : Addr) (c : Int) (g : Addr) (xs : List Int) (st : St) (ls lh : Addr) (ss hs : List Addr), vs = [.ref T, .int c, .ref g] /\ H g = some (.lst (xs.map V.int)) /\ g ≠ ls /\ g ≠ lh /\ PySu54.shape c = some (xs.length, 0) /\ (∀ x ∈ xs, 0 <= x /\ x <= 4294967295) /\ TownR K CT CS CH H T (absO st) st.isSome ls lh ss hs /\ Good (absO st) /\ LT TB H /\
 ∀ (H' : Hp) (D : Addr) (ls' lh' : Addr) (ss' hs' : List Addr), TownR K CT CS CH H' T (absO (Su54Neutral.step st (c :: xs)).1) (Su54Neutral.step st (c :: xs)).1.isSome ls' lh' ss' hs' -> Good (absO (Su54Neutral.step st (c :: xs)).1) -> LT TB H' -> Kp ls lh H H' -> (ls' = ls ∨ H ls' = none) -> (lh' = lh ∨ H lh' = none) -> H D = none -> D ≠ ls' -> D ≠ lh' ->
  H' D = some (.lst ((Su54Neutral.step st (c :: xs)).2.map V.int)) -> Q (.ref D) H'
def spInitT (CT : Addr) : Sp := fun vs H Q _ => ∃ (p dx : Addr), vs = [.ref p] /\ H p = some (.ins CT dx []) /\ ∀ (H' : Hp) (l1 l2 : Addr), H' p = some (.ins CT dx (tf false l1 l2)) -> H' l1 = some (.lst []) -> H' l2 = some (.lst []) -> H l1 = none -> H l2 = none -> l1 ≠ l2 -> But p H H' -> (∀ b, b ≠ p -> H' b = none -> H b = none) -> Q .non H'
def spAns (K : Frag) (TB : Addr) : Sp := fun vs H Q _ => ∃ (a : Addr) (ns : List Int), vs = [.ref a] /\ FzL K H a (ns.map V.int) /\ LT TB H /\ PySu54.answers_asked ns = true /\ (∀ n ∈ ns, 0 <= n /\ n <= 4294967295) /\ ns.length <= 2000 /\ ∀ (H' : Hp) (p : Addr), H' p = some (.lst ((PySu54.answers ns).map V.int)) -> Q (.ref p) H'
def placeOf (σ : L2.St) : Nat := match σ[3]? with
 | some (some (V.int z)) => z.toNat
 | _ => 0
def argNs : List Int := [0, 2, 2, 3, 1, 3, 1, 1, 1, 2, 1, 2, 2, 3, 1, 1, 2, 2, 2, 3, 1, 2, 0, 1, 1, 0]
theorem argN_get {c : Int} {n : Nat} (h : PySu54.shape c = some (n, 0)) : argNs[c.toNat]? = some (n : Int) := by
 rcases shape_in h with rfl | rfl | rfl | rfl | rfl | rfl | rfl | rfl | rfl | rfl | rfl | rfl | rfl | rfl | rfl | rfl | rfl | rfl | rfl | rfl | rfl | rfl | rfl | rfl | rfl | rfl <;> (cases h; rfl)
theorem cut_mid (ns : List Int) (p n : Nat) (h : p + n <= ns.length) : cutV (ns.map V.int) (some (p : Int)) (some ((p + n : Nat) : Int)) = ((ns.drop p).take n).map V.int := by
 unfold cutV
 rw [HT.sIx_nat, HT.sIx_nat, List.length_map, Nat.min_eq_left (by omega), Nat.min_eq_left (by omega), Nat.add_sub_cancel_left, List.map_take, List.map_drop]
section
variable {P : Program} {w : World} {K : Frag} {mg : Str -> Option Value} {base : Heap} {CT CS CH TB np : Addr}
abbrev sInitT : Stmt := inClass (top 21) 0
theorem scInitT : FnScope ["self"] ["self"] (defScope sInitT) := scOf
theorem ok_initT {f : Addr} {fd : FuncData} (F : Fun K "__init__" "Town.__init__" sInitT f fd) (cl : Cl K CT CS CH) : FnOk P w K mg base CX0 1 f fd ["self"] (spInitT CT) := by
 refine F.ok scInitT (fun vs H Q E h => ?_) (fun cdv A outer s H vs Q E hr h => ?_)
 ·obtain ⟨p, dx, rfl, _⟩ := h
  rfl
 ·obtain ⟨p, dx, rfl, hp, k⟩ := h
  refine ⟨_, pss_cons (ps_fld (pv 0) pe_bl rfl) (pss_cons (ps_fld (pv 0) (pe_lst pa_nil) rfl) (pss_one (ps_fld (pv 0) (pe_lst pa_nil) rfl))), ?_⟩
  refine ⟨_, rfl, p, CT, dx, [], rfl, hp, cl.t, cl.tn "begun" (by simp), (by show 0 < 1000; decide), ?_⟩
  refine ⟨Nat.zero_le _, fun l1 h1 => ?_⟩
  have n1 : l1 ≠ p := fun z => by rw [z, upd_same] at h1; cases h1
  refine ⟨_, rfl, p, CT, dx, _, rfl, (by rw [upd_ne (fun z => n1 z.symm)]; exact upd_same), cl.t, cl.tn "streets" (by simp), (by show 1 < 1000; decide), ?_⟩
  refine ⟨Nat.zero_le _, fun l2 h2 => ?_⟩
  have n2 : l2 ≠ p := fun z => by rw [z, upd_same] at h2; cases h2
  have n12 : l1 ≠ l2 := fun z => by
   rw [<- z, upd_ne n1, upd_same] at h2
   cases h2
  refine ⟨_, rfl, p, CT, dx, _, rfl, (by rw [upd_ne (fun z => n2 z.symm)]; exact upd_same), cl.t, cl.tn "houses" (by simp), (by show 2 < 1000; decide), ?_⟩
  have f1 : H l1 = none := by rw [upd_ne n1] at h1; exact h1
  have f2 : H l2 = none := by rw [upd_ne n2, upd_ne (fun z => n12 z.symm), upd_ne n2] at h2; exact h2
  refine k _ l1 l2 upd_same ?_ ?_ f1 f2 n12 (fun b u e hb => ?_) (fun b hb e => ?_)
  ·rw [upd_ne n1, upd_ne n12, upd_ne n1]; exact upd_same
  ·rw [upd_ne n2]; exact upd_same
  ·rw [upd_ne hb, upd_ne (ne_of_none e f2), upd_ne hb, upd_ne (ne_of_none e f1), upd_ne hb]; exact e
  ·rw [upd_ne hb] at e
   by_cases z2 : b = l2
   ·rw [z2, upd_same] at e; cases e
   ·rw [upd_ne z2, upd_ne hb] at e
    by_cases z1 : b = l1
    ·rw [z1, upd_same] at e; cases e
    ·rw [upd_ne z1, upd_ne hb] at e; exact e
abbrev sAns : Stmt := top 85
theorem scAns : FnScope ["calls", "town", "told", "place", "behind", "answer"] ["calls"] (defScope sAns) := scOf
theorem ok_ans {f : Addr} {fd : FuncData} {fI : Addr} {fdI : FuncData} {ac : Addr} (F : Fun K "answers" "answers" sAns f fd) (cl : Cl K CT CS CH) (M : Mk K CT fI) (FI : FnOk P w K mg base CX0 1 fI fdI ["self"] (spInitT CT)) (bI : Binds K fdI ["self"] []) (gT : mg "Town" = some (.ref CT)) (g1 : mg "len" = none) (gA : mg "ARGUMENT_COUNTS" = some (.ref ac)) (hA : ∀ H : Hp, SqT K H ac (argNs.map V.int))
  (o1 : Ok P w K mg base 8 "answer_call" ["town", "call", "given"] (spAC K CT CS CH TB)) : FnOk P w K mg base CX0 9 f fd ["calls"] (spAns K TB) := by
 refine F.ok scAns (fun vs H Q E h => ?_) fun cdv A outer s0 H vs Q E hr h => ?_
 ·obtain ⟨a, ns, rfl, _⟩ := h; rfl
 ·obtain ⟨a, ns, rfl, hv, lt, hask, hin, h2000, q⟩ := h
  have hr2 := hr.mono (show 2 <= 8 by decide)
  refine ⟨_, pss_cons (ps_set (i := 1) scAns.nd rfl (Or.inl rfl) (pe_make0 M FI hr2 rfl gT bI .nil pass0))
   (pss_cons (ps_set (i := 2) scAns.nd rfl (Or.inl rfl) (pe_lst pa_nil))
   (pss_cons (ps_set (i := 3) scAns.nd rfl (Or.inl rfl) pe_int)
   (pss_cons (ps_while PassesOwn.never (pt_cmpR op_lt (pv 3) (pe_callB call_len rfl g1 PySem.boot_len (pa_cons (pv 0) pa_nil)) rfl)
    (pss_cons (ps_set (i := 4) scAns.nd rfl (Or.inl rfl) (pe_op op_add (pe_op op_add (pv 3) pe_int) (pe_ix ix_tup (pe_glob (v := .ref ac) rfl gA rfl) (pe_ix ix_list (pv 0) (pv 3) (fun _ _ => rfl)) (fun _ _ => rfl))))
    (pss_cons (ps_set (i := 5) scAns.nd rfl (Or.inl rfl) (pe_ok o1 hr rfl (pa_cons (pv 1) (pa_cons (pe_ix ix_list (pv 0) (pv 3) (fun _ _ => rfl)) (pa_cons (pe_slice sl_list (pv 0) (po_some (pe_op op_add (pv 3) pe_int)) (po_some (pv 4))) pa_nil)))))
    (pss_cons (ps_expr (pe_bm PySem.F.plainAttrs_list PySem.F.slot_list_append PySem.F.type_list_append mt_append (pv 2) (pa_cons (pe_callB call_len rfl g1 PySem.boot_len (pa_cons (pv 5) pa_nil)) pa_nil)))
    (pss_cons (ps_expr (pe_bm PySem.F.plainAttrs_list PySem.F.slot_list_extend PySem.F.type_list_extend mt_extend (pv 2) (pa_cons (pv 5) pa_nil)))
    (pss_one (ps_set (i := 3) scAns.nd rfl (Or.inl rfl) (pv 4))))))))
   (pss_one (ps_ret (pv 2)))))), ?_⟩
  intro T dT nT ndT neT
  refine ⟨T, dT, rfl, upd_same, fun H1 l1 l2 hT1 hl1 hl2 f1 f2 n12 B1 dm1 => ⟨rfl, ?_⟩⟩
  have X1 : Ext H H1 := by
   refine ⟨fun b u e _ => B1 b u (by rw [upd_ne (ne_of_none e nT), upd_ne (ne_of_none e ndT)]; exact e) (ne_of_none e nT), fun b e => ?_⟩
   by_cases z : b = T
   ·rw [z]; exact nT
   ·have := dm1 b z e
    rw [upd_ne z] at this
    by_cases z2 : b = dT
    ·rw [z2]; exact ndT
    ·rw [upd_ne z2] at this; exact this
  have lt1 : LT TB H1 := by
   have k : ∀ b u, H b = some u -> H1 b = some u := fun b u e => B1 b u (by rw [upd_ne (ne_of_none e nT), upd_ne (ne_of_none e ndT)]; exact e) (ne_of_none e nT)
   exact lt.same k
  have R1 : TownR K CT CS CH H1 T (absO none) (none : St).isSome l1 l2 [] [] := ⟨⟨dT, hT1⟩, hl1, hl2, List.nodup_nil, List.nodup_nil, rfl, rfl, fun i p x h => by simp at h, fun i p x h => by simp at h, n12⟩
  refine ⟨Nat.zero_le _, fun L hL => ?_⟩
  have XL : Ext H1 (upd H1 L (.lst [])) := Ext.upd hL
  obtain ⟨cs0, rest0⟩ := rest_start hask
  have short := rest_short hask
  refine while_by (fun σ H' => ∃ (p : Nat) (out : List Int) (st : St) (cs : List (List (List Int))) (ls lh : Addr) (ss hs : List Addr) (o4 o5 : Option V), σ = [some (.ref a), some (.ref T), some (.ref L), some (.int p), o4, o5] /\ p <= ns.length /\ Rest ns p out st cs /\ TownR K CT CS CH H' T (absO st) st.isSome ls lh ss hs /\ Good (absO st) /\ LT TB H' /\ FzL K H' a (ns.map V.int) /\ H' L = some (.lst (out.map V.int)) /\ L ≠ ls /\ L ≠ lh)
   (fun σ _ => ns.length - placeOf σ)
   ⟨0, [], none, cs0, l1, l2, [], [], none, none, rfl, Nat.zero_le _, rest0, R1.ext XL, good_nil, lt1.upd hL, (hv.ext X1).ext XL, upd_same, (fun z => by rw [z, hl1] at hL; cases hL), (fun z => by rw [z, hl2] at hL; cases hL)⟩ ?_ ?_
  ·rintro σ H' ⟨p, out, st, cs, ls, lh, ss, hs, o4, o5, rfl, hpl, rst, R, G, ltH, hvH, hLH, nls, nlh⟩
   refine ⟨_, rfl, _, rfl, _, ns.length, rfl, lenI hvH.seq, _, _, rfl, rfl, _, rfl, ?_⟩
   refine ite2 (fun c => ?_) fun c => ?_
   ·have c : (p : Int) < (ns.length : Nat) := of_decide_eq_true c
    have hp : p < ns.length := by omega
    obtain ⟨x, hx⟩ : ∃ x, ns[p]? = some x := ⟨_, List.getElem?_eq_getElem hp⟩
    obtain ⟨n, args, cs', hsh, hle, eargs, hal, hask1, rst'⟩ := rest_step rst hx
    have hxV : (ns.map V.int)[p]? = some (.int x) := by rw [List.getElem?_map, hx]; rfl
    have hx0 := hin x (List.mem_of_getElem? hx)
    have haV : atI (argNs.map V.int) x = some (.int (n : Nat)) := at_of (j := x.toNat) (by omega) (by rw [List.getElem?_map, argN_get hsh]; rfl)
    refine ⟨_, rfl, _, _, rfl, rfl, _, rfl, _, rfl, a, _, _, _, rfl, rfl, hvH.seq, atI_nat hxV, ac, _, _, _, rfl, rfl, hA _, haV, _, _, rfl, rfl, ?_⟩
    refine ⟨_, rfl, _, rfl, _, rfl, a, _, _, _, rfl, rfl, hvH.seq, atI_nat hxV, _, rfl, _, rfl, _, _, rfl, rfl, _, rfl, _, rfl, _, rfl, a, _, rfl, hvH.seq, fun g hg => ?_⟩
    have e1 : (p : Int) + 1 = ((p + 1 : Nat) : Int) := by omega
    have e2 : (p : Int) + 1 + (n : Nat) = ((p + 1 + n : Nat) : Int) := by omega
    have ecut : cutV (ns.map V.int) (some ((p : Int) + 1)) (some ((p : Int) + 1 + (n : Nat))) = args.map V.int := by rw [e2, e1, cut_mid ns (p + 1) n hle, eargs]
    rw [ecut]
    have Xg : Ext H' (upd H' g (.lst (args.map V.int))) := Ext.upd hg
    have gls : g ≠ ls := fun z => by rw [z, R.ls] at hg; cases hg
    have glh : g ≠ lh := fun z => by rw [z, R.lh] at hg; cases hg
    have hLg := Xg.1 _ _ hLH (fun _ z => by cases z)
    refine ⟨T, x, g, args, st, ls, lh, ss, hs, rfl, upd_same, gls, glh, by rw [hal]; exact hsh, fun y hy => ?_, R.ext Xg, G, ltH.upd hg, fun H2 D2 ls2 lh2 ss2 hs2 R2 G2 lt2 K2 w1 w2 nD2 d1 d2 hD2 => ?_⟩
    ·rw [eargs] at hy
     exact hin y (List.mem_of_mem_drop (List.mem_of_mem_take hy))
    generalize hstep : Su54Neutral.step st (x :: args) = sr at *
    have hL2 := K2.lst _ _ hLg nls nlh
    have nLD : L ≠ D2 := fun z => by rw [<- z, hLg] at nD2; cases nD2
    have nL1 : L ≠ ls2 := fun z => by
     rcases w1 with w1 | w1
     ·exact nls (z.trans w1)
     ·rw [<- z, hLg] at w1; cases w1
    have nL2 : L ≠ lh2 := fun z => by
     rcases w2 with w2 | w2
     ·exact nlh (z.trans w2)
     ·rw [<- z, hLg] at w2; cases w2
    have tl := rst'.told
    have hlen : (out ++ ((sr.2.length : Int) :: sr.2)).length <= 10000000 := by
     have := congrArg List.length tl
     rw [List.length_append] at this
     omega
    rw [List.length_append, List.length_cons] at hlen
    have big : 10000000 < sizeLine := by decide
    refine ⟨_, rfl, .inl ⟨rfl, _, SqL.of hL2⟩, _, rfl, _, sr.2.length, rfl, .inl ⟨_, SqL.of hD2, by rw [List.length_map]⟩, L, _, _, rfl, rfl, hL2, by rw [List.length_map]; omega, ?_⟩
    have hD2' : (upd H2 L (.lst (out.map V.int ++ [.int (sr.2.length : Nat)]))) D2 = some (.lst (sr.2.map V.int)) := by rw [upd_ne (fun z => nLD z.symm)]; exact hD2
    refine ⟨_, rfl, .inl ⟨rfl, _, SqL.of upd_same⟩, _, rfl, L, D2, _, _, rfl, rfl, upd_same, hD2', by rw [List.length_append, List.length_map, List.length_map, List.length_singleton]; omega, ?_⟩
    rw [upd_upd]
    have eo : out.map V.int ++ [V.int (sr.2.length : Nat)] ++ sr.2.map V.int = (out ++ ((sr.2.length : Int) :: sr.2)).map V.int := by
     rw [List.map_append, List.map_cons, List.append_assoc]
     rfl
    rw [eo]
    have XU : Ext H2 (upd H2 L (.lst ((out ++ ((sr.2.length : Int) :: sr.2)).map V.int))) -> True := fun _ => trivial
    have BL : But L H2 (upd H2 L (.lst ((out ++ ((sr.2.length : Int) :: sr.2)).map V.int))) := But.upd
    have R3 : TownR K CT CS CH (upd H2 L (.lst ((out ++ ((sr.2.length : Int) :: sr.2)).map V.int))) T (absO sr.1) sr.1.isSome ls2 lh2 ss2 hs2 := by
     have nt : ∀ {b : Addr} {u : HO}, H2 b = some u -> (∀ xs, u ≠ .lst xs) -> b ≠ L := fun {b u} e n z => by
      rw [z, hL2] at e
      cases e
      exact n _ rfl
     obtain ⟨d3, t3⟩ := R2.tw
     refine ⟨⟨d3, BL _ _ t3 (nt t3 (fun _ z => by cases z))⟩, BL _ _ R2.ls (fun z => nL1 z.symm), BL _ _ R2.lh (fun z => nL2 z.symm), R2.sn, R2.hn, R2.sl, R2.hl, fun i q y h3 h4 => ?_, fun i q y h3 h4 => ?_, R2.ne⟩
     ·exact (R2.st i q y h3 h4).go fun d4 fs t4 => BL _ _ t4 (nt t4 (fun _ z => by cases z))
     ·obtain ⟨d4, p4, s4, sd4, a4, t4, r4⟩ := R2.ho i q y h3 h4
      refine ⟨d4, p4, s4, sd4, a4, BL _ _ t4 (nt t4 (fun _ z => by cases z)), fun g => let ⟨r1, r2, r3, r5⟩ := r4 g; ⟨r1, r2, r3, ?_⟩⟩
      rcases r5 with (z | ⟨o, z⟩) | z
      ·exact .inl (.inl (BL _ _ z (nt z (fun _ z => by cases z))))
      ·exact .inl (.inr ⟨o, BL _ _ z (nt z (fun _ z => by cases z))⟩)
      ·exact .inr z
    have lt3 : LT TB (upd H2 L (.lst ((out ++ ((sr.2.length : Int) :: sr.2)).map V.int))) := by
     have nt : ∀ {b : Addr} {u : HO}, H2 b = some u -> (∀ xs, u ≠ .lst xs) -> b ≠ L := fun {b u} e n z => by
      rw [z, hL2] at e
      cases e
      exact n _ rfl
     exact lt2.go fun b u q k => BL _ _ q (nt q fun _ z => by rw [z] at k; exact k)
    have fz3 : FzL K (upd H2 L (.lst ((out ++ ((sr.2.length : Int) :: sr.2)).map V.int))) a (ns.map V.int) := by
     rcases (hvH.ext Xg).kp K2 with ⟨o, z⟩ | z
     ·refine .inl ⟨o, BL _ _ z (fun w => ?_)⟩
      rw [w, hL2] at z
      cases z
     ·exact .inr z
    refine ⟨_, rfl, ⟨p + 1 + n, _, sr.1, cs', ls2, lh2, ss2, hs2, some (.int ((p : Int) + 1 + (n : Nat))), some (.ref D2), ?_, hle, rst', R3, G2, lt3, fz3, upd_same, nL1, nL2⟩, ?_⟩
    ·show [some (V.ref a), some (V.ref T), some (V.ref L), some (V.int ((p : Int) + 1 + (n : Nat))), some (V.int ((p : Int) + 1 + (n : Nat))), some (V.ref D2)] = _
     rw [e2]
    ·show ns.length - ((p : Int) + 1 + (n : Nat)).toNat < ns.length - (p : Int).toNat
     omega
   ·have c : ¬ (p : Int) < (ns.length : Nat) := fun z => c (decide_eq_true z)
    have := rest_end rst (by omega)
    exact ⟨_, rfl, q H' L (by rw [this]; exact hLH)⟩
  ·rintro σ H' Q1 Q2 m ⟨v, hv, w, hw, x, n, e, l, i, j, ei, ej, k, ek, q⟩
   exact ⟨v, hv, w, hw, x, n, e, l, i, j, ei, ej, k, ek, m _ _ q⟩
end
section
variable {P : Program} {w : World} {K : Frag} {mg : Str -> Option Value} {base : Heap} {CT CS CH TB np : Addr}
def spMake (P : Program) (w : World) (K : Frag) (mg : Str -> Option Value) (base : Heap) (k : Nat) : Sp := fun vs H Q _ => ∃ (f T g : Addr) (xs : List Int) (fd : FuncData) (ps : List Str) (sp : Sp), vs = [.ref f, .ref T, .ref g] /\ H g = some (.lst (xs.map V.int)) /\ xs.length <= 3 /\ FnOk P w K mg base CX0 k f fd ps sp /\ PySem.W.keepIn K (.ref f) = true /\ Binds K fd ps [] /\ sp (.ref T :: xs.map V.int) H Q E0
abbrev sMake : Stmt := top 88
theorem scMake : FnScope ["maker", "town", "given"] ["maker", "town", "given"] (defScope sMake) := scOf
theorem ok_make {k : Nat} (D : Def K mg "make_call" sMake ["maker", "town", "given"]) (g1 : mg "len" = none) : Ok P w K mg base (k + 1) "make_call" ["maker", "town", "given"] (spMake P w K mg base k) := by
 refine D.ok scMake (fun vs H Q E h => ?_) fun f cdv A outer s0 H vs Q E hr h => ?_
 ·obtain ⟨f, T, g, xs, fd, ps, sp, rfl, _⟩ := h; rfl
 ·obtain ⟨fm, T, g, xs, fd, ps, sp, rfl, hg, hl, F, hk, hb, q⟩ := h
  refine ⟨_, pss_cons (ps_if (pt_cmpR op_eq (pe_callB call_len rfl g1 PySem.boot_len (pa_cons (pv 2) pa_nil)) pe_int rfl) (pss_one (ps_ret (pe_callV (i := 0) rfl (Or.inl rfl) hr pass0 (pa_cons (pv 1) pa_nil)))) pss_nil)
   (pss_cons (ps_if (pt_cmpR op_eq (pe_callB call_len rfl g1 PySem.boot_len (pa_cons (pv 2) pa_nil)) pe_int rfl) (pss_one (ps_ret (pe_callV (i := 0) rfl (Or.inl rfl) hr pass0 (pa_cons (pv 1) (pa_cons (pe_ix ix_list (pv 2) pe_int (fun _ _ => rfl)) pa_nil))))) pss_nil)
   (pss_cons (ps_if (pt_cmpR op_eq (pe_callB call_len rfl g1 PySem.boot_len (pa_cons (pv 2) pa_nil)) pe_int rfl) (pss_one (ps_ret (pe_callV (i := 0) rfl (Or.inl rfl) hr pass0 (pa_cons (pv 1) (pa_cons (pe_ix ix_list (pv 2) pe_int (fun _ _ => rfl)) (pa_cons (pe_ix ix_list (pv 2) pe_int (fun _ _ => rfl)) pa_nil)))))) pss_nil)
   (pss_one (ps_ret (pe_callV (i := 0) rfl (Or.inl rfl) hr pass0 (pa_cons (pv 1) (pa_cons (pe_ix ix_list (pv 2) pe_int (fun _ _ => rfl)) (pa_cons (pe_ix ix_list (pv 2) pe_int (fun _ _ => rfl)) (pa_cons (pe_ix ix_list (pv 2) pe_int (fun _ _ => rfl)) pa_nil))))))))), ?_⟩
  have hs : SqL K H g (xs.map V.int) := SqL.of hg
  have ne : ∀ {a b : Int}, a ≠ b -> ¬ decide (V.int a = V.int b) = true := fun {a b} h => by rw [dec_V]; exact fun z => h (of_decide_eq_true z)
  refine ⟨_, rfl, _, xs.length, rfl, lenI hs, rfl, _, rfl, ?_⟩
  match xs, hl, hs, q with
  | [], _, hs, q => exact ⟨fm, fd, ps, sp, rfl, F, hk, hb, _, rfl, q⟩
  | [x], _, hs, q =>
   refine (if_neg (ne (show ((1 : Nat) : Int) ≠ 0 by decide))).mpr ?_
   exact ⟨_, rfl, _, 1, rfl, lenI hs, rfl, _, rfl, fm, fd, ps, sp, rfl, F, hk, hb, _, rfl, _, rfl, g, _, _, _, rfl, rfl, hs, rfl, q⟩
  | [x, y], _, hs, q =>
   refine (if_neg (ne (show ((2 : Nat) : Int) ≠ 0 by decide))).mpr ?_
   refine ⟨_, rfl, _, 2, rfl, lenI hs, rfl, _, rfl, (if_neg (ne (show ((2 : Nat) : Int) ≠ 1 by decide))).mpr ?_⟩
   exact ⟨_, rfl, _, 2, rfl, lenI hs, rfl, _, rfl, fm, fd, ps, sp, rfl, F, hk, hb, _, rfl, _, rfl, g, _, _, _, rfl, rfl, hs, rfl, _, rfl, g, _, _, _, rfl, rfl, hs, rfl, q⟩
  | [x, y, z], _, hs, q =>
   refine (if_neg (ne (show ((3 : Nat) : Int) ≠ 0 by decide))).mpr ?_
   refine ⟨_, rfl, _, 3, rfl, lenI hs, rfl, _, rfl, (if_neg (ne (show ((3 : Nat) : Int) ≠ 1 by decide))).mpr ?_⟩
   refine ⟨_, rfl, _, 3, rfl, lenI hs, rfl, _, rfl, (if_neg (ne (show ((3 : Nat) : Int) ≠ 2 by decide))).mpr ?_⟩
   exact ⟨fm, fd, ps, sp, rfl, F, hk, hb, _, rfl, _, rfl, g, _, _, _, rfl, rfl, hs, rfl, _, rfl, g, _, _, _, rfl, rfl, hs, rfl, _, rfl, g, _, _, _, rfl, rfl, hs, rfl, q⟩
  | _ :: _ :: _ :: _ :: _, hl, _, _ => exact absurd hl (by simp only [List.length_cons]; omega)
end
section
variable {P : Program} {w : World} {K : Frag} {mg : Str -> Option Value} {base : Heap} {CT CS CH TB : Addr}
abbrev sIsName : Stmt := top 39
def spIsName : Sp := fun vs H Q _ => ∃ n, vs = [.int n] /\ Q (.bl (decide (1 <= n /\ n <= 999))) H
theorem scIsName : FnScope ["n"] ["n"] (defScope sIsName) := scOf
theorem ok_isName (D : Def K mg "is_name" sIsName ["n"]) (g1 : Num mg "LAST_NAME" 999) : Ok P w K mg base 1 "is_name" ["n"] spIsName := by
 refine D.ok scIsName (fun vs H Q E h => ?_) fun f cdv A outer s H vs Q E hr h => ?_
 ·obtain ⟨n, rfl, _⟩ := h; rfl
 ·obtain ⟨n, rfl, q⟩ := h
  refine ⟨_, pss_one (ps_ret (pe_and (pe_cmpR op_le pe_int (pv 0) rfl) (pe_one (pe_cmpR op_le (pv 0) (pe_num g1 rfl) rfl)))), ?_⟩
  refine ⟨_, rfl, _, _, rfl, rfl, _, rfl, ?_⟩
  refine ite2 (fun h1 => ?_) fun h1 => ?_
  ·have h1 : 1 <= n := of_decide_eq_true h1
   refine ⟨_, rfl, _, _, rfl, rfl, ?_⟩
   rw [show decide (1 <= n /\ n <= 999) = decide (n <= 999) by simp [h1]] at q
   exact q
  ·have h1 : ¬ 1 <= n := fun z => h1 (decide_eq_true z)
   rw [show decide (1 <= n /\ n <= 999) = false by simp [h1]] at q
   exact q
abbrev sBeg : Stmt := top 40
def spBeg (K : Frag) (CT CS CH TB : Addr) : Sp := fun vs H Q _ => ∃ (T : Addr) (a : Su54.Abs) (b : Bool) (ls lh : Addr) (ss hs : List Addr), vs = [.ref T] /\ TownR K CT CS CH H T a b ls lh ss hs /\ LT TB H /\
 ∀ (H' : Hp) (D l1 l2 : Addr), TownR K CT CS CH H' T ⟨[], []⟩ true l1 l2 [] [] -> LT TB H' -> Kp ls lh H H' -> H l1 = none -> H l2 = none -> H D = none -> D ≠ l1 -> D ≠ l2 -> H' D = some (.lst [.int 0]) -> Q (.ref D) H'
theorem scBeg : FnScope ["town"] ["town"] (defScope sBeg) := scOf
theorem ok_beg (D : Def K mg "begin" sBeg ["town"]) (cl : Cl K CT CS CH) : Ok P w K mg base 1 "begin" ["town"] (spBeg K CT CS CH TB) := by
 refine D.ok scBeg (fun vs H Q E h => ?_) fun f cdv A outer s H vs Q E hr h => ?_
 ·obtain ⟨T, a, b, ls, lh, ss, hs, rfl, _⟩ := h; rfl
 ·obtain ⟨T, a, b, ls, lh, ss, hs, rfl, R, lt, q⟩ := h
  obtain ⟨dT, hT⟩ := R.tw
  refine ⟨_, pss_cons (ps_fld (pv 0) pe_bl rfl) (pss_cons (ps_fld (pv 0) (pe_lst pa_nil) rfl) (pss_cons (ps_fld (pv 0) (pe_lst pa_nil) rfl) (pss_one (ps_ret (pe_lst (pa_cons pe_int pa_nil)))))), ?_⟩
  refine ⟨_, rfl, T, CT, dT, _, rfl, hT, cl.t, cl.tn "begun" (by simp), (by show 3 < 1000; decide), ?_⟩
  refine ⟨Nat.zero_le _, fun l1 h1 => ?_⟩
  have n1 : l1 ≠ T := fun z => by rw [z, upd_same] at h1; cases h1
  refine ⟨_, rfl, T, CT, dT, _, rfl, (by rw [upd_ne (fun z => n1 z.symm)]; exact upd_same), cl.t, cl.tn "streets" (by simp), (by show 3 < 1000; decide), ?_⟩
  refine ⟨Nat.zero_le _, fun l2 h2 => ?_⟩
  have n2 : l2 ≠ T := fun z => by rw [z, upd_same] at h2; cases h2
  have n12 : l1 ≠ l2 := fun z => by
   rw [<- z, upd_ne n1, upd_same] at h2
   cases h2
  refine ⟨_, rfl, T, CT, dT, _, rfl, (by rw [upd_ne (fun z => n2 z.symm)]; exact upd_same), cl.t, cl.tn "houses" (by simp), (by show 3 < 1000; decide), ?_⟩
  have f1 : H l1 = none := by rw [upd_ne n1] at h1; exact h1
  have f2 : H l2 = none := by rw [upd_ne n2, upd_ne (fun z => n12 z.symm), upd_ne n2] at h2; exact h2
  refine ⟨sz1, fun D' hD' => ?_⟩
  have nD : D' ≠ T := fun z => by rw [z, upd_same] at hD'; cases hD'
  have nD2 : D' ≠ l2 := fun z => by rw [z, upd_ne n2, upd_same] at hD'; cases hD'
  have nD1 : D' ≠ l1 := fun z => by rw [z, upd_ne n1, upd_ne n12, upd_ne n1, upd_same] at hD'; cases hD'
  have fD : H D' = none := by rw [upd_ne nD, upd_ne nD2, upd_ne nD, upd_ne nD1, upd_ne nD] at hD'; exact hD'
  have keep : ∀ c u, H c = some u -> c ≠ T -> upd (upd (upd (upd (upd (upd H T (.ins CT dT (tf true ls lh))) l1 (.lst [])) T (.ins CT dT (tf true l1 lh))) l2 (.lst [])) T (.ins CT dT (tf true l1 l2))) D' (.lst [.int 0]) c = some u := fun c u e n => by
   rw [upd_ne (ne_of_none e fD), upd_ne n, upd_ne (ne_of_none e f2), upd_ne n, upd_ne (ne_of_none e f1), upd_ne n]
   exact e
  have dom : ∀ c, c ≠ T -> upd (upd (upd (upd (upd (upd H T (.ins CT dT (tf true ls lh))) l1 (.lst [])) T (.ins CT dT (tf true l1 lh))) l2 (.lst [])) T (.ins CT dT (tf true l1 l2))) D' (.lst [.int 0]) c = none -> H c = none := fun c n e => by
   by_cases z1 : c = D'
   ·rw [z1]; exact fD
   ·rw [upd_ne z1, upd_ne n] at e
    by_cases z2 : c = l2
    ·rw [z2]; exact f2
    ·rw [upd_ne z2, upd_ne n] at e
     by_cases z3 : c = l1
     ·rw [z3]; exact f1
     ·rw [upd_ne z3, upd_ne n] at e; exact e
  refine q _ D' l1 l2 ⟨⟨dT, ?_⟩, ?_, ?_, List.nodup_nil, List.nodup_nil, rfl, rfl, fun i p x h => by simp at h, fun i p x h => by simp at h, n12⟩ (LT.but (p := T) lt keep hT) (Kp.but (p := T) (o := .ins CT dT (tf true l1 l2)) keep hT ?_ dom) f1 f2 fD nD1 nD2 upd_same
  ·rw [upd_ne (fun z => nD z.symm)]; exact upd_same
  ·rw [upd_ne (fun z => nD1 z.symm), upd_ne n1, upd_ne n12, upd_ne n1]; exact upd_same
  ·rw [upd_ne (fun z => nD2 z.symm), upd_ne n2]; exact upd_same
  ·rw [upd_ne (fun z => nD z.symm)]; exact upd_same
end
section
variable {P : Program} {w : World} {K : Frag} {mg : Str -> Option Value} {base : Heap} {CT CS CH TB np : Addr}
abbrev sInitH : Stmt := inClass (top 23) 0
def spInitH (CH np : Addr) : Sp := fun vs H Q _ => ∃ (p dx : Addr) (i s d m : Int), vs = [.ref p, .int i, .int s, .int d, .int m] /\ H p = some (.ins CH dx []) /\ ∀ H' : Hp, H' p = some (.ins CH dx (hf i s d m np true)) -> But p H H' -> (∀ b, b ≠ p -> H' b = none -> H b = none) -> Q .non H'
theorem scInitH : FnScope ["self", "serial", "street", "side", "metre"] ["self", "serial", "street", "side", "metre"] (defScope sInitH) := scOf
theorem ok_initH {f : Addr} {fd : FuncData} (F : Fun K "__init__" "House.__init__" sInitH f fd) (cl : Cl K CT CS CH) (g : mg "NO_PLATE" = some (.ref np)) : FnOk P w K mg base CX0 1 f fd ["self", "serial", "street", "side", "metre"] (spInitH CH np) := by
 refine F.ok scInitH (fun vs H Q E h => ?_) (fun cdv A outer s0 H vs Q E hr h => ?_)
 ·obtain ⟨p, dx, i, s, d, m, rfl, _⟩ := h
  rfl
 ·obtain ⟨p, dx, i, s, d, m, rfl, hp, k⟩ := h
  refine ⟨_, pss_cons (ps_fld (pv 0) (pv 1) rfl) (pss_cons (ps_fld (pv 0) (pv 2) rfl) (pss_cons (ps_fld (pv 0) (pv 3) rfl) (pss_cons (ps_fld (pv 0) (pv 4) rfl) (pss_cons (ps_fld (pv 0) (pe_glob (v := .ref np) rfl g rfl) rfl) (pss_one (ps_fld (pv 0) pe_bl rfl)))))), ?_⟩
  refine ⟨_, rfl, _, rfl, p, CH, dx, [], rfl, hp, cl.h, cl.hn "serial" (by simp), (by show 0 < 1000; decide), ?_⟩
  refine ⟨_, rfl, _, rfl, p, CH, dx, _, rfl, upd_same, cl.h, cl.hn "street" (by simp), (by show 1 < 1000; decide), ?_⟩
  refine ⟨_, rfl, _, rfl, p, CH, dx, _, rfl, upd_same, cl.h, cl.hn "side" (by simp), (by show 2 < 1000; decide), ?_⟩
  refine ⟨_, rfl, _, rfl, p, CH, dx, _, rfl, upd_same, cl.h, cl.hn "metre" (by simp), (by show 3 < 1000; decide), ?_⟩
  refine ⟨_, rfl, p, CH, dx, _, rfl, upd_same, cl.h, cl.hn "plate" (by simp), (by show 4 < 1000; decide), ?_⟩
  refine ⟨_, rfl, p, CH, dx, _, rfl, upd_same, cl.h, cl.hn "stands" (by simp), (by show 5 < 1000; decide), ?_⟩
  refine k _ upd_same (fun b u e hb => ?_) (fun b hb e => ?_)
  ·rw [upd_ne hb, upd_ne hb, upd_ne hb, upd_ne hb, upd_ne hb, upd_ne hb]; exact e
  ·rw [upd_ne hb, upd_ne hb, upd_ne hb, upd_ne hb, upd_ne hb, upd_ne hb] at e; exact e
end
section
variable {K : Frag} {CT CS CH : Addr} {H H' : Hp} {T : Addr} {a : Su54.Abs} {b : Bool} {ls lh : Addr} {ss hs : List Addr}
theorem snoc_at {α : Type} {xs : List α} {y z : α} {i : Nat} (h : (xs ++ [y])[i]? = some z) : xs[i]? = some z ∨ (i = xs.length /\ z = y) := by
 by_cases c : i < xs.length
 ·rw [List.getElem?_append_left c] at h; exact .inl h
 ·rw [List.getElem?_append_right (by omega)] at h
  have : i - xs.length = 0 := by
   by_cases e : i - xs.length = 0
   ·exact e
   ·rw [List.getElem?_eq_none (by simp; omega)] at h; cases h
  rw [this] at h
  cases h
  exact .inr ⟨by omega, rfl⟩
theorem LT.butL {TB p : Addr} {xs : List V} {H H' : Hp} (h : LT TB H) (e : But p H H') (hp : H p = some (.lst xs)) : LT TB H' := h.go fun b u q k => e _ _ q (ne_of q hp (by intro z; rw [z] at k; exact k))
theorem TownR.build (R : TownR K CT CS CH H T a b ls lh ss hs) {p np dx : Addr} {s d m : Nat} (keep : ∀ c u, H c = some u -> c ≠ lh -> H' c = some u) (hp0 : H p = none) (hp : H' p = some (.ins CH dx (hf hs.length s d m np true))) (hl : H' lh = some (.lst ((hs ++ [p]).map V.ref))) (hnp : ∀ G : Hp, SqT K G np [.int 0, .int 0]) :
  TownR K CT CS CH H' T { a with houses := a.houses ++ [⟨s, d, m, 0, false⟩] } b ls lh ss (hs ++ [p]) := by
 obtain ⟨dT, hT⟩ := R.tw
 refine ⟨⟨dT, keep _ _ hT (ne_of hT R.lh (by intro z; cases z))⟩, keep _ _ R.ls R.ne, hl, R.sn, ?_, R.sl, ?_, fun j q y hj hy => ?_, fun j q y hj hy => ?_, R.ne⟩
 ·refine List.nodup_append.mpr ⟨R.hn, by simp, fun u hu v hv e => ?_⟩
  obtain ⟨i, hi⟩ := List.getElem?_of_mem hu
  obtain ⟨x, _, _, d2, _, _, _, _, h1, _⟩ := R.house hi
  rw [e, List.mem_singleton.mp hv, hp0] at h1
  cases h1
 ·show (hs ++ [p]).length = (a.houses ++ [_]).length
  rw [List.length_append, List.length_append, R.hl]
  rfl
 ·exact (R.st j q y hj hy).go fun dq fs hq => keep _ _ hq (ne_of hq R.lh (by intro z; cases z))
 ·rcases snoc_at hj with hj1 | ⟨rfl, rfl⟩
  ·rcases snoc_at hy with hy1 | ⟨e, _⟩
   ·obtain ⟨dq, ql, qs, qd, qa, g1, g2⟩ := R.ho j q y hj1 hy1
    refine ⟨dq, ql, qs, qd, qa, keep _ _ g1 (ne_of g1 R.lh (by intro z; cases z)), fun g => ?_⟩
    obtain ⟨c1, c2, c3, c4⟩ := g2 g
    refine ⟨c1, c2, c3, ?_⟩
    rcases c4 with (h | ⟨o, h⟩) | h
    ·exact .inl (.inl (keep _ _ h (ne_of h R.lh (by intro z; cases z))))
    ·exact .inl (.inr ⟨o, keep _ _ h (ne_of h R.lh (by intro z; cases z))⟩)
    ·exact .inr h
   ·exact absurd (List.getElem?_eq_some_iff.mp hj1).1 (by rw [R.hl]; omega)
  ·rcases snoc_at hy with hy1 | ⟨e, rfl⟩
   ·exact absurd (List.getElem?_eq_some_iff.mp hy1).1 (by rw [R.hl]; omega)
   ·exact ⟨dx, np, s, d, m, hp, fun _ => ⟨rfl, rfl, rfl, hnp _⟩⟩
end
section
variable {P : Program} {w : World} {K : Frag} {mg : Str -> Option Value} {base : Heap} {CT CS CH TB np : Addr}
abbrev sBuild : Stmt := top 43
abbrev cHouse : List Nat -> Su54.Call := fun l => .house (l.getD 0 0) (l.getD 1 0) (l.getD 2 0)
theorem scBuild : FnScope ["town", "s", "d", "m", "street", "there", "house", "serial"] ["town", "s", "d", "m"] (defScope sBuild) := scOf
theorem ok_build {fI : Addr} {fdI : FuncData} (D : Def K mg "build_house" sBuild ["town", "s", "d", "m"]) (cl : Cl K CT CS CH) (gn : NoP K mg np) (M : Mk K CH fI) (FI : FnOk P w K mg base CX0 1 fI fdI ["self", "serial", "street", "side", "metre"] (spInitH CH np)) (bI : Binds K fdI ["self", "serial", "street", "side", "metre"] []) (gH : mg "House" = some (.ref CH)) (g1 : mg "len" = none) (g2 : mg "any" = none)
  (n1 : Num mg "NO_SUCH" (-2)) (n2 : Num mg "OUT_OF_RANGE" (-22)) (n3 : Num mg "SO_ALREADY" (-17)) (n4 : Num mg "TOO_MANY" (-28)) (n5 : Num mg "MOST_HOUSES" 40) (n6 : Num mg "MOST_HOUSES_OF_SIDE" 10)
  (o1 : Ok P w K mg base 1 "find_street" ["town", "s"] (spFindS K CT CS CH)) (o2 : Ok P w K mg base 2 "houses_in_order" ["town", "s", "d"] (spOrd K CT CS CH TB)) :
  Ok P w K mg base 3 "build_house" ["town", "s", "d", "m"] (spDo K CT CS CH TB 3 cHouse) := by
 refine D.ok scBuild spDo_len fun f cdv A outer s0 H vs Q E hr h => ?_
 ·obtain ⟨T, xs, a, ls, lh, ss, hs, rfl, hl, hx, R, G, lt, q⟩ := h
  obtain ⟨s, d, m, rfl⟩ := three_of hl
  have hs0 := (hx s (by simp)).1
  have hd0 := (hx d (by simp)).1
  have hm0 := (hx m (by simp)).1
  have q : Want K CT CS CH TB T ls lh H a (.house s.toNat d.toNat m.toNat) Q := q
  refine ⟨_, pss_cons (ps_set (i := 4) scBuild.nd rfl (Or.inl rfl) (pe_ok o1 (hr.mono (show 1 <= 2 by decide)) rfl (pa_cons (pv 0) (pa_cons (pv 1) pa_nil))))
   (pss_cons (ps_if (pt_cmp (pc_isN (pv 4))) (pss_one (ps_ret (pe_lst (pa_cons (pe_num n1 rfl) pa_nil)))) pss_nil)
   (pss_cons (ps_if (PW.pt (pw_or (pt_cmpR op_gt (pv 2) pe_int rfl) (pw_or1 (pt_cmpR op_ge (pv 3) (pe_fld (pv 4) rfl) rfl)))) (pss_one (ps_ret (pe_lst (pa_cons (pe_num n2 rfl) pa_nil)))) pss_nil)
   (pss_cons (ps_set (i := 5) scBuild.nd rfl (Or.inl rfl) (pe_ok o2 hr rfl (pa_cons (pv 0) (pa_cons (pv 1) (pa_cons (pv 2) pa_nil)))))
   (pss_cons (ps_if (pt_val (pe_callB (cr_any rfl) rfl g2 (by rfl) (pa_cons (pe_lc (own := [("house", 6)]) rfl scBuild.nd (pi_list (pv 5)) (blkOk_by rfl) (fun s H C cl fp => by exact pg_name (i := 6) scBuild.nd rfl (Or.inl rfl)) (fun s H C cl fp => by exact pts_nil) (fun s H C cl fp => by exact pe_cmpR op_eq (pe_fldK K rfl (pv 6) rfl) (pv 3) rfl)) pa_nil))) (pss_one (ps_ret (pe_lst (pa_cons (pe_num n3 rfl) pa_nil)))) pss_nil)
   (pss_cons (ps_if (PW.pt (pw_or (pt_cmpR op_eq (pe_callB call_len rfl g1 PySem.boot_len (pa_cons (pe_fld (pv 0) rfl) pa_nil)) (pe_num n5 rfl) rfl) (pw_or1 (pt_cmpR op_eq (pe_callB call_len rfl g1 PySem.boot_len (pa_cons (pv 5) pa_nil)) (pe_num n6 rfl) rfl)))) (pss_one (ps_ret (pe_lst (pa_cons (pe_num n4 rfl) pa_nil)))) pss_nil)
   (pss_cons (ps_set (i := 7) scBuild.nd rfl (Or.inl rfl) (pe_callB call_len rfl g1 PySem.boot_len (pa_cons (pe_fld (pv 0) rfl) pa_nil)))
   (pss_cons (ps_expr (pe_bm PySem.F.plainAttrs_list PySem.F.slot_list_append PySem.F.type_list_append mt_append (pe_fld (pv 0) rfl) (pa_cons (pe_make M FI hr rfl gH bI .nil pass0 (pa_cons (pv 7) (pa_cons (pv 1) (pa_cons (pv 2) (pa_cons (pv 3) pa_nil))))) pa_nil)))
   (pss_one (ps_ret (pe_lst (pa_cons (pv 7) pa_nil))))))))))), ?_⟩
  refine ⟨_, rfl, _, rfl, T, s, a, true, ls, lh, ss, hs, rfl, hs0, R, G, fun p x hp ex hI => ?_, fun hI => ?_⟩
  ·have exs : a.street s.toNat = x := by
    unfold Su54.Abs.street
    exact getD_at ex
   have xn : x.name ≠ 0 := by
    have hI := hI
    unfold Su54.Abs.isS at hI
    rw [exs] at hI
    simpa using hI
   obtain ⟨dq, nq, mq, hq, k1, k2⟩ := R.st _ p x hp ex
   obtain ⟨rfl, rfl⟩ := k1 xn
   refine ⟨_, rfl, _, rfl, iteF ?_⟩
   have hI' : ¬ a.isS s.toNat = false := by rw [hI]; decide
   have out : ∀ H1, Ext H H1 -> LT TB H1 -> (1 < d ∨ (x.metres : Int) <= m) -> ∀ D', H1 D' = none -> Q (.ref D') (upd H1 D' (.lst [.int (-22)])) := fun H1 X1 l1 c D' hD' => q.no R X1 l1 (by
    dsimp only [Su54.does]
    rw [if_neg hI', exs, if_pos (by omega)]) D' hD'
   refine ⟨_, rfl, _, _, rfl, rfl, _, rfl, ?_⟩
   refine ite2 (fun c1 => ?_) fun c1 => ?_
   ·have c1 : d > 1 := of_decide_eq_true c1
    refine iteT ⟨sz1, out H (Ext.refl H) lt (.inl c1)⟩
   have c1 : ¬ d > 1 := fun z => c1 (decide_eq_true z)
   refine ⟨_, rfl, _, rfl, p, CS, dq, _, _, rfl, hq, cl.s, cl.sn "metres" (by simp), rfl, _, _, rfl, rfl, _, rfl, ?_⟩
   refine ite2 (fun c2 => ?_) fun c2 => ?_
   ·have c2 : m >= (x.metres : Int) := of_decide_eq_true c2
    exact ⟨sz1, out H (Ext.refl H) lt (.inr c2)⟩
   have c2 : ¬ m >= (x.metres : Int) := fun z => c2 (decide_eq_true z)
   refine ⟨_, rfl, _, rfl, _, rfl, T, s, d, a, true, ls, lh, ss, hs, rfl, R, G, lt, hs0, hd0, fun H1 D1 X1 lt1 nD1 hD1 => ?_⟩
   have R1 := R.ext X1
   refine ⟨_, rfl, D1, rfl, ⟨_, SqL.of hD1⟩, fun F hF => ?_⟩
   refine lc_list (xs := refs hs (a.side s.toNat d.toNat)) (fun i H' => H' = upd H1 F (.lst (((a.side s.toNat d.toNat).take i).map fun j => V.bl (decide (((a.house j).at_ : Int) = m))))) rfl (fun i H' _ e => ?_) (fun i y H' hi e => ?_) fun H' e => ?_
   ·rw [e]
    exact (Ext.upd hF).seqL (SqL.of hD1)
   ·subst e
    obtain ⟨j, hj, rfl⟩ := refs_get hi
    obtain ⟨pj, hpj, gj⟩ := side_get R.hl hj
    rw [getD_at hpj]
    obtain ⟨y, ey, ey2, dy, ply, sty, sdy, aty, k1, k2⟩ := R1.house hpj
    have XF := Ext.upd (o := .lst (((a.side s.toNat d.toNat).take i).map fun j => V.bl (decide (((a.house j).at_ : Int) = m)))) hF
    refine ⟨rfl, ?_⟩
    dsimp only [tYes]
    rw [if_pos rfl]
    have e1 : aty = ((a.house j).at_ : Int) := by rw [ey2]; exact (k2 (by rw [<- ey2]; exact gj)).2.2.1
    refine ⟨_, rfl, pj, CH, dy, _, _, rfl, XF.1 _ _ k1 (fun _ z => by cases z), cl.h, cl.hn "metre" (by simp), rfl, _, rfl, rfl, _, upd_same, ?_, ?_⟩
    ·rw [List.length_map, List.length_take]
     have := side_le a G s.toNat d.toNat
     exact small40 (by omega)
    ·rw [upd_upd, List.take_add_one, hj, List.map_append]
     show upd H1 F (.lst (_ ++ [V.bl (decide (V.int aty = V.int m))])) = _
     rw [dec_V, e1]
     rfl
   ·subst e
    rw [refs_len, List.take_length]
    have XF := Ext.upd (o := .lst ((a.side s.toNat d.toNat).map fun j => V.bl (decide (((a.house j).at_ : Int) = m)))) hF
    have R2 := R1.ext XF
    have ltF : LT TB (upd H1 F (.lst ((a.side s.toNat d.toNat).map fun j => V.bl (decide (((a.house j).at_ : Int) = m))))) := lt1.upd hF
    have hD1' := XF.1 _ _ hD1 (fun _ z => by cases z)
    generalize hH2 : upd H1 F (.lst ((a.side s.toNat d.toNat).map fun j => V.bl (decide (((a.house j).at_ : Int) = m)))) = H2 at *
    have hF2 : H2 F = some (.lst (((a.side s.toNat d.toNat).map fun j => decide (((a.house j).at_ : Int) = m)).map V.bl)) := by rw [<- hH2, List.map_map]; exact upd_same
    have X2 := X1.trans XF
    refine ⟨F, _, rfl, SqL.of hF2, ?_⟩
    have eA : ((a.side s.toNat d.toNat).map fun j => decide (((a.house j).at_ : Int) = m)).any id = (a.side s.toNat d.toNat).any (fun h => (a.house h).at_ == m.toNat) := by
     rw [List.any_map]
     refine congrArg (fun f => List.any _ f) (funext fun j => ?_)
     show decide (((a.house j).at_ : Int) = m) = ((a.house j).at_ == m.toNat)
     rw [Bool.eq_iff_iff, decide_eq_true_iff, beq_iff_eq]
     omega
    rw [eA]
    have no1 : ¬ (1 < d.toNat ∨ (a.street s.toNat).metres <= m.toNat) := by rw [exs]; omega
    refine ⟨_, rfl, ?_⟩
    refine ite2 (fun c3 => ?_) fun c3 => ?_
    ·refine ⟨sz1, fun D' hD' => q.no R X2 ltF ?_ D' hD'⟩
     dsimp only [Su54.does]
     rw [if_neg hI', if_neg no1, if_pos c3]
    obtain ⟨dT, hT⟩ := R2.tw
    have lenH : ∀ {G : Hp}, G lh = some (.lst (hs.map V.ref)) -> LenV K (.ref lh) G hs.length := fun e => .inl ⟨_, SqL.of e, by rw [List.length_map]⟩
    have full : (40 <= hs.length ∨ 10 <= (a.side s.toNat d.toNat).length) -> ∀ D', H2 D' = none -> Q (.ref D') (upd H2 D' (.lst [.int (-28)])) := fun c D' hD' => q.no R X2 ltF (by
     dsimp only [Su54.does]
     rw [if_neg hI', if_neg no1, if_neg c3, if_pos (by rw [<- R.hl]; exact c)]) D' hD'
    refine ⟨_, rfl, T, CT, dT, _, _, rfl, hT, cl.t, cl.tn "houses" (by simp), rfl, _, hs.length, rfl, lenH R2.lh, rfl, _, rfl, ?_⟩
    refine ite2 (fun c4 => ?_) fun c4 => ?_
    ·have c4 : decide (V.int (hs.length : Nat) = V.int 40) = true := c4
     rw [dec_V] at c4
     have c4 := of_decide_eq_true c4
     exact iteT ⟨sz1, full (.inl (by omega))⟩
    have c4 : ¬ ((hs.length : Nat) : Int) = 40 := fun z => c4 (by
     show decide (V.int (hs.length : Nat) = V.int 40) = true
     rw [dec_V]
     exact decide_eq_true z)
    refine ⟨_, rfl, _, (a.side s.toNat d.toNat).length, rfl, .inl ⟨_, SqL.of hD1', by rw [refs_len]⟩, rfl, _, rfl, ?_⟩
    refine ite2 (fun c5 => ?_) fun c5 => ?_
    ·have c5 : decide (V.int ((a.side s.toNat d.toNat).length : Nat) = V.int 10) = true := c5
     rw [dec_V] at c5
     have c5 := of_decide_eq_true c5
     exact ⟨sz1, full (.inr (by omega))⟩
    have c5 : ¬ (((a.side s.toNat d.toNat).length : Nat) : Int) = 10 := fun z => c5 (by
     show decide (V.int ((a.side s.toNat d.toNat).length : Nat) = V.int 10) = true
     rw [dec_V]
     exact decide_eq_true z)
    have l40 : hs.length < 40 := by have := G.hl; rw [<- R.hl] at this; omega
    have l10 : (a.side s.toNat d.toNat).length < 10 := by have := side_le a G s.toNat d.toNat; omega
    refine ⟨_, rfl, T, CT, dT, _, _, rfl, hT, cl.t, cl.tn "houses" (by simp), rfl, _, hs.length, rfl, lenH R2.lh, ?_⟩
    refine ⟨_, rfl, T, CT, dT, _, _, rfl, hT, cl.t, cl.tn "houses" (by simp), rfl, .inl ⟨rfl, _, SqL.of R2.lh⟩, _, rfl, _, rfl, _, rfl, _, rfl, ?_⟩
    intro y dy ny ndy ney
    refine ⟨y, dy, _, s, d, m, rfl, upd_same, fun H3 hy B3 dm3 => ⟨rfl, ?_⟩⟩
    have k3 : ∀ c u, H2 c = some u -> H3 c = some u := fun c u e => B3 c u (by rw [upd_ne (ne_of_none e ny), upd_ne (ne_of_none e ndy)]; exact e) (ne_of_none e ny)
    have n3 : ∀ c, H3 c = none -> H2 c = none := fun c e => by
     by_cases z : c = y
     ·rw [z]; exact ny
     ·have := dm3 c z e
      rw [upd_ne z] at this
      by_cases z2 : c = dy
      ·rw [z2]; exact ndy
      ·rw [upd_ne z2] at this; exact this
    have hlh3 := k3 _ _ R2.lh
    refine ⟨lh, _, _, rfl, rfl, hlh3, (by rw [List.length_map]; exact small40 (by omega)), ?_⟩
    refine ⟨_, rfl, sz1, fun D' hD' => ?_⟩
    have nDl : D' ≠ lh := fun z => by rw [z, upd_same] at hD'; cases hD'
    have hD3 : H3 D' = none := by rw [upd_ne nDl] at hD'; exact hD'
    have hD2 := n3 _ hD3
    have yl : y ≠ lh := fun z => by rw [z, R2.lh] at ny; cases ny
    have yD : y ≠ D' := fun z => by rw [<- z, hy] at hD3; cases hD3
    have ed : Su54.does a (.house s.toNat d.toNat m.toNat) = ({ a with houses := a.houses ++ [⟨s.toNat, d.toNat, m.toNat, 0, false⟩] }, Su54.num a.houses.length []) := by
     dsimp only [Su54.does]
     rw [if_neg hI', if_neg no1, if_neg c3, if_neg (by rw [<- R.hl]; show ¬ (40 <= hs.length ∨ 10 <= _); omega)]
    have keep : ∀ c u, H2 c = some u -> c ≠ lh -> upd (upd H3 lh (.lst (hs.map V.ref ++ [.ref y]))) D' (.lst [.int (hs.length : Nat)]) c = some u := fun c u e n => by
     rw [upd_ne (ne_of_none (k3 _ _ e) hD3), upd_ne n]
     exact k3 _ _ e
    have fin := R2.build (H' := upd (upd H3 lh (.lst (hs.map V.ref ++ [.ref y]))) D' (.lst [.int (hs.length : Nat)])) (p := y) (np := np) (dx := dy) (s := s.toNat) (d := d.toNat) (m := m.toNat) keep ny (by
     rw [upd_ne yD, upd_ne yl, hy, Int.toNat_of_nonneg hs0, Int.toNat_of_nonneg hd0, Int.toNat_of_nonneg hm0]) (by rw [upd_ne (fun z => nDl z.symm), upd_same, List.map_append]; rfl) gn.2
    have q' := q (upd (upd H3 lh (.lst (hs.map V.ref ++ [.ref y]))) D' (.lst [.int (hs.length : Nat)])) D' ls lh ss (hs ++ [y])
    rw [ed] at q'
    refine q' fin ?_ ⟨fun b xs e n1 n2 => keep _ _ (X2.1 _ _ e (fun _ z => by cases z)) n2, fun b o u e => ?_, fun b e => ?_⟩ (.inl rfl) (.inl rfl) (X2.2 _ hD2) (fun z => by rw [z, R2.ls] at hD2; cases hD2) nDl ?_
    ·exact ltF.butL keep R2.lh
    ·have e2 := X2.1 _ _ e (fun _ z => by cases z)
     exact keep _ _ e2 (ne_of e2 R2.lh (by intro z; cases z))
    ·by_cases z : b = D'
     ·rw [z]; exact X2.2 _ hD2
     ·rw [upd_ne z] at e
      by_cases z2 : b = lh
      ·rw [z2, upd_same] at e; cases e
      ·rw [upd_ne z2] at e
       exact X2.2 _ (n3 _ e)
    ·rw [upd_same]
     show _ = some (HO.lst [V.int (a.houses.length : Nat)])
     rw [R.hl]
  ·refine ⟨_, rfl, _, rfl, iteT ?_⟩
   refine ⟨sz1, fun D' hD' => q.no R (Ext.refl H) lt ?_ D' hD'⟩
   dsimp only [Su54.does]
   rw [if_pos hI]
end
abbrev key3H (a : Su54.Abs) (mm : Int) (j : Nat) : List Int := key3 ((a.house j).at_ : Int) ((a.house j).side : Int) mm
def spNear (K : Frag) (CT CS CH TB : Addr) : Sp := fun vs H Q _ => ∃ (T l : Addr) (mm : Int) (a : Su54.Abs) (b : Bool) (ls lh : Addr) (ss hs : List Addr) (js : List Nat), vs = [.ref l, .int mm] /\ TownR K CT CS CH H T a b ls lh ss hs /\ LT TB H /\ H l = some (.lst (refs hs js)) /\ 0 < js.length /\ (∀ j ∈ js, j < a.houses.length /\ (a.house j).gone = false) /\
 ∀ (H' : Hp) (j : Nat) (p : Addr), j ∈ js -> hs[j]? = some p -> (∀ j' ∈ js, HT.lexLt (key3H a mm j') (key3H a mm j) = false) -> Ext H H' -> LT TB H' -> Q (.ref p) H'
section
variable {P : Program} {w : World} {K : Frag} {mg : Str -> Option Value} {base : Heap} {CT CS CH TB np : Addr}
theorem scNear : FnScope ["houses", "metre"] ["houses", "metre"] (defScope sNear) := scOf
theorem ok_near {c : Addr} (D : DefC K mg "nearest" sNear ["houses", "metre"] c) (hc : PySem.W.codeHdIn K c tbN = true) (bm : BMx mg base) (cl : Cl K CT CS CH) (hmin : mg "min" = none) (habs : mg "abs" = none) (hne : TB ≠ tbN) : Ok P w K mg base 2 "nearest" ["houses", "metre"] (spNear K CT CS CH TB) := by
 refine D.ok scNear (fun vs H Q E h => ?_) fun f A outer s0 H vs Q E hr h => ?_
 ·obtain ⟨T, l, mm, a, b, ls, lh, ss, hs, js, rfl, _⟩ := h; rfl
 ·obtain ⟨T, l, mm, a, b, ls, lh, ss, hs, js, rfl, R, lt, hl, hpos, hjs, q⟩ := h
  have LC : LamCx (cxOf CX0 P w K mg base ["houses", "metre"] "nearest" (defScope sNear) f (.ref c) A outer s0 H E).nox c tbN := ⟨rfl, hc, bm⟩
  refine ⟨_, pss_one (ps_ret (pe_minK (j := 1) (cc := s0.heap.objs.size + 1) (pv 0) LC hr rfl hmin habs rfl rfl rfl rfl rfl rfl cl.h (cl.hn "metre" (by simp)) (cl.hn "side" (by simp)) (fun _ _ _ _ _ _ => rfl) rfl rfl rfl rfl rfl rfl (by decide +kernel) rfl rfl rfl (fun _ _ _ => rfl) rfl)), ?_⟩
  refine ⟨_, rfl, l, js.map fun j => hs.getD j 0, mm, fun i => ((a.house (js.getD i 0)).at_ : Int), fun i => ((a.house (js.getD i 0)).side : Int), rfl, rfl, SqL.of hl, by rw [List.length_map]; exact hpos, lt.2, fun i p hp => ?_, fun i p H2 hp hmn lt2 old => ?_⟩
  ·rw [List.getElem?_map] at hp
   obtain ⟨j, hj, ej⟩ := Option.map_eq_some_iff.mp hp
   have mj := hjs j (List.mem_of_getElem? hj)
   have hjh : hs[j]? = some p := by
    have : j < hs.length := by rw [R.hl]; exact mj.1
    rw [List.getElem?_eq_getElem this]
    rw [getD_at (List.getElem?_eq_getElem this)] at ej
    rw [ej]
   obtain ⟨y, ey, ey2, dx, pl, st, sd, at_, h3, h4⟩ := R.house hjh
   have g : y.gone = false := by rw [<- ey2]; exact mj.2
   obtain ⟨_, e2, e3, _⟩ := h4 g
   refine ⟨dx, _, h3, ?_, ?_⟩
   ·show _ = some (V.int ((a.house (js.getD i 0)).at_ : Int)); rw [getD_at hj, ey2, <- e3]; rfl
   ·show _ = some (V.int ((a.house (js.getD i 0)).side : Int)); rw [getD_at hj, ey2, <- e2]; rfl
  ·rw [List.getElem?_map] at hp
   obtain ⟨j, hj, ej⟩ := Option.map_eq_some_iff.mp hp
   have mj := hjs j (List.mem_of_getElem? hj)
   have hjh : hs[j]? = some p := by
    have : j < hs.length := by rw [R.hl]; exact mj.1
    rw [List.getElem?_eq_getElem this]
    rw [getD_at (List.getElem?_eq_getElem this)] at ej
    rw [ej]
   have X2 : Ext H H2 := Ext.of old (lamTab_tbl lt.2) (lamTab_tbl lt2)
   refine q H2 j p (List.mem_of_getElem? hj) hjh (fun j' hj' => ?_) X2 ⟨?_, lt2⟩
   ·obtain ⟨k, hk⟩ := List.getElem?_of_mem hj'
    have := hmn k (by rw [List.length_map]; exact (List.getElem?_eq_some_iff.mp hk).1)
    dsimp only at this; rw [getD_at hk, getD_at hj] at this
    exact this
   ·rcases lt.1 with z | ⟨c, z, φ, z2, z3⟩
    ·exact .inl (old _ _ z hne)
    ·refine .inr ⟨c, old _ _ z hne, φ, old _ _ z2 fun y => ?_, z3⟩
     obtain ⟨ps, w⟩ := lamTab_tbl lt.2
     rw [y, w] at z2
     cases z2
end
theorem isS_of {a : Su54.Abs} {s : Nat} {x : Su54.Street} (e : a.streets[s]? = some x) : a.isS s = !(x.name == 0) := by
 unfold Su54.Abs.isS
 rw [street_of e]
 rfl
theorem TownR.street {K : Frag} {CT CS CH : Addr} {H : Hp} {T : Addr} {a : Su54.Abs} {b : Bool} {ls lh : Addr} {ss hs : List Addr} (R : TownR K CT CS CH H T a b ls lh ss hs) {i : Nat} {p : Addr} (h : ss[i]? = some p) : ∃ x, a.streets[i]? = some x /\ a.street i = x /\ StreetAt CS H p x := by
 have hi : i < a.streets.length := by rw [<- R.sl]; exact (List.getElem?_eq_some_iff.mp h).1
 have e : a.streets[i]? = some a.streets[i] := List.getElem?_eq_getElem hi
 exact ⟨_, e, street_of e, R.st i p _ h e⟩
def spNamed (K : Frag) (CT CS CH : Addr) : Sp := fun vs H Q _ => ∃ (T : Addr) (n : Int) (a : Su54.Abs) (b : Bool) (ls lh : Addr) (ss hs : List Addr), vs = [.ref T, .int n] /\ 0 <= n /\ TownR K CT CS CH H T a b ls lh ss hs /\
 (∀ (H' : Hp) (s : Nat), Same H H' -> a.named n.toNat = some s -> Q (.int s) H') /\ ∀ H' : Hp, Same H H' -> a.named n.toNat = none -> Q .non H'
def spUsed (K : Frag) (CT CS CH : Addr) : Sp := fun vs H Q _ => ∃ (T : Addr) (n : Int) (a : Su54.Abs) (b : Bool) (ls lh : Addr) (ss hs : List Addr), vs = [.ref T, .int n] /\ 0 <= n /\ TownR K CT CS CH H T a b ls lh ss hs /\
 ∀ H' : Hp, Same H H' -> Q (.bl (a.named n.toNat).isSome) H'
def spHosW (K : Frag) (CT CS CH TB : Addr) : Sp := fun vs H Q _ => ∃ (T : Addr) (s : Int) (a : Su54.Abs) (b : Bool) (ls lh : Addr) (ss hs : List Addr), vs = [.ref T, .int s] /\ TownR K CT CS CH H T a b ls lh ss hs /\ GoodO a /\ LT TB H /\ 0 <= s /\
 ∀ (H' : Hp) (D : Addr), Ext H H' -> LT TB H' -> H D = none -> H' D = some (.lst (refs hs (a.side s.toNat 0 ++ a.side s.toNat 1))) -> Q (.ref D) H'
def spHos (K : Frag) (CT CS CH TB : Addr) : Sp := fun vs H Q _ => ∃ (T : Addr) (s : Int) (a : Su54.Abs) (b : Bool) (ls lh : Addr) (ss hs : List Addr), vs = [.ref T, .int s] /\ TownR K CT CS CH H T a b ls lh ss hs /\ Good a /\ LT TB H /\ 0 <= s /\
 ∀ (H' : Hp) (D : Addr), Ext H H' -> LT TB H' -> H D = none -> H' D = some (.lst (refs hs (a.side s.toNat 0 ++ a.side s.toNat 1))) -> Q (.ref D) H'
def spInitS (CS : Addr) : Sp := fun vs H Q _ => ∃ (p dx : Addr) (n m : Int), vs = [.ref p, .int n, .int m] /\ H p = some (.ins CS dx []) /\ ∀ H' : Hp, H' p = some (.ins CS dx (sf n m false)) -> But p H H' -> (∀ b, b ≠ p -> H' b = none -> H b = none) -> Q .non H'
theorem refs_app (hs : List Addr) (l m : List Nat) : refs hs (l ++ m) = refs hs l ++ refs hs m := by unfold refs; rw [List.map_append, List.map_append]
section
variable {P : Program} {w : World} {K : Frag} {mg : Str -> Option Value} {base : Heap} {CT CS CH TB np : Addr}
abbrev sFindS : Stmt := top 24
theorem scFindS : FnScope ["town", "s"] ["town", "s"] (defScope sFindS) := scOf
theorem ok_findS (D : Def K mg "find_street" sFindS ["town", "s"]) (cl : Cl K CT CS CH) (g1 : mg "len" = none) : Ok P w K mg base 1 "find_street" ["town", "s"] (spFindS K CT CS CH) := by
 refine D.ok scFindS (fun vs H Q E h => ?_) fun f cdv A outer s0 H vs Q E hr h => ?_
 ·obtain ⟨T, s, a, b, ls, lh, ss, hs, rfl, _⟩ := h; rfl
 ·obtain ⟨T, s, a, b, ls, lh, ss, hs, rfl, h0, R, G, q1, q2⟩ := h
  refine ⟨_, pss_cons (ps_if (PW.pt (pw_and (pt_cmpR op_lt (pv 1) (pe_callB call_len rfl g1 PySem.boot_len (pa_cons (pe_fld (pv 0) rfl) pa_nil)) rfl) (pw_and1 (pt_not (pt_val (pe_fld (pe_ix ix_list (pe_fld (pv 0) rfl) (pv 1) (fun _ _ => rfl)) rfl))))))
    (pss_one (ps_ret (pe_ix ix_list (pe_fld (pv 0) rfl) (pv 1) (fun _ _ => rfl)))) pss_nil)
   (pss_one (ps_ret pe_non)), ?_⟩
  obtain ⟨dT, hT⟩ := R.tw
  have tn := cl.tn "streets" (by simp)
  refine ⟨_, rfl, _, rfl, T, CT, dT, _, _, rfl, hT, cl.t, tn, rfl, _, ss.length, rfl, .inl ⟨_, SqL.of R.ls, by rw [List.length_map]⟩, _, _, rfl, rfl, _, rfl, ?_⟩
  refine ite2 (fun c => ?_) fun c => ?_
  ·have c : s < (ss.length : Nat) := of_decide_eq_true c
   have hl : s.toNat < ss.length := by omega
   obtain ⟨p, hp⟩ : ∃ p, ss[s.toNat]? = some p := ⟨_, List.getElem?_eq_getElem hl⟩
   obtain ⟨x, ex, ex2, dx, n, m, h1, h2, h3⟩ := R.street hp
   have eh : s = ((s.toNat : Nat) : Int) := by omega
   have hpV : atI (ss.map V.ref) s = some (.ref p) := at_of eh (by rw [List.getElem?_map, hp]; rfl)
   have hI := isS_of ex
   refine ⟨_, rfl, T, CT, dT, _, _, rfl, hT, cl.t, tn, rfl, _, rfl, ls, _, _, _, rfl, rfl, SqL.of R.ls, hpV, p, CS, dx, _, _, rfl, h1, cl.s, cl.sn "gone" (by simp), rfl, _, rfl, ?_⟩
   refine ite2 (fun g => ?_) fun g => ?_
   ·exact ⟨_, rfl, T, CT, dT, _, _, rfl, hT, cl.t, tn, rfl, _, rfl, ls, _, _, _, rfl, rfl, SqL.of R.ls, hpV, q1 p x hp ex (by rw [hI]; exact g)⟩
   ·exact q2 (by rw [hI]; exact Bool.eq_false_iff.mpr g)
  ·have c : ¬ s < (ss.length : Nat) := fun z => c (decide_eq_true z)
   refine iteF (q2 ?_)
   unfold Su54.Abs.isS Su54.Abs.street
   rw [List.getD_eq_getElem?_getD, List.getElem?_eq_none (by rw [<- R.sl]; omega)]
   rfl
abbrev sNamed : Stmt := top 26
theorem scNamed : FnScope ["town", "n", "s", "street"] ["town", "n"] (defScope sNamed) := scOf
theorem ok_named (D : Def K mg "number_of_named" sNamed ["town", "n"]) (cl : Cl K CT CS CH) (g2 : mg "enumerate" = none) : Ok P w K mg base 1 "number_of_named" ["town", "n"] (spNamed K CT CS CH) := by
 refine D.ok scNamed (fun vs H Q E h => ?_) fun f cdv A outer s0 H vs Q E hr h => ?_
 ·obtain ⟨T, n, a, b, ls, lh, ss, hs, rfl, _⟩ := h; rfl
 ·obtain ⟨T, n, a, b, ls, lh, ss, hs, rfl, h0, R, q1, q2⟩ := h
  refine ⟨_, pss_cons (ps_for PassesOwn.never rfl (pi_enum rfl g2 (pa_cons (pe_fld (pv 0) rfl) pa_nil)) (pg_tup rfl (pgs_cons (pg_name (i := 2) scNamed.nd rfl (Or.inl rfl)) (pgs_cons (pg_name (i := 3) scNamed.nd rfl (Or.inl rfl)) pgs_nil)))
    (pss_one (ps_if (PW.pt (pw_and (pt_cmpR op_eq (pe_fld (pv 3) rfl) (pv 1) rfl) (pw_and1 (pt_not (pt_val (pe_fld (pv 3) rfl)))))) (pss_one (ps_ret (pv 2))) pss_nil)))
   (pss_one (ps_ret pe_non)), ?_⟩
  obtain ⟨dT, hT⟩ := R.tw
  refine ⟨_, rfl, T, CT, dT, _, _, rfl, hT, cl.t, cl.tn "streets" (by simp), rfl, ls, _, rfl, SqL.of R.ls, for_by (n := ss.length) (fun i σ H' => ∃ o2 o3, σ = [some (.ref T), some (.int n), o2, o3] /\ Same H H' /\ ∀ j, j < i -> ¬ (n.toNat ≠ 0 /\ (a.street j).name = n.toNat))
    ⟨none, none, rfl, fun _ _ e => e, fun j hj => by omega⟩ ?_ ?_ ?_ ?_⟩
  ·rintro i σ H' hi ⟨o2, o3, rfl, sm, _⟩
   exact ⟨_, _, SqL.of (sm _ _ R.ls), List.getElem?_eq_getElem (by rw [List.length_map]; exact hi)⟩
  ·rintro σ H' ⟨o2, o3, rfl, sm, _⟩
   exact ⟨_, SqL.of (sm _ _ R.ls), by rw [List.length_map]; exact Nat.le_refl _⟩
  ·rintro i σ H' x H'' hi ⟨o2, o3, rfl, sm, no⟩ ⟨Tu, y, rfl, hTu, rfl, hy⟩
   obtain ⟨p, hp⟩ : ∃ p, ss[i]? = some p := ⟨_, List.getElem?_eq_getElem hi⟩
   have ey : y = .ref p := by
    have := hy _ (SqL.of (sm _ _ R.ls))
    rw [List.getElem?_map, hp] at this
    exact (Option.some.inj this).symm
   subst ey
   have sm2 : Same H (upd H' Tu (.tup [.int (i : Nat), .ref p])) := fun b u e => Same.upd hTu b u (sm b u e)
   obtain ⟨x, ex, ex2, dx, nn, mm, h1, h2, h3⟩ := R.street hp
   have h1' := sm2 _ _ h1
   refine ⟨Tu, _, rfl, .inl (.inl upd_same), rfl, _, _, rfl, _, _, rfl, rfl, ?_⟩
   have nx : ∀ o2 o3, ¬ (n.toNat ≠ 0 /\ x.name = n.toNat) -> ∃ o2' o3', [some (V.ref T), some (.int n), o2, o3] = [some (V.ref T), some (.int n), o2', o3'] /\ Same H (upd H' Tu (.tup [.int (i : Nat), .ref p])) /\ ∀ j, j < i + 1 -> ¬ (n.toNat ≠ 0 /\ (a.street j).name = n.toNat) := fun o2 o3 z => ⟨o2, o3, rfl, sm2, fun j hj => by
    by_cases e : j = i
    ·rw [e, ex2]; exact z
    ·exact no j (by omega)⟩
   refine ⟨_, rfl, p, CS, dx, _, _, rfl, h1', cl.s, cl.sn "name" (by simp), rfl, _, rfl, rfl, _, rfl, ?_⟩
   refine ite2 (fun c => ?_) fun c => ?_
   ·have c : nn = n := by rw [dec_V] at c; exact of_decide_eq_true c
    refine ⟨_, rfl, p, CS, dx, _, _, rfl, h1', cl.s, cl.sn "gone" (by simp), rfl, _, rfl, ?_⟩
    refine ite2 (fun g => ?_) fun g => ?_
    ·have g : x.name ≠ 0 := by simpa using g
     have e1 := (h2 g).1
     refine ⟨_, rfl, q1 _ i sm2 ?_⟩
     unfold Su54.Abs.named
     rw [List.find?_range_eq_some]
     have en : x.name = n.toNat := by omega
     refine ⟨?_, List.mem_range.mpr (by rw [<- R.sl]; exact hi), fun j hj => ?_⟩
     ·rw [ex2, en]
      have : n.toNat ≠ 0 := by omega
      simp [this]
     ·have := no j hj
      rw [Bool.not_eq_true', Bool.and_eq_false_iff]
      by_cases z : n.toNat = 0
      ·exact .inl (by simp [z])
      ·exact .inr (by simpa using fun w => this ⟨z, w⟩)
    ·have g : x.name = 0 := by simpa using g
     exact nx _ _ (by omega)
   ·have c : ¬ nn = n := fun z => c (by rw [dec_V]; exact decide_eq_true z)
    refine iteF (nx _ _ fun z => ?_)
    have := h2 (by omega)
    omega
  ·rintro σ H' ⟨o2, o3, rfl, sm, no⟩
   refine q2 H' sm ?_
   unfold Su54.Abs.named
   rw [List.find?_range_eq_none]
   intro j hj
   have := no j (by rw [R.sl]; exact hj)
   rw [Bool.not_eq_true', Bool.and_eq_false_iff]
   by_cases z : n.toNat = 0
   ·exact .inl (by simp [z])
   ·exact .inr (by simpa using fun w => this ⟨z, w⟩)
abbrev sUsed : Stmt := top 27
theorem scUsed : FnScope ["town", "n"] ["town", "n"] (defScope sUsed) := scOf
theorem ok_used (D : Def K mg "is_name_used" sUsed ["town", "n"]) (o1 : Ok P w K mg base 1 "number_of_named" ["town", "n"] (spNamed K CT CS CH)) : Ok P w K mg base 2 "is_name_used" ["town", "n"] (spUsed K CT CS CH) := by
 refine D.ok scUsed (fun vs H Q E h => ?_) fun f cdv A outer s0 H vs Q E hr h => ?_
 ·obtain ⟨T, n, a, b, ls, lh, ss, hs, rfl, _⟩ := h; rfl
 ·obtain ⟨T, n, a, b, ls, lh, ss, hs, rfl, h0, R, q⟩ := h
  refine ⟨_, pss_one (ps_ret (pe_cmp (pc_notN (pe_ok o1 hr rfl (pa_cons (pv 0) (pa_cons (pv 1) pa_nil)))))), ?_⟩
  refine ⟨_, rfl, _, rfl, T, n, a, b, ls, lh, ss, hs, rfl, h0, R, fun H' s sm e => ?_, fun H' sm e => ?_⟩
  ·have := q H' sm
   rw [e] at this
   exact this
  ·have := q H' sm
   rw [e] at this
   exact this
abbrev sHos : Stmt := top 29
theorem scHos : FnScope ["town", "s"] ["town", "s"] (defScope sHos) := scOf
theorem ok_hosW (D : Def K mg "houses_of_street" sHos ["town", "s"]) (o2 : Ok P w K mg base 2 "houses_in_order" ["town", "s", "d"] (spOrdW K CT CS CH TB)) : Ok P w K mg base 3 "houses_of_street" ["town", "s"] (spHosW K CT CS CH TB) := by
 refine D.ok scHos (fun vs H Q E h => ?_) fun f cdv A outer s0 H vs Q E hr h => ?_
 ·obtain ⟨T, s, a, b, ls, lh, ss, hs, rfl, _⟩ := h; rfl
 ·obtain ⟨T, s, a, b, ls, lh, ss, hs, rfl, R, G, lt, h0, q⟩ := h
  refine ⟨_, pss_one (ps_ret (pe_op op_cat (pe_ok o2 hr rfl (pa_cons (pv 0) (pa_cons (pv 1) (pa_cons pe_int pa_nil)))) (pe_ok o2 hr rfl (pa_cons (pv 0) (pa_cons (pv 1) (pa_cons pe_int pa_nil)))))), ?_⟩
  refine ⟨_, rfl, _, rfl, T, s, 0, a, b, ls, lh, ss, hs, rfl, R, G, lt, h0, by decide, fun H1 D1 X1 lt1 nD1 hD1 => ?_⟩
  refine ⟨_, rfl, _, rfl, T, s, 1, a, b, ls, lh, ss, hs, rfl, R.ext X1, G, lt1, h0, by decide, fun H2 D2 X2 lt2 nD2 hD2 => ?_⟩
  have hD1' := X2.1 _ _ hD1 (fun _ z => by cases z)
  have l1 := side_leO a G s.toNat 0
  have l2 := side_leO a G s.toNat 1
  refine ⟨D1, D2, _, _, rfl, rfl, hD1', hD2, ?_, fun p hp => ?_⟩
  ·rw [refs_len, refs_len]
   exact Nat.le_of_lt (small40 (show (a.side s.toNat 0).length + (a.side s.toNat 1).length <= 40 by omega))
  ·have X3 := (X1.trans X2).trans (Ext.upd (o := .lst (refs hs (a.side s.toNat 0) ++ refs hs (a.side s.toNat 1))) hp)
   exact q _ p X3 (lt2.upd hp) ((X1.trans X2).2 _ hp) (by rw [refs_app]; exact upd_same)
theorem ok_hos (D : Def K mg "houses_of_street" sHos ["town", "s"]) (o2 : Ok P w K mg base 2 "houses_in_order" ["town", "s", "d"] (spOrdW K CT CS CH TB)) : Ok P w K mg base 3 "houses_of_street" ["town", "s"] (spHos K CT CS CH TB) :=
 (ok_hosW D o2).imp fun vs H Q E ⟨T, s, a, b, ls, lh, ss, hs, e, R, G, r⟩ => ⟨T, s, a, b, ls, lh, ss, hs, e, R, G.o, r⟩
abbrev sInitS : Stmt := inClass (top 22) 0
theorem scInitS : FnScope ["self", "name", "metres"] ["self", "name", "metres"] (defScope sInitS) := scOf
theorem ok_initS {f : Addr} {fd : FuncData} (F : Fun K "__init__" "Street.__init__" sInitS f fd) (cl : Cl K CT CS CH) : FnOk P w K mg base CX0 1 f fd ["self", "name", "metres"] (spInitS CS) := by
 refine F.ok scInitS (fun vs H Q E h => ?_) (fun cdv A outer s0 H vs Q E hr h => ?_)
 ·obtain ⟨p, dx, n, m, rfl, _⟩ := h
  rfl
 ·obtain ⟨p, dx, n, m, rfl, hp, k⟩ := h
  refine ⟨_, pss_cons (ps_fld (pv 0) (pv 1) rfl) (pss_cons (ps_fld (pv 0) (pv 2) rfl) (pss_one (ps_fld (pv 0) pe_bl rfl))), ?_⟩
  refine ⟨_, rfl, _, rfl, p, CS, dx, [], rfl, hp, cl.s, cl.sn "name" (by simp), (by show 0 < 1000; decide), ?_⟩
  refine ⟨_, rfl, _, rfl, p, CS, dx, _, rfl, upd_same, cl.s, cl.sn "metres" (by simp), (by show 1 < 1000; decide), ?_⟩
  refine ⟨_, rfl, p, CS, dx, _, rfl, upd_same, cl.s, cl.sn "gone" (by simp), (by show 2 < 1000; decide), ?_⟩
  refine k _ upd_same (fun b u e hb => ?_) (fun b hb e => ?_)
  ·rw [upd_ne hb, upd_ne hb, upd_ne hb]; exact e
  ·rw [upd_ne hb, upd_ne hb, upd_ne hb] at e; exact e
end
theorem paired_snoc {α β : Type} {r : α -> β -> Prop} {x : α} {y : β} (h : r x y) : ∀ {l : List α} {m : List β}, Paired r l m -> Paired r (l ++ [x]) (m ++ [y])
 | _, _, .nil => .cons h .nil
 | _, _, .cons a t => .cons a (paired_snoc h t)
theorem paired_len {α β : Type} {r : α -> β -> Prop} : ∀ {l : List α} {m : List β}, Paired r l m -> l.length = m.length
 | _, _, .nil => rfl
 | _, _, .cons _ t => by rw [List.length_cons, List.length_cons, paired_len t]
theorem paired_map {α β : Type} {f : α -> β} : ∀ {l : List α} {m : List β}, Paired (fun x y => y = f x) l m -> m = l.map f
 | _, _, .nil => rfl
 | _, _, .cons a t => by rw [a, paired_map t, List.map_cons]
theorem paired_tups {K : Frag} {H : Hp} {a : Su54.Abs} : ∀ {l : List Nat} {m : List V}, Paired (fun j v => ∃ pl, v = .ref pl /\ SqT K H pl ((plOf a j).map V.int)) l m -> ∃ ps, m = ps.map V.ref /\ TupsAt K H ps (l.map (plOf a))
 | _, _, .nil => ⟨[], rfl, .nil⟩
 | _, _, .cons ⟨pl, e, h⟩ t => by
  obtain ⟨ps, e2, h2⟩ := paired_tups t
  exact ⟨pl :: ps, by rw [e, e2, List.map_cons], .cons ⟨h, by show 2 <= 8; decide⟩ h2⟩
abbrev hfOf (a : Su54.Abs) (j : Nat) (pl : Addr) : List (Str × V) := hf j ((a.house j).street : Int) ((a.house j).side : Int) ((a.house j).at_ : Int) pl true
theorem TownR.alive {K : Frag} {CT CS CH : Addr} {H : Hp} {T : Addr} {a : Su54.Abs} {b : Bool} {ls lh : Addr} {ss hs : List Addr} (R : TownR K CT CS CH H T a b ls lh ss hs) {j : Nat} (h1 : j < a.houses.length) (h2 : (a.house j).gone = false) : ∃ pj dx pl, hs[j]? = some pj /\ H pj = some (.ins CH dx (hfOf a j pl)) /\ SqT K H pl ((plOf a j).map V.int) := by
 have hjl : j < hs.length := by rw [R.hl]; exact h1
 obtain ⟨pj, hpj⟩ : ∃ pj, hs[j]? = some pj := ⟨_, List.getElem?_eq_getElem hjl⟩
 obtain ⟨y, ey, ey2, dy, ply, sty, sdy, aty, k1, k2⟩ := R.house hpj
 rw [ey2] at h2
 obtain ⟨f1, f2, f3, f4⟩ := k2 h2
 refine ⟨pj, dy, ply, hpj, ?_, ?_⟩
 ·rw [k1, f1, f2, f3, h2, <- ey2]; rfl
 ·unfold plOf; rw [ey2]; exact f4
section
variable {K : Frag} {CT CS CH : Addr} {T ls lh D F : Addr} {a : Su54.Abs} {b : Bool} {ss hs : List Addr} {H1 : Hp} {g : TG} {tt : TT} {te : TE} {vs : List Nat} {σ : L2.St} {Qd : Hp -> Prop}
theorem lc_houses (R : TownR K CT CS CH H1 T a b ls lh ss hs) {L : List Nat} (hL : ∀ j ∈ L, j < a.houses.length /\ (a.house j).gone = false) (h40 : L.length <= 40) (hD : H1 D = some (.lst (refs hs L))) (hF : H1 F = none) (p : Nat -> Bool) (Vl : Nat -> V -> Prop)
  (step : ∀ (j : Nat) (pj dx pl : Addr) (H' : Hp), j ∈ L -> hs[j]? = some pj -> H' pj = some (.ins CH dx (hfOf a j pl)) -> SqT K H1 pl ((plOf a j).map V.int) -> SqT K H' pl ((plOf a j).map V.int) -> Ext H1 H' -> ∀ (Z : V -> Hp -> Prop) (N : Hp -> Prop), (p j = true -> ∀ v, Vl j v -> Z v H') -> (p j = false -> N H') ->
   g (.ref pj) (wipe σ vs) H' fun σ2 H2 => wipe σ2 vs = wipe σ vs /\ tt σ2 H2 fun b H3 => if b = true then te σ2 H3 Z else N H3)
  (hd : ∀ ys, Paired Vl (L.filter p) ys -> Qd (upd H1 F (.lst ys))) :
  ∃ W : Nat -> Nat -> Hp -> Prop, (∃ m, W 0 m (upd H1 F (.lst []))) /\ ∀ i m H, W i m H ->
   ((Itl K D).stop i H /\ Qd H) ∨ ((Itl K D).go i H /\ ∃ Nx : Hp -> Prop, (∀ H', Nx H' -> ∃ m', m' < m /\ W (i + 1) m' H') /\ ∀ x H', (Itl K D).yld i H x H' -> g x (wipe σ vs) H' fun σ2 H2 => wipe σ2 vs = wipe σ vs /\ tt σ2 H2 fun b H3 =>
    if b = true then te σ2 H3 fun y H4 => ∃ acc, H4 F = some (.lst acc) /\ acc.length < sizeLine /\ Nx (upd H4 F (.lst (acc ++ [y]))) else Nx H3) := by
 refine lc_list (xs := refs hs L) (fun i H' => ∃ ys, H' = upd H1 F (.lst ys) /\ Paired Vl ((L.take i).filter p) ys) ⟨[], rfl, .nil⟩ (fun i H' _ e => ?_) (fun i y H' hi e => ?_) fun H' e => ?_
 ·obtain ⟨ps, e, _⟩ := e
  rw [e]
  exact (Ext.upd hF).seqL (SqL.of hD)
 ·obtain ⟨ys, rfl, hys⟩ := e
  obtain ⟨j, hj, rfl⟩ := refs_get hi
  have mj := List.mem_of_getElem? hj
  obtain ⟨pj, dx, pl, hpj, h1, h2⟩ := R.alive (hL j mj).1 (hL j mj).2
  rw [getD_at hpj]
  have XF := Ext.upd (o := .lst ys) hF
  refine step j pj dx pl _ mj hpj (XF.1 _ _ h1 (fun _ z => by cases z)) h2 (XF.seqT h2) XF _ _ (fun c v hv => ?_) fun c => ?_
  ·refine ⟨ys, upd_same, ?_, ys ++ [v], by rw [upd_upd], ?_⟩
   ·rw [<- paired_len hys]
    have l1 := List.length_filter_le p (L.take i)
    rw [List.length_take] at l1
    have := (List.getElem?_eq_some_iff.mp hj).1
    exact small40 (by omega)
   ·rw [take_filter_snoc hj, if_pos c]
    exact paired_snoc hv hys
  ·refine ⟨ys, rfl, ?_⟩
   rw [take_filter_snoc hj, if_neg (by rw [c]; decide)]
   exact hys
 ·obtain ⟨ys, rfl, hys⟩ := e
  rw [refs_len, List.take_length] at hys
  exact hd ys hys
end
theorem hos_alive {a : Su54.Abs} {s : Nat} : ∀ j ∈ a.side s 0 ++ a.side s 1, j < a.houses.length /\ (a.house j).gone = false := fun j hj => by
 rcases List.mem_append.mp hj with z | z
 ·exact ⟨(mem_side.mp z).1, (mem_side.mp z).2.1⟩
 ·exact ⟨(mem_side.mp z).1, (mem_side.mp z).2.1⟩
theorem side_alive {a : Su54.Abs} {s d : Nat} : ∀ j ∈ a.side s d, j < a.houses.length /\ (a.house j).gone = false := fun j z => ⟨(mem_side.mp z).1, (mem_side.mp z).2.1⟩
theorem hos_len {a : Su54.Abs} (G : Good a) (s : Nat) : (a.side s 0 ++ a.side s 1).length <= 40 := by
 rw [List.length_append]
 have := side_le a G s 0
 have := side_le a G s 1
 omega
theorem plOf_zero (a : Su54.Abs) (j : Nat) : decide (plOf a j = [0, 0]) = ((a.house j).plate == 0) := by
 rw [Bool.eq_iff_iff, decide_eq_true_iff, beq_iff_eq, <- numOf_zero]
 unfold plOf
 simp
theorem hos_odd (a : Su54.Abs) (s : Nat) : (a.side s 0 ++ a.side s 1).filter (fun j => (a.house j).side == 0) = a.side s 0 := by
 rw [List.filter_append, List.filter_eq_self.mpr fun j hj => by simp [(mem_side.mp hj).2.2.2], List.filter_eq_nil_iff.mpr fun j hj => by simp [(mem_side.mp hj).2.2.2], List.append_nil]
theorem hos_plated (a : Su54.Abs) (s : Nat) : (a.side s 0 ++ a.side s 1).filter (fun j => (a.house j).plate != 0) = a.plated s 0 ++ a.plated s 1 := by
 rw [List.filter_append]; rfl
section
variable {P : Program} {w : World} {K : Frag} {mg : Str -> Option Value} {base : Heap} {CT CS CH TB np : Addr}
abbrev sCount : Stmt := top 76
abbrev cCount : List Nat -> Su54.Call := fun l => .count (l.getD 0 0)
theorem scCount : FnScope ["town", "s", "there", "odd", "plated", "house"] ["town", "s"] (defScope sCount) := scOf
theorem ok_count (D : Def K mg "count_houses" sCount ["town", "s"]) (cl : Cl K CT CS CH) (gn : NoP K mg np) (g1 : mg "len" = none) (n1 : Num mg "NO_SUCH" (-2)) (o1 : Ok P w K mg base 1 "find_street" ["town", "s"] (spFindS K CT CS CH)) (o2 : Ok P w K mg base 3 "houses_of_street" ["town", "s"] (spHos K CT CS CH TB)) : Ok P w K mg base 4 "count_houses" ["town", "s"] (spDo K CT CS CH TB 1 cCount) := by
 refine D.ok scCount spDo_len fun f cdv A outer s0 H vs Q E hr h => ?_
 ·obtain ⟨T, xs, a, ls, lh, ss, hs, rfl, hl, hx, R, G, lt, q⟩ := h
  obtain ⟨s, rfl⟩ := one_of hl
  have hs0 := (hx s (by simp)).1
  have q : Want K CT CS CH TB T ls lh H a (.count s.toNat) Q := q
  have hr1 := hr.mono (show 1 <= 3 by decide)
  have hu := hr.units
  refine ⟨_, pss_cons (ps_if (pt_cmp (pc_isN (pe_ok o1 hr1 rfl (pa_cons (pv 0) (pa_cons (pv 1) pa_nil))))) (pss_one (ps_ret (pe_lst (pa_cons (pe_num n1 rfl) pa_nil)))) pss_nil)
   (pss_cons (ps_set (i := 2) scCount.nd rfl (Or.inl rfl) (pe_ok o2 hr rfl (pa_cons (pv 0) (pa_cons (pv 1) pa_nil))))
   (pss_cons (ps_setLc (i := 3) (own := [("house", 5)]) rfl scCount.nd rfl rfl (sw_true rfl rfl rfl rfl) (pi_list (pv 2)) (blkOk_by rfl) (fun s H C cl fp => by exact pg_name (i := 5) scCount.nd rfl (Or.inl rfl))
     (fun s H C cl fp => by exact pts_one (pt_cmpR op_eq (pe_fldK K rfl (pv 5) rfl) pe_int rfl)) (fun s H C cl fp => by exact pv 5))
   (pss_cons (ps_setLc (i := 4) (own := [("house", 5)]) rfl scCount.nd rfl rfl (sw_true rfl rfl rfl rfl) (pi_list (pv 2)) (blkOk_by rfl) (fun s H C cl fp => by exact pg_name (i := 5) scCount.nd rfl (Or.inl rfl))
     (fun s H C cl fp => by exact pts_one (pt_cmpR (op_neTK K rfl hu) (pe_fldK K rfl (pv 5) rfl) (pe_glob (v := .ref np) rfl gn.1 rfl) rfl)) (fun s H C cl fp => by exact pv 5))
   (pss_one (ps_ret (pe_lst (pa_cons (pe_callB call_len rfl g1 PySem.boot_len (pa_cons (pv 2) pa_nil)) (pa_cons (pe_callB call_len rfl g1 PySem.boot_len (pa_cons (pv 3) pa_nil)) (pa_cons (pe_op op_sub (pe_callB call_len rfl g1 PySem.boot_len (pa_cons (pv 2) pa_nil)) (pe_callB call_len rfl g1 PySem.boot_len (pa_cons (pv 3) pa_nil))) (pa_cons (pe_callB call_len rfl g1 PySem.boot_len (pa_cons (pv 4) pa_nil)) pa_nil)))))))))), ?_⟩
  refine ⟨_, rfl, _, rfl, T, s, a, true, ls, lh, ss, hs, rfl, hs0, R, G, fun p x hp ex hI => ⟨_, rfl, iteF ?_⟩, fun hI => ⟨_, rfl, iteT ?_⟩⟩
  ·refine ⟨_, rfl, _, rfl, T, s, a, true, ls, lh, ss, hs, rfl, R, G, lt, hs0, fun H1 D1 X1 lt1 nD1 hD1 => ?_⟩
   have R1 := R.ext X1
   refine ⟨_, rfl, D1, rfl, ⟨_, SqL.of hD1⟩, fun F hF => ?_⟩
   refine lc_houses R1 hos_alive (hos_len G _) hD1 hF (fun j => (a.house j).side == 0) (fun j v => v = .ref (hs.getD j 0)) (fun j pj dx pl H' mj hpj h1 h2 h3 X' Z N hz hn => ?_) fun ys hys => ?_
   ·refine ⟨rfl, _, rfl, pj, CH, dx, _, _, rfl, h1, cl.h, cl.hn "side" (by simp), rfl, rfl, _, rfl, ?_⟩
    have ec : decide (V.int ((a.house j).side : Int) = V.int 0) = ((a.house j).side == 0) := by
     rw [dec_V, Bool.eq_iff_iff, decide_eq_true_iff, beq_iff_eq]
     omega
    refine ite2 (fun c => ⟨_, rfl, hz (by rw [<- ec]; exact c) _ (by rw [getD_at hpj])⟩) fun c => hn (by rw [<- ec]; exact Bool.eq_false_iff.mpr c)
   have eys := paired_map hys
   subst eys
   rw [hos_odd]
   have XF := Ext.upd (o := .lst ((a.side s.toNat 0).map fun j => V.ref (hs.getD j 0))) hF
   have X2 := X1.trans XF
   have hD2 := XF.1 _ _ hD1 (fun _ z => by cases z)
   have hF2 : (upd H1 F (.lst ((a.side s.toNat 0).map fun j => V.ref (hs.getD j 0)))) F = some (.lst ((a.side s.toNat 0).map fun j => V.ref (hs.getD j 0))) := upd_same
   have lt2 : LT TB (upd H1 F (.lst ((a.side s.toNat 0).map fun j => V.ref (hs.getD j 0)))) := lt1.upd hF
   generalize hH2 : upd H1 F (.lst ((a.side s.toNat 0).map fun j => V.ref (hs.getD j 0))) = H2 at *
   refine ⟨_, rfl, D1, rfl, ⟨_, SqL.of hD2⟩, fun F' hF' => ?_⟩
   refine lc_houses (R.ext X2) hos_alive (hos_len G _) hD2 hF' (fun j => (a.house j).plate != 0) (fun j v => v = .ref (hs.getD j 0)) (fun j pj dx pl H' mj hpj h1 h2 h3 X' Z N hz hn => ?_) fun ys hys => ?_
   ·refine ⟨rfl, _, rfl, pj, CH, dx, _, _, rfl, h1, cl.h, cl.hn "plate" (by simp), rfl, pl, np, plOf a j, [0, 0], rfl, rfl, h3, gn.2 _, sz8, sz8, _, rfl, ?_⟩
    have ec : (!decide (plOf a j = [0, 0])) = ((a.house j).plate != 0) := by rw [plOf_zero]; rfl
    refine ite2 (fun c => ⟨_, rfl, hz (by rw [<- ec]; exact c) _ (by rw [getD_at hpj])⟩) fun c => hn (by rw [<- ec]; exact Bool.eq_false_iff.mpr c)
   have eys := paired_map hys
   subst eys
   rw [hos_plated]
   have XG := Ext.upd (o := .lst ((a.plated s.toNat 0 ++ a.plated s.toNat 1).map fun j => V.ref (hs.getD j 0))) hF'
   have hD3 := XG.1 _ _ hD2 (fun _ z => by cases z)
   have hF3 := XG.1 _ _ hF2 (fun _ z => by cases z)
   have L1 : LenV K (.ref D1) (upd H2 F' (.lst ((a.plated s.toNat 0 ++ a.plated s.toNat 1).map fun j => V.ref (hs.getD j 0)))) ((a.side s.toNat 0).length + (a.side s.toNat 1).length) := .inl ⟨_, SqL.of hD3, by rw [refs_len, List.length_append]⟩
   have L2' : LenV K (.ref F) (upd H2 F' (.lst ((a.plated s.toNat 0 ++ a.plated s.toNat 1).map fun j => V.ref (hs.getD j 0)))) (a.side s.toNat 0).length := .inl ⟨_, SqL.of hF3, by rw [List.length_map]⟩
   have L3 : LenV K (.ref F') (upd H2 F' (.lst ((a.plated s.toNat 0 ++ a.plated s.toNat 1).map fun j => V.ref (hs.getD j 0)))) ((a.plated s.toNat 0).length + (a.plated s.toNat 1).length) := .inl ⟨_, SqL.of upd_same, by rw [List.length_map, List.length_append]⟩
   refine ⟨_, rfl, _, _, rfl, L1, _, rfl, _, _, rfl, L2', _, rfl, _, _, rfl, L1, _, rfl, _, _, rfl, L2', _, _, rfl, rfl, _, rfl, _, _, rfl, L3, (by show 4 <= sizeLine; decide), fun D' hD' => ?_⟩
   have := q.keep R (X2.trans XG) (lt2.upd hF') (v := ((a.side s.toNat 0).length + (a.side s.toNat 1).length : Nat)) (out := [(a.side s.toNat 0).length, (a.side s.toNat 1).length, (a.plated s.toNat 0).length + (a.plated s.toNat 1).length]) (by
    dsimp only [Su54.does]
    rw [if_neg (by rw [hI]; decide)]
    rfl) D' hD'
   have ez : (((a.side s.toNat 0).length + (a.side s.toNat 1).length : Nat) : Int) - ((a.side s.toNat 0).length : Nat) = ((a.side s.toNat 1).length : Nat) := by omega
   dsimp only; rw [ez]
   exact this
  ·refine ⟨sz1, fun D' hD' => q.no R (Ext.refl H) lt ?_ D' hD'⟩
   dsimp only [Su54.does]
   rw [if_pos hI]
abbrev sBare : Stmt := top 80
abbrev cBare : List Nat -> Su54.Call := fun l => .bare (l.getD 0 0)
theorem scBare : FnScope ["town", "s", "without", "house"] ["town", "s"] (defScope sBare) := scOf
theorem ok_bare (D : Def K mg "list_bare" sBare ["town", "s"]) (cl : Cl K CT CS CH) (gn : NoP K mg np) (g1 : mg "len" = none) (n1 : Num mg "NO_SUCH" (-2)) (o1 : Ok P w K mg base 1 "find_street" ["town", "s"] (spFindS K CT CS CH)) (o2 : Ok P w K mg base 3 "houses_of_street" ["town", "s"] (spHos K CT CS CH TB)) : Ok P w K mg base 4 "list_bare" ["town", "s"] (spDo K CT CS CH TB 1 cBare) := by
 refine D.ok scBare spDo_len fun f cdv A outer s0 H vs Q E hr h => ?_
 ·obtain ⟨T, xs, a, ls, lh, ss, hs, rfl, hl, hx, R, G, lt, q⟩ := h
  obtain ⟨s, rfl⟩ := one_of hl
  have hs0 := (hx s (by simp)).1
  have q : Want K CT CS CH TB T ls lh H a (.bare s.toNat) Q := q
  have hr1 := hr.mono (show 1 <= 3 by decide)
  have hu := hr.units
  refine ⟨_, pss_cons (ps_if (pt_cmp (pc_isN (pe_ok o1 hr1 rfl (pa_cons (pv 0) (pa_cons (pv 1) pa_nil))))) (pss_one (ps_ret (pe_lst (pa_cons (pe_num n1 rfl) pa_nil)))) pss_nil)
   (pss_cons (ps_setLc (i := 2) (own := [("house", 3)]) rfl scBare.nd rfl rfl (sw_true rfl rfl rfl rfl) (pi_list (pe_ok o2 hr rfl (pa_cons (pv 0) (pa_cons (pv 1) pa_nil)))) (blkOk_by rfl) (fun s H C cl fp => by exact pg_name (i := 3) scBare.nd rfl (Or.inl rfl))
     (fun s H C cl fp => by exact pts_one (pt_cmpR (op_eqTK K rfl hu) (pe_fldK K rfl (pv 3) rfl) (pe_glob (v := .ref np) rfl gn.1 rfl) rfl)) (fun s H C cl fp => by exact pe_fldK K rfl (pv 3) rfl))
   (pss_one (ps_ret (pe_op op_cat (pe_lst (pa_cons (pe_callB call_len rfl g1 PySem.boot_len (pa_cons (pv 2) pa_nil)) pa_nil)) (pv 2))))), ?_⟩
  refine ⟨_, rfl, _, rfl, T, s, a, true, ls, lh, ss, hs, rfl, hs0, R, G, fun p x hp ex hI => ⟨_, rfl, iteF ?_⟩, fun hI => ⟨_, rfl, iteT ?_⟩⟩
  ·refine ⟨_, rfl, _, rfl, T, s, a, true, ls, lh, ss, hs, rfl, R, G, lt, hs0, fun H1 D1 X1 lt1 nD1 hD1 => ?_⟩
   have R1 := R.ext X1
   refine ⟨D1, rfl, ⟨_, SqL.of hD1⟩, fun F hF => ?_⟩
   refine lc_houses R1 hos_alive (hos_len G _) hD1 hF (fun j => (a.house j).plate == 0) (fun j v => v = .int (j : Nat)) (fun j pj dx pl H' mj hpj h1 h2 h3 X' Z N hz hn => ?_) fun ys hys => ?_
   ·refine ⟨rfl, _, rfl, pj, CH, dx, _, _, rfl, h1, cl.h, cl.hn "plate" (by simp), rfl, pl, np, plOf a j, [0, 0], rfl, rfl, h3, gn.2 _, sz8, sz8, _, rfl, ?_⟩
    have ec : (decide (plOf a j = [0, 0])) = ((a.house j).plate == 0) := plOf_zero a j
    refine ite2 (fun c => ⟨_, rfl, pj, CH, dx, _, _, rfl, h1, cl.h, cl.hn "serial" (by simp), rfl, hz (by rw [<- ec]; exact c) _ rfl⟩) fun c => hn (by rw [<- ec]; exact Bool.eq_false_iff.mpr c)
   have eys := paired_map hys
   subst eys
   have hlen : ((a.side s.toNat 0 ++ a.side s.toNat 1).filter fun j => (a.house j).plate == 0).length <= 40 := Nat.le_trans (List.length_filter_le _ _) (hos_len G _)
   generalize hL : ((a.side s.toNat 0 ++ a.side s.toNat 1).filter fun j => (a.house j).plate == 0) = L at hlen ⊢
   have XF := Ext.upd (o := .lst (L.map fun j => V.int (j : Nat))) hF
   refine ⟨_, rfl, _, L.length, rfl, .inl ⟨_, SqL.of upd_same, by rw [List.length_map]⟩, sz1, fun D2 hD2 => ?_⟩
   have XG := Ext.upd (o := .lst [V.int (L.length : Nat)]) hD2
   have hF2 := XG.1 _ _ (show (upd H1 F (.lst (L.map fun j => V.int (j : Nat)))) F = some (.lst (L.map fun j => V.int (j : Nat))) from upd_same) (fun _ z => by cases z)
   refine ⟨_, rfl, D2, F, _, _, rfl, rfl, upd_same, hF2, ?_, fun D' hD' => ?_⟩
   ·rw [List.length_map]
    show 1 + L.length <= sizeLine
    exact Nat.le_of_lt (Nat.lt_of_le_of_lt (show 1 + L.length <= 41 by omega) (by decide))
   have := q.keep R ((X1.trans XF).trans XG) ((lt1.upd hF).upd hD2) (v := (L.length : Nat)) (out := L) (by
    dsimp only [Su54.does]
    rw [if_neg (by rw [hI]; decide), hL]
    rfl) D' hD'
   have e3 : ((L.length : Int) :: Su54Neutral.outs L).map V.int = [V.int (L.length : Nat)] ++ L.map fun j => V.int (j : Nat) := by
    unfold Su54Neutral.outs
    rw [List.map_cons, List.map_map]
    rfl
   rw [e3] at this
   exact this
  ·refine ⟨sz1, fun D' hD' => q.no R (Ext.refl H) lt ?_ D' hD'⟩
   dsimp only [Su54.does]
   rw [if_pos hI]
abbrev sLook : Stmt := top 79
abbrev cLook : List Nat -> Su54.Call := fun l => .look (l.getD 0 0)
theorem scLook : FnScope ["town", "h", "house"] ["town", "h"] (defScope sLook) := scOf
theorem ok_look (D : Def K mg "look_at" sLook ["town", "h"]) (cl : Cl K CT CS CH) (n1 : Num mg "NO_SUCH" (-2)) (o1 : Ok P w K mg base 1 "find_house" ["town", "h"] (spFindH K CT CS CH)) : Ok P w K mg base 2 "look_at" ["town", "h"] (spDo K CT CS CH TB 1 cLook) := by
 refine D.ok scLook spDo_len fun f cdv A outer s0 H vs Q E hr h => ?_
 ·obtain ⟨T, xs, a, ls, lh, ss, hs, rfl, hl, hx, R, G, lt, q⟩ := h
  obtain ⟨h, rfl⟩ := one_of hl
  have h0 := (hx h (by simp)).1
  have q : Want K CT CS CH TB T ls lh H a (.look h.toNat) Q := q
  refine ⟨_, pss_cons (ps_set (i := 2) scLook.nd rfl (Or.inl rfl) (pe_ok o1 hr rfl (pa_cons (pv 0) (pa_cons (pv 1) pa_nil))))
   (pss_cons (ps_if (pt_cmp (pc_isN (pv 2))) (pss_one (ps_ret (pe_lst (pa_cons (pe_num n1 rfl) pa_nil)))) pss_nil)
   (pss_one (ps_ret (pe_lst (pa_cons (pe_fld (pv 2) rfl) (pa_cons (pe_fld (pv 2) rfl) (pa_cons (pe_fld (pv 2) rfl) (pa_cons (pe_ix ix_tup (pe_fld (pv 2) rfl) pe_int (fun _ _ => rfl)) (pa_cons (pe_ix ix_tup (pe_fld (pv 2) rfl) pe_int (fun _ _ => rfl)) pa_nil))))))))), ?_⟩
  refine ⟨_, rfl, _, rfl, T, h, a, true, ls, lh, ss, hs, rfl, h0, R, fun p x hp ex g hI => ?_, fun hI => ?_⟩
  ·obtain ⟨x', ex', ex2, dx, pl, st, sd, at_, h1, h2⟩ := R.house hp
   rw [ex] at ex'
   cases ex'
   obtain ⟨e1, e2, e3, e4⟩ := h2 g
   have fl : ∀ f ∈ (["serial", "street", "side", "metre", "plate", "stands"] : List Str), NoAttr K CH f := cl.hn
   refine ⟨_, rfl, _, rfl, iteF ?_⟩
   refine ⟨_, rfl, p, CH, dx, _, _, rfl, h1, cl.h, fl "street" (by simp), rfl, _, rfl, p, CH, dx, _, _, rfl, h1, cl.h, fl "side" (by simp), rfl, _, rfl, p, CH, dx, _, _, rfl, h1, cl.h, fl "metre" (by simp), rfl, _, rfl, p, CH, dx, _, _, rfl, h1, cl.h, fl "plate" (by simp), rfl, pl, _, _, _, rfl, rfl, e4, rfl, _, rfl, p, CH, dx, _, _, rfl, h1, cl.h, fl "plate" (by simp), rfl, pl, _, _, _, rfl, rfl, e4, rfl, (by show 5 <= sizeLine; decide), fun D' hD' => ?_⟩
   have := q.keep R (Ext.refl H) lt (v := (x.street : Nat)) (out := [x.side, x.at_] ++ Su54.told x) (by
    dsimp only [Su54.does]
    rw [if_neg (by rw [hI]; decide), ex2]
    rfl) D' hD'
   have e5 : ((x.street : Int) :: Su54Neutral.outs ([x.side, x.at_] ++ Su54.told x)).map V.int = [V.int st, V.int sd, V.int at_, V.int (numOf x), V.int (letOf x)] := by
    have := told_eq x
    unfold Su54Neutral.outs
    rw [List.map_append, this, e1, e2, e3]
    rfl
   rw [e5] at this
   exact this
  ·refine ⟨_, rfl, _, rfl, iteT ?_⟩
   refine ⟨sz1, fun D' hD' => q.no R (Ext.refl H) lt ?_ D' hD'⟩
   dsimp only [Su54.does]
   rw [if_pos hI]
end
section
variable {P : Program} {w : World} {K : Frag} {mg : Str -> Option Value} {base : Heap} {CT CS CH TB np : Addr}
abbrev sState : Stmt := top 81
abbrev cState : List Nat -> Su54.Call := fun _ => .state
theorem scState : FnScope ["town", "standing", "house"] ["town"] (defScope sState) := scOf
theorem hs_upto (a : Su54.Abs) (i : Nat) : ((List.range (i + 1)).filter a.isH) = if a.isH i = true then (List.range i).filter a.isH ++ [i] else (List.range i).filter a.isH := by
 rw [List.range_succ, List.filter_append, List.filter_cons, List.filter_nil]
 split
 ·rfl
 ·exact List.append_nil _
theorem nil_of {xs : List Int} (h : xs.length = 0) : xs = [] := List.length_eq_zero_iff.mp h
theorem ok_state (D : Def K mg "tell_state" sState ["town"]) (cl : Cl K CT CS CH) (g1 : mg "len" = none) : Ok P w K mg base 1 "tell_state" ["town"] (spDo K CT CS CH TB 0 cState) := by
 refine D.ok scState spDo_len fun f cdv A outer s0 H vs Q E hr h => ?_
 ·obtain ⟨T, xs, a, ls, lh, ss, hs, rfl, hl, hx, R, G, lt, q⟩ := h
  have := nil_of hl
  subst this
  have q : Want K CT CS CH TB T ls lh H a .state Q := q
  refine ⟨_, pss_cons (ps_setLc (i := 1) (own := [("house", 2)]) rfl scState.nd rfl rfl (sw_true rfl rfl rfl rfl) (pi_list (pe_fld (pv 0) rfl)) (blkOk_by rfl) (fun s H C cl fp => by exact pg_name (i := 2) scState.nd rfl (Or.inl rfl))
     (fun s H C cl fp => by exact pts_one (pt_val (pe_fldK K rfl (pv 2) rfl))) (fun s H C cl fp => by exact pv 2))
   (pss_one (ps_ret (pe_lst (pa_cons (pe_callB call_len rfl g1 PySem.boot_len (pa_cons (pe_fld (pv 0) rfl) pa_nil)) (pa_cons (pe_callB call_len rfl g1 PySem.boot_len (pa_cons (pe_fld (pv 0) rfl) pa_nil)) (pa_cons (pe_callB call_len rfl g1 PySem.boot_len (pa_cons (pv 1) pa_nil)) pa_nil)))))), ?_⟩
  obtain ⟨dT, hT⟩ := R.tw
  refine ⟨_, rfl, T, CT, dT, _, _, rfl, hT, cl.t, cl.tn "houses" (by simp), rfl, lh, rfl, ⟨_, SqL.of R.lh⟩, fun F hF => ?_⟩
  refine lc_list (xs := hs.map V.ref) (fun i H' => H' = upd H F (.lst (refs hs ((List.range i).filter a.isH)))) rfl (fun i H' _ e => ?_) (fun i x H' hi e => ?_) fun H' e => ?_
  ·rw [e]
   exact (Ext.upd hF).seqL (SqL.of R.lh)
  ·subst e
   rw [List.getElem?_map] at hi
   obtain ⟨p, hp, rfl⟩ := Option.map_eq_some_iff.mp hi
   have hil : i < a.houses.length := by rw [<- R.hl]; exact (List.getElem?_eq_some_iff.mp hp).1
   have h40 := G.hl
   obtain ⟨y, ey, ey2, dx, pl, st, sd, at_, h1, h2⟩ := R.house hp
   have h1' := (Ext.upd (o := .lst (refs hs ((List.range i).filter a.isH))) hF).1 _ _ h1 (fun _ z => by cases z)
   have eI : a.isH i = !y.gone := by unfold Su54.Abs.isH; rw [ey2]
   refine ⟨rfl, _, rfl, p, CH, dx, _, _, rfl, h1', cl.h, cl.hn "stands" (by simp), rfl, _, rfl, ?_⟩
   refine ite2 (fun g => ?_) fun g => ?_
   ·refine ⟨_, rfl, _, upd_same, ?_, ?_⟩
    ·rw [refs_len]
     have := List.length_filter_le a.isH (List.range i)
     rw [List.length_range] at this
     exact small40 (by omega)
    ·rw [upd_upd, hs_upto, if_pos (by rw [eI]; exact g), refs_snoc hp]
   ·rw [hs_upto, if_neg (by rw [eI]; exact g)]
  ·subst e
   rw [List.length_map, R.hl]
   have eh : (List.range a.houses.length).filter a.isH = a.hs := rfl
   rw [eh]
   have XF := Ext.upd (o := .lst (refs hs a.hs)) hF
   have R2 := R.ext XF
   obtain ⟨dT2, hT2⟩ := R2.tw
   refine ⟨_, rfl, T, CT, dT2, _, _, rfl, hT2, cl.t, cl.tn "streets" (by simp), rfl, _, ss.length, rfl, .inl ⟨_, SqL.of R2.ls, by rw [List.length_map]⟩, _, rfl, T, CT, dT2, _, _, rfl, hT2, cl.t, cl.tn "houses" (by simp), rfl, _, hs.length, rfl, .inl ⟨_, SqL.of R2.lh, by rw [List.length_map]⟩, _, rfl, _, a.hs.length, rfl, .inl ⟨_, SqL.of upd_same, by rw [refs_len]⟩, sz3, fun D' hD' => ?_⟩
   have := q.keep R XF (lt.upd hF) (v := (a.streets.length : Nat)) (out := [a.houses.length, a.hs.length]) rfl D' hD'
   rw [R.sl, R.hl]
   exact this
abbrev sStrs : Stmt := top 78
abbrev cStrs : List Nat -> Su54.Call := fun _ => .streets
theorem scStrs : FnScope ["town", "there", "told", "street"] ["town"] (defScope sStrs) := scOf
def strOut (l : List Su54.Street) : List Nat := l.flatMap fun x => [x.name, x.metres]
def strNum (l : List Su54.Street) : Nat := (l.filter fun x => x.name != 0).length
theorem strOut_snoc {l : List Su54.Street} {i : Nat} {x : Su54.Street} (h : l[i]? = some x) : strOut (l.take (i + 1)) = strOut (l.take i) ++ [x.name, x.metres] := by
 unfold strOut
 rw [List.take_add_one, h, List.flatMap_append]
 rfl
theorem strNum_snoc {l : List Su54.Street} {i : Nat} {x : Su54.Street} (h : l[i]? = some x) : strNum (l.take (i + 1)) = if x.name = 0 then strNum (l.take i) else strNum (l.take i) + 1 := by
 unfold strNum
 rw [take_filter_snoc h]
 by_cases c : x.name = 0
 ·rw [if_pos c, if_neg (by rw [c]; decide)]
 ·rw [if_neg c, if_pos (by simpa using c), List.length_append]
  rfl
theorem strOut_len : ∀ l : List Su54.Street, (strOut l).length = 2 * l.length
 | [] => rfl
 | x :: l => by
  unfold strOut
  rw [List.flatMap_cons, List.length_append]
  show 2 + (strOut l).length = 2 * (l.length + 1)
  rw [strOut_len l]
  omega
theorem ok_strs (D : Def K mg "list_streets" sStrs ["town"]) (cl : Cl K CT CS CH) : Ok P w K mg base 1 "list_streets" ["town"] (spDo K CT CS CH TB 0 cStrs) := by
 refine D.ok scStrs spDo_len fun f cdv A outer s0 H vs Q E hr h => ?_
 ·obtain ⟨T, xs, a, ls, lh, ss, hs, rfl, hl, hx, R, G, lt, q⟩ := h
  have := nil_of hl
  subst this
  have q : Want K CT CS CH TB T ls lh H a .streets Q := q
  refine ⟨_, pss_cons (ps_set (i := 1) scStrs.nd rfl (Or.inl rfl) pe_int)
   (pss_cons (ps_set (i := 2) scStrs.nd rfl (Or.inl rfl) (pe_lst pa_nil))
   (pss_cons (ps_for PassesOwn.never rfl (pi_list (pe_fld (pv 0) rfl)) (pg_name (i := 3) scStrs.nd rfl (Or.inl rfl))
    (pss_one (ps_if (pt_val (pe_fld (pv 3) rfl))
     (pss_one (ps_expr (pe_bm PySem.F.plainAttrs_list PySem.F.slot_list_extend PySem.F.type_list_extend mt_extend (pv 2) (pa_cons (pe_lst (pa_cons pe_int (pa_cons pe_int pa_nil))) pa_nil))))
     (pss_cons (ps_aug (i := 1) scStrs.nd rfl (Or.inl rfl) pe_int ip_add)
     (pss_one (ps_expr (pe_bm PySem.F.plainAttrs_list PySem.F.slot_list_extend PySem.F.type_list_extend mt_extend (pv 2) (pa_cons (pe_lst (pa_cons (pe_fld (pv 3) rfl) (pa_cons (pe_fld (pv 3) rfl) pa_nil))) pa_nil))))))))
   (pss_one (ps_ret (pe_op op_cat (pe_lst (pa_cons (pv 1) pa_nil)) (pv 2)))))), ?_⟩
  refine ⟨Nat.zero_le _, fun L hL => ?_⟩
  have XL := Ext.upd (o := .lst []) hL
  obtain ⟨dT, hT⟩ := (R.ext XL).tw
  have hLs := (R.ext XL).ls
  have s6 : a.streets.length <= 6 := G.sl
  refine ⟨_, rfl, T, CT, dT, _, _, rfl, hT, cl.t, cl.tn "streets" (by simp), rfl, ls, rfl, ⟨_, SqL.of hLs⟩, ?_⟩
  refine for_list (xs := ss.map V.ref) (fun i σ H' => ∃ o3, σ = [some (.ref T), some (.int (strNum (a.streets.take i) : Nat)), some (.ref L), o3] /\ Ext H H' /\ LT TB H' /\ H' L = some (.lst ((Su54Neutral.outs (strOut (a.streets.take i))).map V.int)))
   ⟨none, rfl, XL, lt.upd hL, upd_same⟩ (fun i σ H' _ e => ?_) (fun i y σ H' hi e => ?_) fun σ H' e => ?_
  ·obtain ⟨o3, rfl, X, _⟩ := e
   exact X.seqL (SqL.of R.ls)
  ·obtain ⟨o3, rfl, X, lti, hLi⟩ := e
   rw [List.getElem?_map] at hi
   obtain ⟨p, hp, rfl⟩ := Option.map_eq_some_iff.mp hi
   obtain ⟨x, ex, ex2, dx, nn, mm, h1, h2, h3⟩ := R.street hp
   have h1' := X.1 _ _ h1 (fun _ z => by cases z)
   have il := (List.getElem?_eq_some_iff.mp ex).1
   have len : ((Su54Neutral.outs (strOut (a.streets.take i))).map V.int).length <= 12 := by
    unfold Su54Neutral.outs
    rw [List.length_map, List.length_map, strOut_len, List.length_take]
    omega
   have grow : ∀ (n m : Int) (E' : Addr), H' E' = none -> n = (x.name : Nat) -> m = (x.metres : Nat) -> ∃ l b xs zs, V.ref L = .ref l /\ [V.ref E'] = [.ref b] /\ (upd H' E' (.lst [.int n, .int m])) l = some (.lst xs) /\ (upd H' E' (.lst [.int n, .int m])) b = some (.lst zs) /\ xs.length + zs.length <= sizeLine /\
     (Ext H (upd (upd H' E' (.lst [.int n, .int m])) l (.lst (xs ++ zs))) /\ LT TB (upd (upd H' E' (.lst [.int n, .int m])) l (.lst (xs ++ zs))) /\ (upd (upd H' E' (.lst [.int n, .int m])) l (.lst (xs ++ zs))) L = some (.lst ((Su54Neutral.outs (strOut (a.streets.take (i + 1)))).map V.int))) := fun n m E' hE en em => by
    have nLE : L ≠ E' := ne_of_none hLi hE
    refine ⟨L, E', _, _, rfl, rfl, by rw [upd_ne nLE]; exact hLi, upd_same, ?_, ?_, ?_, ?_⟩
    ·show _ + 2 <= sizeLine
     exact Nat.le_of_lt (Nat.lt_of_le_of_lt (show _ <= 14 by omega) (by decide))
    ·refine ⟨fun b u e n => ?_, fun b e => ?_⟩
     ·have nb : b ≠ L := fun z => by rw [z, hL] at e; cases e
      rw [upd_ne nb, upd_ne (ne_of_none (X.1 _ _ e n) hE)]
      exact X.1 _ _ e n
     ·by_cases z : b = L
      ·rw [z]; exact hL
      ·rw [upd_ne z] at e
       by_cases z2 : b = E'
       ·rw [z2]; exact X.2 _ hE
       ·rw [upd_ne z2] at e; exact X.2 _ e
    ·refine (lti.upd (o := .lst [.int n, .int m]) hE).go fun b u e k => ?_
     rw [upd_ne fun z => ?_]
     ·exact e
     ·rw [z, upd_ne nLE, hLi] at e
      cases e
      exact k
    ·rw [upd_same, strOut_snoc ex]
     unfold Su54Neutral.outs
     rw [List.map_append, List.map_append, en, em]
     rfl
   refine ⟨_, rfl, p, CS, dx, _, _, rfl, h1', cl.s, cl.sn "gone" (by simp), rfl, _, rfl, ?_⟩
   refine ite2 (fun g => ?_) fun g => ?_
   ·have g : x.name = 0 := by simpa using g
    refine ⟨_, rfl, .inl ⟨rfl, _, SqL.of hLi⟩, sz2, fun E' hE => ?_⟩
    obtain ⟨l, b, xs, zs, e1, e2, e3, e4, e5, e6, e7, e8⟩ := grow 0 0 E' hE (by rw [g]; rfl) (by rw [h3 g]; rfl)
    refine ⟨l, b, xs, zs, e1, e2, e3, e4, e5, some (.ref p), ?_, e6, e7, e8⟩
    rw [strNum_snoc ex, if_pos g]
    rfl
   ·have g : x.name ≠ 0 := by simpa using g
    obtain ⟨en, em⟩ := h2 g
    refine ⟨_, rfl, _, _, rfl, rfl, ?_⟩
    refine ⟨_, rfl, .inl ⟨rfl, _, SqL.of hLi⟩, _, rfl, p, CS, dx, _, _, rfl, h1', cl.s, cl.sn "name" (by simp), rfl, _, rfl, p, CS, dx, _, _, rfl, h1', cl.s, cl.sn "metres" (by simp), rfl, sz2, fun E' hE => ?_⟩
    obtain ⟨l, b, xs, zs, e1, e2, e3, e4, e5, e6, e7, e8⟩ := grow nn mm E' hE en em
    refine ⟨l, b, xs, zs, e1, e2, e3, e4, e5, some (.ref p), ?_, e6, e7, e8⟩
    rw [strNum_snoc ex, if_neg g]
    rfl
  ·obtain ⟨o3, rfl, X, lti, hLi⟩ := e
   rw [List.length_map, R.sl, List.take_length] at hLi ⊢
   refine ⟨_, rfl, sz1, fun E' hE => ?_⟩
   have nLE : L ≠ E' := ne_of_none hLi hE
   have XE := Ext.upd (o := .lst [.int (strNum a.streets : Nat)]) hE
   refine ⟨_, rfl, E', L, _, _, rfl, rfl, upd_same, XE.1 _ _ hLi (fun _ z => by cases z), ?_, fun D' hD' => ?_⟩
   ·unfold Su54Neutral.outs
    rw [List.length_map, List.length_map, strOut_len]
    show 1 + _ <= sizeLine
    exact Nat.le_of_lt (Nat.lt_of_le_of_lt (show _ <= 14 by omega) (by decide))
   have := q.keep R (X.trans XE) (lti.upd hE) (v := (strNum a.streets : Nat)) (out := strOut a.streets) rfl D' hD'
   exact this
end
theorem pigeon : ∀ (l m : List Nat), l.Nodup -> (∀ x ∈ l, x ∈ m) -> l.length <= m.length
 | [], _, _, _ => Nat.zero_le _
 | x :: l, m, hn, hs => by
  obtain ⟨h1, h2⟩ := List.nodup_cons.mp hn
  have hx := hs x List.mem_cons_self
  have := pigeon l (m.erase x) h2 fun y hy => (List.mem_erase_of_ne fun z => h1 (by rw [<- z]; exact hy)).mpr (hs y (List.mem_cons_of_mem _ hy))
  rw [List.length_erase_of_mem hx] at this
  have hp := List.length_pos_of_mem hx
  rw [List.length_cons]
  omega
theorem ranks_has {a : Su54.Abs} {s d r : Nat} : (a.ranks s d).contains r = true ↔ ∃ j ∈ a.side s d, (a.house j).plate = r + 1 := by
 rw [List.contains_iff_mem]
 unfold Su54.Abs.ranks Su54.Abs.plated
 rw [List.mem_map]
 constructor
 ·rintro ⟨j, hj, e⟩
  obtain ⟨h1, h2⟩ := List.mem_filter.mp hj
  have h2 : (a.house j).plate ≠ 0 := by simpa using h2
  exact ⟨j, h1, by omega⟩
 ·rintro ⟨j, hj, e⟩
  exact ⟨j, List.mem_filter.mpr ⟨hj, by rw [e]; simp⟩, by omega⟩
theorem free_le {a : Su54.Abs} (G : Good a) {s d k : Nat} (h : ∀ i, i < k -> (a.ranks s d).contains (i * 27) = true) : k <= 10 := by
 have := pigeon ((List.range k).map (· * 27)) (a.ranks s d) (by
  rw [List.Nodup, List.pairwise_map]
  exact List.nodup_range.imp fun {x y} z w => z (by omega)) (fun x hx => by
  obtain ⟨i, hi, rfl⟩ := List.mem_map.mp hx
  exact List.contains_iff_mem.mp (h i (List.mem_range.mp hi)))
 rw [List.length_map, List.length_range] at this
 exact Nat.le_trans this (ranks_le a G s d)
def numAt (σ : L2.St) : Nat := match σ[5]? with
 | some (some (V.int z)) => z.toNat
 | _ => 0
section
variable {P : Program} {w : World} {K : Frag} {mg : Str -> Option Value} {base : Heap} {CT CS CH TB np : Addr}
abbrev sFree : Stmt := top 77
abbrev cFree : List Nat -> Su54.Call := fun l => .free (l.getD 0 0) (l.getD 1 0)
theorem scFree : FnScope ["town", "s", "d", "refusal", "given", "number", "house"] ["town", "s", "d"] (defScope sFree) := scOf
theorem ok_free (D : Def K mg "least_free" sFree ["town", "s", "d"]) (cl : Cl K CT CS CH) (o1 : Ok P w K mg base 2 "refused_side" ["town", "s", "d"] (spRef K CT CS CH)) (o2 : Ok P w K mg base 2 "houses_in_order" ["town", "s", "d"] (spOrd K CT CS CH TB)) (o3 : Ok P w K mg base 1 "least_number" ["side"] spLeast) :
  Ok P w K mg base 3 "least_free" ["town", "s", "d"] (spDo K CT CS CH TB 2 cFree) := by
 refine D.ok scFree spDo_len fun f cdv A outer s0 H vs Q E hr h => ?_
 ·obtain ⟨T, xs, a, ls, lh, ss, hs, rfl, hl, hx, R, G, lt, q⟩ := h
  obtain ⟨s, d, rfl⟩ := two_of hl
  have hs0 := (hx s (by simp)).1
  have hd0 := (hx d (by simp)).1
  have q : Want K CT CS CH TB T ls lh H a (.free s.toNat d.toNat) Q := q
  have hu : (A.deeper (envOfC "least_free" (defScope sFree) s0.heap.objs.size f cdv)).units + 100 < cLine := by have := hr.un; omega
  refine ⟨_, pss_cons (ps_set (i := 3) scFree.nd rfl (Or.inl rfl) (pe_ok o1 hr rfl (pa_cons (pv 0) (pa_cons (pv 1) (pa_cons (pv 2) pa_nil)))))
   (pss_cons (ps_if (pt_cmpR op_ne (pv 3) pe_int rfl) (pss_one (ps_ret (pe_lst (pa_cons (pv 3) pa_nil)))) pss_nil)
   (pss_cons (ps_setLc (i := 4) (own := [("house", 6)]) rfl scFree.nd rfl rfl (sw_true rfl rfl rfl rfl) (pi_list (pe_ok o2 hr rfl (pa_cons (pv 0) (pa_cons (pv 1) (pa_cons (pv 2) pa_nil))))) (blkOk_by rfl) (fun s H C cl fp => by exact pg_name (i := 6) scFree.nd rfl (Or.inl rfl))
     (fun s H C cl fp => by exact pts_nil) (fun s H C cl fp => by exact pe_fldK K rfl (pv 6) rfl))
   (pss_cons (ps_set (i := 5) scFree.nd rfl (Or.inl rfl) (pe_ok o3 (hr.mono (show 1 <= 2 by decide)) rfl (pa_cons (pv 2) pa_nil)))
   (pss_cons (ps_while PassesOwn.never (pt_cmpR (op_inT hu) (pe_tup (pa_cons (pv 5) (pa_cons pe_int pa_nil))) (pv 4) rfl) (pss_one (ps_aug (i := 5) scFree.nd rfl (Or.inl rfl) pe_int ip_add)))
   (pss_one (ps_ret (pe_lst (pa_cons (pv 5) pa_nil)))))))), ?_⟩
  refine ⟨_, rfl, _, rfl, _, rfl, T, s, d, a, true, ls, lh, ss, hs, rfl, hs0, R, G, ?_⟩
  refine ⟨_, rfl, rfl, _, rfl, ?_⟩
  refine ite2 (fun c => ?_) fun c => ?_
  ·refine ⟨_, rfl, sz1, fun D' hD' => q.no R (Ext.refl H) lt ?_ D' hD'⟩
   have c : ¬ refuse a s d = 0 := by
    have c : (!decide (V.int (refuse a s d) = V.int 0)) = true := c
    rw [dec_V, Bool.not_eq_true'] at c
    exact of_decide_eq_false c
   dsimp only [Su54.does]
   unfold refuse at c ⊢
   by_cases h1 : a.isS s.toNat = false
   ·rw [if_pos h1, if_pos h1]
   ·rw [if_neg h1] at c ⊢
    rw [if_neg h1]
    by_cases h2 : 1 < d
    ·rw [if_pos h2, if_pos (by omega)]
    ·rw [if_neg h2] at c
     exact absurd rfl c
  ·have ed : Su54.does a (.free s.toNat d.toNat) = (a, Su54.num (Su54.number d.toNat (a.free s.toNat d.toNat * 27)) []) := (refuse_eq hd0 c).2
   have hd := (refuse_eq (z := (a, Su54.no 0)) hd0 c).1
   refine ⟨_, rfl, _, rfl, _, rfl, T, s, d, a, true, ls, lh, ss, hs, rfl, R, G, lt, hs0, hd0, fun H1 D1 X1 lt1 nD1 hD1 => ?_⟩
   have R1 := R.ext X1
   refine ⟨D1, rfl, ⟨_, SqL.of hD1⟩, fun F hF => ?_⟩
   refine lc_houses R1 side_alive (by have := side_le a G s.toNat d.toNat; omega) hD1 hF (fun _ => true) (fun j v => ∃ pl, v = .ref pl /\ SqT K H1 pl ((plOf a j).map V.int)) (fun j pj dx pl H' mj hpj h1 h2 h3 X' Z N hz hn => ?_) fun ys hys => ?_
   ·refine ⟨rfl, ?_⟩
    dsimp only [tYes]
    rw [if_pos rfl]
    exact ⟨_, rfl, pj, CH, dx, _, _, rfl, h1, cl.h, cl.hn "plate" (by simp), rfl, hz rfl _ ⟨pl, rfl, h2⟩⟩
   have efl : (a.side s.toNat d.toNat).filter (fun _ => true) = a.side s.toNat d.toNat := List.filter_eq_self.mpr fun _ _ => rfl
   rw [efl] at hys
   obtain ⟨ps, rfl, htu⟩ := paired_tups hys
   have XF := Ext.upd (o := .lst (ps.map V.ref)) hF
   refine ⟨_, rfl, d, rfl, ?_⟩
   have inn : ∀ k : Nat, ((a.side s.toNat d.toNat).map (plOf a)).any (fun c => decide (c = [d + 1 + 2 * (k : Nat), 0])) = (a.ranks s.toNat d.toNat).contains (k * 27) := fun k => by
    rw [Bool.eq_iff_iff, ranks_has, List.any_eq_true]
    have pp : ∀ j ∈ a.side s.toNat d.toNat, (plOf a j = [d + 1 + 2 * (k : Nat), 0] ↔ (a.house j).plate = k * 27 + 1) := fun j hj => by
     have mj := mem_side.mp hj
     have := plate_iff (x := a.house j) (n := d.toNat + 1 + 2 * k) (l := 0) (by rw [mj.2.2.2]; omega) (by omega) (by rw [mj.2.2.2]; omega) (by omega)
     have er : Su54.rank (a.house j).side (d.toNat + 1 + 2 * k) 0 = k * 27 := by
      rw [mj.2.2.2]
      unfold Su54.rank
      omega
     rw [er] at this
     have en : ((d.toNat + 1 + 2 * k : Nat) : Int) = d + 1 + 2 * (k : Nat) := by omega
     rw [en] at this
     exact this
    constructor
    ·rintro ⟨c, hc, e⟩
     obtain ⟨j, hj, rfl⟩ := List.mem_map.mp hc
     exact ⟨j, hj, (pp j hj).mp (of_decide_eq_true e)⟩
    ·rintro ⟨j, hj, e⟩
     exact ⟨_, List.mem_map.mpr ⟨j, hj, rfl⟩, decide_eq_true ((pp j hj).mpr e)⟩
   refine while_by (fun σ H' => ∃ (k : Nat) (o3 o6 : Option V), σ = [some (.ref T), some (.int s), some (.int d), o3, some (.ref F), some (.int (d + 1 + 2 * (k : Nat))), o6] /\ Ext H H' /\ LT TB H' /\ H' F = some (.lst (ps.map V.ref)) /\ TupsAt K H' ps ((a.side s.toNat d.toNat).map (plOf a)) /\ ∀ i, i < k -> (a.ranks s.toNat d.toNat).contains (i * 27) = true)
    (fun σ _ => 100 - numAt σ) ⟨0, _, _, by rw [show d + 1 + 2 * ((0 : Nat) : Int) = d + 1 by omega]; rfl, X1.trans XF, lt1.upd hF, upd_same, TupsAt.ext XF htu, fun i hi => by omega⟩ ?_ ?_
   ·rintro σ H' ⟨k, o3, o6, rfl, X, lti, hFi, ht, hk⟩
    have k10 := free_le G hk
    refine ⟨_, rfl, sz2, fun Tp hTp => ?_⟩
    have XT := Ext.upd (o := .tup [.int (d + 1 + 2 * (k : Nat)), .int 0]) hTp
    refine ⟨_, rfl, Tp, F, [d + 1 + 2 * (k : Nat), 0], ps, _, rfl, rfl, .inl (.inl upd_same), sz8, XT.seqL (SqL.of hFi), TupsAt.ext XT ht, _, rfl, ?_⟩
    rw [inn k]
    refine ite2 (fun c => ?_) fun c => ?_
    ·refine ⟨_, rfl, _, _, rfl, rfl, ⟨k + 1, o3, o6, ?_, X.trans XT, lti.upd hTp, XT.1 _ _ hFi (fun _ z => by cases z), TupsAt.ext XT ht, fun i hi => ?_⟩, ?_⟩
     ·rw [show d + 1 + 2 * ((k + 1 : Nat) : Int) = d + 1 + 2 * (k : Nat) + 2 by omega]
      rfl
     ·by_cases e : i = k
      ·rw [e]; exact c
      ·exact hk i (by omega)
     ·show 100 - (d + 1 + 2 * (k : Nat) + 2).toNat < 100 - (d + 1 + 2 * (k : Nat)).toNat
      omega
    ·refine ⟨_, rfl, sz1, fun D' hD' => ?_⟩
     have ef : a.free s.toNat d.toNat = k := by
      unfold Su54.Abs.free
      rw [List.find?_range_eq_some.mpr ⟨by rw [Bool.eq_false_iff.mpr c]; rfl, List.mem_range.mpr (by omega), fun j hj => by rw [hk j hj]; rfl⟩]
      rfl
     have ev : ((Su54.number d.toNat (k * 27) : Nat) : Int) = d + 1 + 2 * (k : Nat) := by
      unfold Su54.number
      omega
     have := q.keep R (X.trans XT) (lti.upd hTp) (v := ((Su54.number d.toNat (k * 27) : Nat) : Int)) (out := []) (by rw [ed, ef]; rfl) D' hD'
     rw [ev] at this
     exact this
   ·rintro σ H' Q1 Q2 m ⟨v, hv, hlen, hall⟩
    refine ⟨v, hv, hlen, fun p hp => ?_⟩
    obtain ⟨v2, hv2, b1, b2, b3, b4, b5, e1, e2, e3, e4, e5, e6, k, ek, q⟩ := hall p hp
    exact ⟨v2, hv2, b1, b2, b3, b4, b5, e1, e2, e3, e4, e5, e6, k, ek, m _ _ q⟩
end
theorem find_congr {α : Type} {p q : α -> Bool} : ∀ {l : List α}, (∀ x ∈ l, p x = q x) -> l.find? p = l.find? q
 | [], _ => rfl
 | x :: l, h => by
  rw [List.find?_cons, List.find?_cons, h x List.mem_cons_self, find_congr fun y hy => h y (List.mem_cons_of_mem _ hy)]
theorem find_at {α : Type} {p : α -> Bool} : ∀ {l : List α} {i : Nat} {x : α}, l[i]? = some x -> (∀ y ∈ l.take i, p y = false) -> p x = true -> l.find? p = some x
 | [], _, _, h, _, _ => by simp at h
 | y :: l, 0, x, h, _, hx => by
  have h : y = x := Option.some.inj h
  subst h
  rw [List.find?_cons, hx]
 | y :: l, i + 1, x, h, hn, hx => by
  rw [List.find?_cons, hn y (by rw [List.take_succ_cons]; exact List.mem_cons_self)]
  exact find_at (i := i) (by simpa using h) (fun z hz => hn z (by rw [List.take_succ_cons]; exact List.mem_cons_of_mem _ hz)) hx
theorem find_has {a : Su54.Abs} (G : Good a) {s x l : Nat} (hx : 1 <= x) (hl : l <= 26) : (a.side s 0 ++ a.side s 1).find? (fun j => decide (plOf a j = [(x : Int), (l : Int)])) = a.has s (1 - x % 2) (Su54.rank (1 - x % 2) x l) := by
 have key : ∀ d, d <= 1 -> (a.side s d).find? (fun j => decide (plOf a j = [(x : Int), (l : Int)])) = if d = 1 - x % 2 then a.has s d (Su54.rank d x l) else none := fun d hd => by
  split
  ·rename_i e
   unfold Su54.Abs.has Su54.Abs.plated
   rw [List.find?_filter]
   refine find_congr fun j hj => ?_
   have mj := mem_side.mp hj
   have := plate_iff (x := a.house j) (n := x) (l := l) (by rw [mj.2.2.2]; exact hd) hx (by rw [mj.2.2.2]; omega) hl
   rw [mj.2.2.2] at this
   rw [Bool.eq_iff_iff, decide_eq_true_iff, decide_eq_true_iff, bne_iff_ne, beq_iff_eq]
   exact this.trans ⟨fun z => ⟨by omega, z⟩, fun z => z.2⟩
  ·rename_i e
   rw [List.find?_eq_none]
   intro j hj z
   have z := of_decide_eq_true z
   have mj := mem_side.mp hj
   unfold plOf numOf at z
   have z1 : (if (a.house j).plate = 0 then (0 : Int) else ((Su54.number (a.house j).side ((a.house j).plate - 1) : Nat) : Int)) = (x : Int) := (List.cons.inj z).1
   split at z1
   ·omega
   ·rw [mj.2.2.2] at z1
    unfold Su54.number at z1
    omega
 rw [List.find?_append, key 0 (by omega), key 1 (by omega)]
 by_cases c : x % 2 = 1
 ·rw [c, if_pos rfl, if_neg (by omega), Option.or_none]
 ·have c : x % 2 = 0 := by omega
  rw [c, if_neg (by omega), if_pos rfl]
  rfl
section
variable {P : Program} {w : World} {K : Frag} {mg : Str -> Option Value} {base : Heap} {CT CS CH TB np : Addr}
abbrev sFind : Stmt := top 69
abbrev cFind : List Nat -> Su54.Call := fun l => .find (l.getD 0 0) (l.getD 1 0) (l.getD 2 0)
theorem scFind : FnScope ["town", "n", "x", "letter", "s", "house"] ["town", "n", "x", "letter"] (defScope sFind) := scOf
theorem ok_find (D : Def K mg "find_plate" sFind ["town", "n", "x", "letter"]) (cl : Cl K CT CS CH) (n1 : Num mg "NO_SUCH" (-2)) (n2 : Num mg "OUT_OF_RANGE" (-22)) (n3 : Num mg "NONE_FOUND" (-33))
  (o1 : Ok P w K mg base 1 "number_of_named" ["town", "n"] (spNamed K CT CS CH)) (o2 : Ok P w K mg base 3 "houses_of_street" ["town", "s"] (spHos K CT CS CH TB)) (o3 : Ok P w K mg base 1 "is_plate" ["number", "letter"] spIsPlate) :
  Ok P w K mg base 4 "find_plate" ["town", "n", "x", "letter"] (spDo K CT CS CH TB 3 cFind) := by
 refine D.ok scFind spDo_len fun f cdv A outer s0 H vs Q E hr h => ?_
 ·obtain ⟨T, xs, a, ls, lh, ss, hs, rfl, hl, hx, R, G, lt, q⟩ := h
  obtain ⟨n, x, l, rfl⟩ := three_of hl
  have hn0 := (hx n (by simp)).1
  have hx0 := (hx x (by simp)).1
  have hl0 := (hx l (by simp)).1
  have q : Want K CT CS CH TB T ls lh H a (.find n.toNat x.toNat l.toNat) Q := q
  have hr1 := hr.mono (show 1 <= 3 by decide)
  have hu := hr.units
  refine ⟨_, pss_cons (ps_set (i := 4) scFind.nd rfl (Or.inl rfl) (pe_ok o1 hr1 rfl (pa_cons (pv 0) (pa_cons (pv 1) pa_nil))))
   (pss_cons (ps_if (pt_cmp (pc_isN (pv 4))) (pss_one (ps_ret (pe_lst (pa_cons (pe_num n1 rfl) pa_nil)))) pss_nil)
   (pss_cons (ps_if (pt_not (pt_val (pe_ok o3 hr1 rfl (pa_cons (pv 2) (pa_cons (pv 3) pa_nil))))) (pss_one (ps_ret (pe_lst (pa_cons (pe_num n2 rfl) pa_nil)))) pss_nil)
   (pss_cons (ps_for PassesOwn.never rfl (pi_list (pe_ok o2 hr rfl (pa_cons (pv 0) (pa_cons (pv 4) pa_nil)))) (pg_name (i := 5) scFind.nd rfl (Or.inl rfl))
    (pss_one (ps_if (pt_cmpR (op_eqT hu) (pe_fld (pv 5) rfl) (pe_tup (pa_cons (pv 2) (pa_cons (pv 3) pa_nil))) rfl)
     (pss_one (ps_ret (pe_lst (pa_cons (pe_fld (pv 5) rfl) (pa_cons (pe_fld (pv 5) rfl) (pa_cons (pe_fld (pv 5) rfl) pa_nil)))))) pss_nil)))
   (pss_one (ps_ret (pe_lst (pa_cons (pe_num n3 rfl) pa_nil))))))), ?_⟩
  refine ⟨_, rfl, _, rfl, T, n, a, true, ls, lh, ss, hs, rfl, hn0, R, fun H1 s sm en => ?_, fun H1 sm en => ?_⟩
  ·have X1 := Ext.same sm
   have lt1 : LT TB H1 := lt.same sm
   have ed0 : Su54.does a (.find n.toNat x.toNat l.toNat) = if Su54.okName x.toNat = false ∨ 26 < l.toNat then (a, Su54.no (-22)) else (a, Su54.tells (a.has s (1 - x.toNat % 2) (Su54.rank (1 - x.toNat % 2) x.toNat l.toNat)) fun h => [(a.house h).side, (a.house h).at_]) := by
    dsimp only [Su54.does]
    rw [en]
   refine ⟨_, rfl, _, rfl, iteF ?_⟩
   refine ⟨_, rfl, _, rfl, x, l, rfl, _, rfl, ?_⟩
   refine ite2 (fun c => ?_) fun c => ?_
   ·have c : ¬ (1 <= x /\ x <= 999 /\ l <= 26) := by
     have c : (!decide (1 <= x /\ x <= 999 /\ l <= 26)) = true := c
     rw [Bool.not_eq_true'] at c
     exact of_decide_eq_false c
    refine ⟨sz1, fun D' hD' => q.no R X1 lt1 ?_ D' hD'⟩
    rw [ed0, if_pos]
    by_cases z : Su54.okName x.toNat = false
    ·exact .inl z
    ·have := okName_iff.mp (show Su54.okName x.toNat = true by simpa using z)
     exact .inr (by omega)
   ·have c : 1 <= x /\ x <= 999 /\ l <= 26 := by
     have c : ¬ (!decide (1 <= x /\ x <= 999 /\ l <= 26)) = true := c
     simpa using c
    have ed1 : ¬ (Su54.okName x.toNat = false ∨ 26 < l.toNat) := by
     rintro (z | z)
     ·have : Su54.okName x.toNat = true := okName_iff.mpr (by omega)
      rw [this] at z
      cases z
     ·omega
    rw [if_neg ed1, <- find_has G (by omega) (by omega)] at ed0
    have exn : ((x.toNat : Nat) : Int) = x := by omega
    have eln : ((l.toNat : Nat) : Int) = l := by omega
    rw [exn, eln] at ed0
    refine ⟨_, rfl, _, rfl, T, (s : Int), a, true, ls, lh, ss, hs, rfl, R.ext X1, G, lt1, by omega, fun H2 D2 X2 lt2 nD2 hD2 => ?_⟩
    have est : ((s : Nat) : Int).toNat = s := by omega
    rw [est] at hD2
    have XA := X1.trans X2
    have R2 := R.ext XA
    generalize hL : a.side s 0 ++ a.side s 1 = L at ed0 hD2
    have hLa : ∀ j ∈ L, j < a.houses.length /\ (a.house j).gone = false := by rw [<- hL]; exact hos_alive
    refine ⟨D2, rfl, ⟨_, SqL.of hD2⟩, for_list (xs := refs hs L) (fun i σ H' => ∃ o5, σ = [some (.ref T), some (.int n), some (.int x), some (.int l), some (.int (s : Nat)), o5] /\ Ext H2 H' /\ LT TB H' /\ ∀ j ∈ L.take i, decide (plOf a j = [x, l]) = false)
     ⟨none, rfl, Ext.refl _, lt2, fun j hj => by simp at hj⟩ (fun i σ H' _ e => ?_) (fun i y σ H' hi e => ?_) fun σ H' e => ?_⟩
    ·obtain ⟨o5, rfl, X, _⟩ := e
     exact X.seqL (SqL.of hD2)
    ·obtain ⟨o5, rfl, X, lti, no⟩ := e
     obtain ⟨j, hj, rfl⟩ := refs_get hi
     have mj := List.mem_of_getElem? hj
     obtain ⟨pj, dx, pl, hpj, h1, h2⟩ := (R2.ext X).alive (hLa j mj).1 (hLa j mj).2
     rw [getD_at hpj]
     refine ⟨_, rfl, pj, CH, dx, _, _, rfl, h1, cl.h, cl.hn "plate" (by simp), rfl, _, rfl, _, rfl, sz2, fun Tp hTp => ?_⟩
     have XT := Ext.upd (o := .tup [.int x, .int l]) hTp
     have h1' := XT.1 _ _ h1 (fun _ z => by cases z)
     refine ⟨pl, Tp, plOf a j, [x, l], rfl, rfl, XT.seqT h2, .inl (.inl upd_same), sz8, sz8, _, rfl, ?_⟩
     refine ite2 (fun c2 => ?_) fun c2 => ?_
     ·have c2 : decide (plOf a j = [x, l]) = true := c2
      refine ⟨_, rfl, pj, CH, dx, _, _, rfl, h1', cl.h, cl.hn "serial" (by simp), rfl, _, rfl, pj, CH, dx, _, _, rfl, h1', cl.h, cl.hn "side" (by simp), rfl, _, rfl, pj, CH, dx, _, _, rfl, h1', cl.h, cl.hn "metre" (by simp), rfl, sz3, fun D' hD' => ?_⟩
      exact q.keep R (XA.trans (X.trans XT)) (lti.upd hTp) (v := (j : Nat)) (out := [(a.house j).side, (a.house j).at_]) (by rw [ed0, find_at hj no c2]; rfl) D' hD'
     ·have c2 : decide (plOf a j = [x, l]) = false := Bool.eq_false_iff.mpr c2
      refine ⟨some (.ref pj), rfl, X.trans XT, lti.upd hTp, fun k hk => ?_⟩
      rw [List.take_add_one, hj] at hk
      rcases List.mem_append.mp hk with z | z
      ·exact no k z
      ·have : k = j := by simpa using z
       rw [this]; exact c2
    ·obtain ⟨o5, rfl, X, lti, no⟩ := e
     rw [refs_len, List.take_length] at no
     refine ⟨sz1, fun D' hD' => q.no R (XA.trans X) lti ?_ D' hD'⟩
     rw [ed0, List.find?_eq_none.mpr fun j hj => by rw [no j hj]; decide]
     rfl
  ·refine ⟨_, rfl, _, rfl, iteT ?_⟩
   refine ⟨sz1, fun D' hD' => q.no R (Ext.same sm) (lt.same sm) ?_ D' hD'⟩
   dsimp only [Su54.does]
   rw [en]
abbrev sNext : Stmt := top 71
abbrev cNext : List Nat -> Su54.Call := fun l => .next (l.getD 0 0)
theorem scNext : FnScope ["town", "h", "house", "behind", "other"] ["town", "h"] (defScope sNext) := scOf
theorem ok_next (D : Def K mg "find_next" sNext ["town", "h"]) (cl : Cl K CT CS CH) (g1 : mg "len" = none) (n1 : Num mg "NO_SUCH" (-2)) (n3 : Num mg "NONE_FOUND" (-33))
  (o1 : Ok P w K mg base 1 "find_house" ["town", "h"] (spFindH K CT CS CH)) (o2 : Ok P w K mg base 2 "houses_in_order" ["town", "s", "d"] (spOrd K CT CS CH TB)) : Ok P w K mg base 3 "find_next" ["town", "h"] (spDo K CT CS CH TB 1 cNext) := by
 refine D.ok scNext spDo_len fun f cdv A outer s0 H vs Q E hr h => ?_
 ·obtain ⟨T, xs, a, ls, lh, ss, hs, rfl, hl, hx, R, G, lt, q⟩ := h
  obtain ⟨h, rfl⟩ := one_of hl
  have h0 := (hx h (by simp)).1
  have q : Want K CT CS CH TB T ls lh H a (.next h.toNat) Q := q
  refine ⟨_, pss_cons (ps_set (i := 2) scNext.nd rfl (Or.inr rfl) (pe_ok o1 (hr.mono (show 1 <= 2 by decide)) rfl (pa_cons (pv 0) (pa_cons (pv 1) pa_nil))))
   (pss_cons (ps_if (pt_cmp (pc_isN (pv 2))) (pss_one (ps_ret (pe_lst (pa_cons (pe_num n1 rfl) pa_nil)))) pss_nil)
   (pss_cons (ps_setLc (i := 3) (own := [("other", 4)]) rfl scNext.nd rfl rfl (sw_true rfl rfl rfl rfl) (pi_list (pe_ok o2 hr rfl (pa_cons (pv 0) (pa_cons (pe_fld (pv 2) rfl) (pa_cons (pe_fld (pv 2) rfl) pa_nil))))) (blkOk_by rfl) (fun s H C cl fp => by exact pg_name (i := 4) scNext.nd rfl (Or.inl rfl))
     (fun s H C cl fp => by exact pts_one (pt_cmpR op_gt (pe_fldK K rfl (pv 4) rfl) (pe_fldK K rfl (pv 2) rfl) rfl)) (fun s H C cl fp => by exact pv 4))
   (pss_cons (ps_if (pt_cmpR op_eq (pe_callB call_len rfl g1 PySem.boot_len (pa_cons (pv 3) pa_nil)) pe_int rfl) (pss_one (ps_ret (pe_lst (pa_cons (pe_num n3 rfl) pa_nil)))) pss_nil)
   (pss_one (ps_ret (pe_lst (pa_cons (pe_fld (pe_ix ix_list (pv 3) pe_int (fun _ _ => rfl)) rfl) (pa_cons (pe_op op_sub (pe_fld (pe_ix ix_list (pv 3) pe_int (fun _ _ => rfl)) rfl) (pe_fld (pv 2) rfl)) pa_nil)))))))), ?_⟩
  refine ⟨_, rfl, _, rfl, T, h, a, true, ls, lh, ss, hs, rfl, h0, R, fun p x hp ex g hI => ?_, fun hI => ?_⟩
  ·obtain ⟨x', ex', ex2, dx, pl, st, sd, at_, h1, h2⟩ := R.house hp
   rw [ex] at ex'
   cases ex'
   obtain ⟨e1, e2, e3, e4⟩ := h2 g
   have ed0 : Su54.does a (.next h.toNat) = (a, Su54.tells ((a.side x.street x.side).find? fun i => decide (x.at_ < (a.house i).at_)) fun i => [(a.house i).at_ - x.at_]) := by
    dsimp only [Su54.does]
    rw [if_neg (by rw [hI]; decide)]
    unfold Su54.Abs.next
    rw [ex2]
   refine ⟨_, rfl, _, rfl, iteF ?_⟩
   refine ⟨_, rfl, _, rfl, p, CH, dx, _, _, rfl, h1, cl.h, cl.hn "street" (by simp), rfl, _, rfl, p, CH, dx, _, _, rfl, h1, cl.h, cl.hn "side" (by simp), rfl, T, st, sd, a, true, ls, lh, ss, hs, rfl, R, G, lt, by omega, by omega, fun H1 D1 X1 lt1 nD1 hD1 => ?_⟩
   have es : st.toNat = x.street := by omega
   have esd : sd.toNat = x.side := by omega
   rw [es, esd] at hD1
   have R1 := R.ext X1
   have h11 := X1.1 _ _ h1 (fun _ z => by cases z)
   refine ⟨D1, rfl, ⟨_, SqL.of hD1⟩, fun F hF => ?_⟩
   refine lc_houses R1 side_alive (by have := side_le a G x.street x.side; omega) hD1 hF (fun j => decide (x.at_ < (a.house j).at_)) (fun j v => v = .ref (hs.getD j 0)) (fun j pj dj plj H' mj hpj k1 k2 k3 X' Z N hz hn => ?_) fun ys hys => ?_
   ·have h1' := X'.1 _ _ h11 (fun _ z => by cases z)
    refine ⟨rfl, _, rfl, pj, CH, dj, _, _, rfl, k1, cl.h, cl.hn "metre" (by simp), rfl, _, rfl, p, CH, dx, _, _, rfl, h1', cl.h, cl.hn "metre" (by simp), rfl, _, _, rfl, rfl, _, rfl, ?_⟩
    have ec : decide (((a.house j).at_ : Int) > at_) = decide (x.at_ < (a.house j).at_) := by rw [decide_eq_decide, e3]; omega
    refine ite2 (fun c => ⟨_, rfl, hz (by rw [<- ec]; exact c) _ (by rw [getD_at hpj])⟩) fun c => hn (by rw [<- ec]; exact Bool.eq_false_iff.mpr c)
   have eys := paired_map hys
   subst eys
   rw [<- List.head?_filter] at ed0
   have hLm : ∀ j ∈ (a.side x.street x.side).filter fun j => decide (x.at_ < (a.house j).at_), j ∈ a.side x.street x.side /\ x.at_ < (a.house j).at_ := fun j hj => ⟨(List.mem_filter.mp hj).1, of_decide_eq_true (List.mem_filter.mp hj).2⟩
   generalize hL : ((a.side x.street x.side).filter fun j => decide (x.at_ < (a.house j).at_)) = L at ed0 hLm ⊢
   have XF := Ext.upd (o := .lst (L.map fun j => V.ref (hs.getD j 0))) hF
   have XA := X1.trans XF
   have R2 := R.ext XA
   have hF2 : (upd H1 F (.lst (L.map fun j => V.ref (hs.getD j 0)))) F = some (.lst (L.map fun j => V.ref (hs.getD j 0))) := upd_same
   refine ⟨_, rfl, _, L.length, rfl, .inl ⟨_, SqL.of hF2, by rw [List.length_map]⟩, rfl, _, rfl, ?_⟩
   match L, ed0, hLm, XF, XA, R2, hF2 with
   | [], ed0, hLm, XF, XA, R2, hF2 =>
    refine iteT ⟨sz1, fun D' hD' => q.no R XA (lt1.upd hF) (by rw [ed0]; rfl) D' hD'⟩
   | j :: L, ed0, hLm, XF, XA, R2, hF2 =>
    have ne : ¬ decide (V.int (((j :: L).length : Nat) : Int) = V.int 0) = true := by
     rw [dec_V, List.length_cons]
     exact fun z => absurd (of_decide_eq_true z) (by omega)
    refine (if_neg ne).mpr ?_
    obtain ⟨mj, hat⟩ := hLm j List.mem_cons_self
    obtain ⟨pj, dj, plj, hpj, k1, k2⟩ := R2.alive (side_alive j mj).1 (side_alive j mj).2
    have h1' := XA.1 _ _ h1 (fun _ z => by cases z)
    have hat0 : atI ((j :: L).map fun j => V.ref (hs.getD j 0)) 0 = some (.ref pj) := at_of (j := 0) (by omega) (by rw [List.map_cons, getD_at hpj]; rfl)
    refine ⟨_, rfl, F, _, _, _, rfl, rfl, SqL.of hF2, hat0, pj, CH, dj, _, _, rfl, k1, cl.h, cl.hn "serial" (by simp), rfl, _, rfl, F, _, _, _, rfl, rfl, SqL.of hF2, hat0, pj, CH, dj, _, _, rfl, k1, cl.h, cl.hn "metre" (by simp), rfl, _, rfl, p, CH, dx, _, _, rfl, h1', cl.h, cl.hn "metre" (by simp), rfl, _, _, rfl, rfl, sz2, fun D' hD' => ?_⟩
    have := q.keep R XA (lt1.upd hF) (v := (j : Nat)) (out := [(a.house j).at_ - x.at_]) (by rw [ed0]; rfl) D' hD'
    have ez : (((a.house j).at_ - x.at_ : Nat) : Int) = ((a.house j).at_ : Int) - at_ := by omega
    have e5 : ((j : Int) :: Su54Neutral.outs [(a.house j).at_ - x.at_]).map V.int = [V.int (j : Nat), V.int (((a.house j).at_ : Int) - at_)] := by
     show [V.int (j : Nat), V.int (((a.house j).at_ - x.at_ : Nat) : Int)] = _
     rw [ez]
    rw [e5] at this
    exact this
  ·refine ⟨_, rfl, _, rfl, iteT ?_⟩
   refine ⟨sz1, fun D' hD' => q.no R (Ext.refl H) lt ?_ D' hD'⟩
   dsimp only [Su54.does]
   rw [if_pos hI]
abbrev sWalk : Stmt := top 73
abbrev cWalk : List Nat -> Su54.Call := fun l => .walk (l.getD 0 0) (l.getD 1 0)
theorem scWalk : FnScope ["town", "h", "i", "house", "other"] ["town", "h", "i"] (defScope sWalk) := scOf
theorem apart_abs (m n : Nat) : ((Su54.apart m n : Nat) : Int) = if (m : Int) - n < 0 then -((m : Int) - n) else (m : Int) - n := by
 unfold Su54.apart
 split <;> omega
theorem ok_walk (D : Def K mg "measure_walk" sWalk ["town", "h", "i"]) (cl : Cl K CT CS CH) (g1 : mg "abs" = none) (n1 : Num mg "NO_SUCH" (-2)) (n3 : Num mg "NOT_ONE_STREET" (-16))
  (o1 : Ok P w K mg base 1 "find_house" ["town", "h"] (spFindH K CT CS CH)) : Ok P w K mg base 2 "measure_walk" ["town", "h", "i"] (spDo K CT CS CH TB 2 cWalk) := by
 refine D.ok scWalk spDo_len fun f cdv A outer s0 H vs Q E hr h => ?_
 ·obtain ⟨T, xs, a, ls, lh, ss, hs, rfl, hl, hx, R, G, lt, q⟩ := h
  obtain ⟨h, i, rfl⟩ := two_of hl
  have h0 := (hx h (by simp)).1
  have i0 := (hx i (by simp)).1
  have q : Want K CT CS CH TB T ls lh H a (.walk h.toNat i.toNat) Q := q
  refine ⟨_, pss_cons (ps_set (i := 3) scWalk.nd rfl (Or.inl rfl) (pe_ok o1 hr rfl (pa_cons (pv 0) (pa_cons (pv 1) pa_nil))))
   (pss_cons (ps_set (i := 4) scWalk.nd rfl (Or.inl rfl) (pe_ok o1 hr rfl (pa_cons (pv 0) (pa_cons (pv 2) pa_nil))))
   (pss_cons (ps_if (PW.pt (pw_or (pt_cmp (pc_isN (pv 3))) (pw_or1 (pt_cmp (pc_isN (pv 4)))))) (pss_one (ps_ret (pe_lst (pa_cons (pe_num n1 rfl) pa_nil)))) pss_nil)
   (pss_cons (ps_if (pt_cmpR op_ne (pe_fld (pv 3) rfl) (pe_fld (pv 4) rfl) rfl) (pss_one (ps_ret (pe_lst (pa_cons (pe_num n3 rfl) pa_nil)))) pss_nil)
   (pss_one (ps_ret (pe_lst (pa_cons (pe_callB call_abs rfl g1 (by rfl) (pa_cons (pe_op op_sub (pe_fld (pv 3) rfl) (pe_fld (pv 4) rfl)) pa_nil)) pa_nil))))))), ?_⟩
  have bad : (a.isH h.toNat = false ∨ a.isH i.toNat = false) -> ∀ D', H D' = none -> Q (.ref D') (upd H D' (.lst [.int (-2)])) := fun z D' hD' => q.no R (Ext.refl H) lt (by
   dsimp only [Su54.does]
   rw [if_pos z]) D' hD'
  refine ⟨_, rfl, _, rfl, T, h, a, true, ls, lh, ss, hs, rfl, h0, R, fun p x hp ex g hI => ?_, fun hI => ?_⟩
  ·refine ⟨_, rfl, _, rfl, T, i, a, true, ls, lh, ss, hs, rfl, i0, R, fun p2 x2 hp2 ex2 g2 hI2 => ?_, fun hI2 => ?_⟩
   ·refine ⟨_, rfl, _, rfl, iteF ?_⟩
    refine ⟨_, rfl, _, rfl, iteF ?_⟩
    obtain ⟨y1, ey1, ez1, dx1, pl1, st1, sd1, at1, h1, k1⟩ := R.house hp
    obtain ⟨y2, ey2, ez2, dx2, pl2, st2, sd2, at2, h2, k2⟩ := R.house hp2
    rw [ex] at ey1
    cases ey1
    rw [ex2] at ey2
    cases ey2
    obtain ⟨e1, _, e3, _⟩ := k1 g
    obtain ⟨f1, _, f3, _⟩ := k2 g2
    have ed0 : Su54.does a (.walk h.toNat i.toNat) = if x.street ≠ x2.street then (a, Su54.no (-16)) else (a, Su54.num (Su54.apart x.at_ x2.at_) []) := by
     dsimp only [Su54.does]
     rw [if_neg (by rw [hI, hI2]; decide), ez1, ez2]
    refine ⟨_, rfl, p, CH, dx1, _, _, rfl, h1, cl.h, cl.hn "street" (by simp), rfl, _, rfl, p2, CH, dx2, _, _, rfl, h2, cl.h, cl.hn "street" (by simp), rfl, rfl, _, rfl, ?_⟩
    refine ite2 (fun c => ?_) fun c => ?_
    ·have c : (!decide (V.int st1 = V.int st2)) = true := c
     rw [dec_V, Bool.not_eq_true'] at c
     have c := of_decide_eq_false c
     refine ⟨sz1, fun D' hD' => q.no R (Ext.refl H) lt ?_ D' hD'⟩
     rw [ed0, if_pos (by omega)]
    ·have c : ¬ (!decide (V.int st1 = V.int st2)) = true := c
     rw [dec_V, Bool.not_eq_true', Bool.not_eq_false] at c
     have c := of_decide_eq_true c
     refine ⟨_, rfl, p, CH, dx1, _, _, rfl, h1, cl.h, cl.hn "metre" (by simp), rfl, _, rfl, p2, CH, dx2, _, _, rfl, h2, cl.h, cl.hn "metre" (by simp), rfl, _, _, rfl, rfl, _, rfl, sz1, fun D' hD' => ?_⟩
     have := q.keep R (Ext.refl H) lt (v := ((Su54.apart x.at_ x2.at_ : Nat) : Int)) (out := []) (by rw [ed0, if_neg (by omega)]; rfl) D' hD'
     rw [apart_abs, <- e3, <- f3] at this
     exact this
   ·refine ⟨_, rfl, _, rfl, iteF ?_⟩
    refine ⟨_, rfl, _, rfl, iteT ?_⟩
    exact ⟨sz1, bad (.inr hI2)⟩
  ·refine ⟨_, rfl, _, rfl, T, i, a, true, ls, lh, ss, hs, rfl, i0, R, fun p2 x2 hp2 ex2 g2 hI2 => ?_, fun hI2 => ?_⟩
   ·refine ⟨_, rfl, _, rfl, iteT (iteT ?_)⟩
    exact ⟨sz1, bad (.inl hI)⟩
   ·refine ⟨_, rfl, _, rfl, iteT (iteT ?_)⟩
    exact ⟨sz1, bad (.inl hI)⟩
end
theorem near_fold (f : Nat -> Nat) : ∀ (l : List Nat) (b : Option Nat), (l.foldl (fun b h => match b with | none => some h | some i => if f h < f i then some h else some i) b) = match b with
  | none => Su54.nearest f l
  | some i => (match Su54.nearest f l with
   | none => some i
   | some j => if f j < f i then some j else some i)
 | [], none => rfl
 | [], some _ => rfl
 | x :: l, none => rfl
 | x :: l, some i => by
  show l.foldl _ (if f x < f i then some x else some i) = _
  have e : Su54.nearest f (x :: l) = match Su54.nearest f l with | none => some x | some j => if f j < f x then some j else some x := near_fold f l (some x)
  rw [e]
  by_cases c : f x < f i
  ·rw [if_pos c, near_fold f l (some x)]
   cases q : Su54.nearest f l with
   | none => exact (if_pos c).symm
   | some j =>
    show (if f j < f x then some j else some x) = match (if f j < f x then some j else some x) with | none => some i | some j => if f j < f i then some j else some i
    by_cases c2 : f j < f x
    ·rw [if_pos c2]
     exact (if_pos (by omega)).symm
    ·rw [if_neg c2]
     exact (if_pos c).symm
  ·rw [if_neg c, near_fold f l (some i)]
   cases q : Su54.nearest f l with
   | none => exact (if_neg c).symm
   | some j =>
    show (if f j < f i then some j else some i) = match (if f j < f x then some j else some x) with | none => some i | some j => if f j < f i then some j else some i
    by_cases c2 : f j < f x
    ·rw [if_pos c2]
    ·rw [if_neg c2]
     show _ = if f x < f i then some x else some i
     rw [if_neg c, if_neg (by omega)]
theorem near_cons (f : Nat -> Nat) (x : Nat) (l : List Nat) : Su54.nearest f (x :: l) = match Su54.nearest f l with | none => some x | some j => if f j < f x then some j else some x := near_fold f l (some x)
def Bef (a : Su54.Abs) (i j : Nat) : Prop := (a.house i).side < (a.house j).side ∨ ((a.house i).side = (a.house j).side /\ (a.house i).at_ < (a.house j).at_)
theorem key_lt {a : Su54.Abs} {m i j : Nat} (h : Su54.apart (a.house i).at_ m < Su54.apart (a.house j).at_ m ∨ (Su54.apart (a.house i).at_ m = Su54.apart (a.house j).at_ m /\ Bef a i j)) : HT.lexLt (key3H a m i) (key3H a m j) = true := by
 have e : ∀ k, key3H a m k = [((Su54.apart (a.house k).at_ m : Nat) : Int), ((a.house k).side : Int), ((a.house k).at_ : Int)] := fun k => by
  unfold Su54.apart
  show [_, _, _] = _
  congr 1
  split <;> omega
 rw [e, e, HT.lexLt_cons, HT.lexLt_cons, HT.lexLt_cons]
 rcases h with h | ⟨h, h2 | ⟨h2, h3⟩⟩
 ·rw [if_neg (by omega)]
  exact decide_eq_true (by omega)
 ·rw [if_pos (by omega), if_neg (by omega)]
  exact decide_eq_true (by omega)
 ·rw [if_pos (by omega), if_pos (by omega), if_neg (by omega)]
  exact decide_eq_true (by omega)
theorem near_is {a : Su54.Abs} {m : Nat} : ∀ {l : List Nat} {j : Nat}, l.Pairwise (Bef a) -> j ∈ l -> (∀ k ∈ l, HT.lexLt (key3H a m k) (key3H a m j) = false) -> Su54.nearest (fun i => Su54.apart (a.house i).at_ m) l = some j
 | [], _, _, h, _ => by cases h
 | x :: l, j, hp, hj, hk => by
  obtain ⟨p1, p2⟩ := List.pairwise_cons.mp hp
  rw [near_cons]
  have mem : ∀ {l' : List Nat} {y : Nat}, Su54.nearest (fun i => Su54.apart (a.house i).at_ m) l' = some y -> y ∈ l' := fun {l'} => by
   induction l' with
   | nil => intro y h; cases h
   | cons z l' ih =>
    intro y h
    rw [near_cons] at h
    cases q : Su54.nearest (fun i => Su54.apart (a.house i).at_ m) l' with
    | none =>
     rw [q] at h
     cases h
     exact List.mem_cons_self
    | some w =>
     rw [q] at h
     have h : (if Su54.apart (a.house w).at_ m < Su54.apart (a.house z).at_ m then some w else some z) = some y := h
     split at h
     ·cases h
      exact List.mem_cons_of_mem _ (ih q)
     ·cases h
      exact List.mem_cons_self
  rcases List.mem_cons.mp hj with rfl | hj
  ·cases q : Su54.nearest (fun i => Su54.apart (a.house i).at_ m) l with
   | none => rfl
   | some w =>
    show (if Su54.apart (a.house w).at_ m < Su54.apart (a.house j).at_ m then some w else some j) = some j
    rw [if_neg]
    intro c
    have := hk w (List.mem_cons_of_mem _ (mem q))
    rw [key_lt (.inl c)] at this
    cases this
  ·rw [near_is p2 hj fun k hk' => hk k (List.mem_cons_of_mem _ hk')]
   show (if Su54.apart (a.house j).at_ m < Su54.apart (a.house x).at_ m then some j else some x) = some j
   rw [if_pos]
   have h1 := hk x List.mem_cons_self
   have h2 := p1 j hj
   by_cases c : Su54.apart (a.house j).at_ m < Su54.apart (a.house x).at_ m
   ·exact c
   ·exfalso
    by_cases c2 : Su54.apart (a.house x).at_ m < Su54.apart (a.house j).at_ m
    ·rw [key_lt (.inl c2)] at h1; cases h1
    ·rw [key_lt (.inr ⟨by omega, h2⟩)] at h1; cases h1
theorem side_bef {a : Su54.Abs} (G : Good a) (s d : Nat) : (a.side s d).Pairwise (Bef a) := by
 have := (side_sorted a s d).and (side_nodup a s d)
 refine this.imp_of_mem fun {x y} hx hy h => ?_
 have mx := mem_side.mp hx
 have my := mem_side.mp hy
 refine .inr ⟨by rw [mx.2.2.2, my.2.2.2], ?_⟩
 have e1 : a.houses[x]? = some a.houses[x] := List.getElem?_eq_getElem mx.1
 have e2 : a.houses[y]? = some a.houses[y] := List.getElem?_eq_getElem my.1
 have h1 := h.1
 by_cases c : (a.house x).at_ = (a.house y).at_
 ·rw [house_of e1] at mx c
  rw [house_of e2] at my c
  exact absurd (G.di x y _ _ e1 e2 mx.2.1 my.2.1 (by rw [mx.2.2.1, my.2.2.1]) (by rw [mx.2.2.2, my.2.2.2]) c) h.2
 ·omega
theorem hos_bef {a : Su54.Abs} (G : Good a) (s : Nat) : (a.side s 0 ++ a.side s 1).Pairwise (Bef a) :=
 List.pairwise_append.mpr ⟨side_bef G s 0, side_bef G s 1, fun x hx y hy => .inl (by rw [(mem_side.mp hx).2.2.2, (mem_side.mp hy).2.2.2]; decide)⟩
theorem apart_abs2 (m n : Nat) : ((Su54.apart m n : Nat) : Int) = if (m : Int) - n < 0 then -((m : Int) - n) else (m : Int) - n := by
 unfold Su54.apart
 split <;> omega
section
variable {P : Program} {w : World} {K : Frag} {mg : Str -> Option Value} {base : Heap} {CT CS CH TB np : Addr}
abbrev sOpp : Stmt := top 70
abbrev cOpp : List Nat -> Su54.Call := fun l => .opposite (l.getD 0 0)
theorem scOpp : FnScope ["town", "h", "house", "across", "found"] ["town", "h"] (defScope sOpp) := scOf
theorem ok_opp (D : Def K mg "find_opposite" sOpp ["town", "h"]) (cl : Cl K CT CS CH) (g1 : mg "len" = none) (g2 : mg "abs" = none) (n1 : Num mg "NO_SUCH" (-2)) (n3 : Num mg "NONE_FOUND" (-33))
  (o1 : Ok P w K mg base 1 "find_house" ["town", "h"] (spFindH K CT CS CH)) (o2 : Ok P w K mg base 2 "houses_in_order" ["town", "s", "d"] (spOrd K CT CS CH TB)) (o3 : Ok P w K mg base 2 "nearest" ["houses", "metre"] (spNear K CT CS CH TB)) : Ok P w K mg base 3 "find_opposite" ["town", "h"] (spDo K CT CS CH TB 1 cOpp) := by
 refine D.ok scOpp spDo_len fun f cdv A outer s0 H vs Q E hr h => ?_
 ·obtain ⟨T, xs, a, ls, lh, ss, hs, rfl, hl, hx, R, G, lt, q⟩ := h
  obtain ⟨h, rfl⟩ := one_of hl
  have h0 := (hx h (by simp)).1
  have q : Want K CT CS CH TB T ls lh H a (.opposite h.toNat) Q := q
  refine ⟨_, pss_cons (ps_set (i := 2) scOpp.nd rfl (Or.inl rfl) (pe_ok o1 (hr.mono (show 1 <= 2 by decide)) rfl (pa_cons (pv 0) (pa_cons (pv 1) pa_nil))))
   (pss_cons (ps_if (pt_cmp (pc_isN (pv 2))) (pss_one (ps_ret (pe_lst (pa_cons (pe_num n1 rfl) pa_nil)))) pss_nil)
   (pss_cons (ps_set (i := 3) scOpp.nd rfl (Or.inl rfl) (pe_ok o2 hr rfl (pa_cons (pv 0) (pa_cons (pe_fld (pv 2) rfl) (pa_cons (pe_op op_sub pe_int (pe_fld (pv 2) rfl)) pa_nil)))))
   (pss_cons (ps_if (pt_cmpR op_eq (pe_callB call_len rfl g1 PySem.boot_len (pa_cons (pv 3) pa_nil)) pe_int rfl) (pss_one (ps_ret (pe_lst (pa_cons (pe_num n3 rfl) pa_nil)))) pss_nil)
   (pss_cons (ps_set (i := 4) scOpp.nd rfl (Or.inl rfl) (pe_ok o3 hr rfl (pa_cons (pv 3) (pa_cons (pe_fld (pv 2) rfl) pa_nil))))
   (pss_one (ps_ret (pe_lst (pa_cons (pe_fld (pv 4) rfl) (pa_cons (pe_callB call_abs rfl g2 (by rfl) (pa_cons (pe_op op_sub (pe_fld (pv 4) rfl) (pe_fld (pv 2) rfl)) pa_nil)) pa_nil))))))))), ?_⟩
  refine ⟨_, rfl, _, rfl, T, h, a, true, ls, lh, ss, hs, rfl, h0, R, fun p x hp ex g hI => ?_, fun hI => ?_⟩
  ·obtain ⟨x', ex', ex2, dx, pl, st, sd, at_, h1, h2⟩ := R.house hp
   rw [ex] at ex'
   cases ex'
   obtain ⟨e1, e2, e3, e4⟩ := h2 g
   have hside := (G.ho _ x ex g).1
   have ed0 : Su54.does a (.opposite h.toNat) = (a, Su54.tells (Su54.nearest (fun i => Su54.apart (a.house i).at_ x.at_) (a.side x.street (1 - x.side))) fun i => [Su54.apart (a.house i).at_ x.at_]) := by
    dsimp only [Su54.does]
    rw [if_neg (by rw [hI]; decide)]
    unfold Su54.Abs.opposite
    rw [ex2]
   refine ⟨_, rfl, _, rfl, iteF ?_⟩
   refine ⟨_, rfl, _, rfl, p, CH, dx, _, _, rfl, h1, cl.h, cl.hn "street" (by simp), rfl, _, rfl, p, CH, dx, _, _, rfl, h1, cl.h, cl.hn "side" (by simp), rfl, _, _, rfl, rfl, T, st, 1 - sd, a, true, ls, lh, ss, hs, rfl, R, G, lt, by omega, by omega, fun H1 D1 X1 lt1 nD1 hD1 => ?_⟩
   have es : st.toNat = x.street := by omega
   have esd : (1 - sd).toNat = 1 - x.side := by omega
   rw [es, esd] at hD1
   have R1 := R.ext X1
   have h11 := X1.1 _ _ h1 (fun _ z => by cases z)
   refine ⟨_, rfl, _, (a.side x.street (1 - x.side)).length, rfl, .inl ⟨_, SqL.of hD1, by rw [refs_len]⟩, rfl, _, rfl, ?_⟩
   refine ite2 (fun c => ?_) fun c => ?_
   ·have c : decide (V.int ((a.side x.street (1 - x.side)).length : Nat) = V.int 0) = true := c
    rw [dec_V] at c
    have c := of_decide_eq_true c
    have e0 : a.side x.street (1 - x.side) = [] := List.length_eq_zero_iff.mp (by omega)
    exact ⟨sz1, fun D' hD' => q.no R X1 lt1 (by rw [ed0, e0]; rfl) D' hD'⟩
   ·have c : ¬ decide (V.int ((a.side x.street (1 - x.side)).length : Nat) = V.int 0) = true := c
    have hpos : 0 < (a.side x.street (1 - x.side)).length := by
     rw [dec_V] at c
     have : ¬ (((a.side x.street (1 - x.side)).length : Nat) : Int) = 0 := fun z => c (decide_eq_true z)
     omega
    refine ⟨_, rfl, _, rfl, p, CH, dx, _, _, rfl, h11, cl.h, cl.hn "metre" (by simp), rfl, T, D1, at_, a, true, ls, lh, ss, hs, _, rfl, R1, lt1, hD1, hpos, side_alive, fun H2 j pj hj hpj hmin X2 lt2 => ?_⟩
    have XA := X1.trans X2
    obtain ⟨pj', dj, plj, hpj', k1, k2⟩ := (R.ext XA).alive (side_alive j hj).1 (side_alive j hj).2
    rw [hpj] at hpj'
    cases hpj'
    rw [e3] at hmin
    have hn := near_is (side_bef G _ _) hj hmin
    have h12 := XA.1 _ _ h1 (fun _ z => by cases z)
    refine ⟨_, rfl, pj, CH, dj, _, _, rfl, k1, cl.h, cl.hn "serial" (by simp), rfl, _, rfl, pj, CH, dj, _, _, rfl, k1, cl.h, cl.hn "metre" (by simp), rfl, _, rfl, p, CH, dx, _, _, rfl, h12, cl.h, cl.hn "metre" (by simp), rfl, _, _, rfl, rfl, _, rfl, sz2, fun D' hD' => ?_⟩
    have := q.keep R XA lt2 (v := (j : Nat)) (out := [Su54.apart (a.house j).at_ x.at_]) (by rw [ed0, hn]; rfl) D' hD'
    have e5 : ((j : Int) :: Su54Neutral.outs [Su54.apart (a.house j).at_ x.at_]).map V.int = [V.int (j : Nat), V.int (if ((a.house j).at_ : Int) - at_ < 0 then -(((a.house j).at_ : Int) - at_) else ((a.house j).at_ : Int) - at_)] := by
     show [V.int (j : Nat), V.int ((Su54.apart (a.house j).at_ x.at_ : Nat) : Int)] = _
     rw [apart_abs2, e3]
    rw [e5] at this
    exact this
  ·refine ⟨_, rfl, _, rfl, iteT ?_⟩
   refine ⟨sz1, fun D' hD' => q.no R (Ext.refl H) lt ?_ D' hD'⟩
   dsimp only [Su54.does]
   rw [if_pos hI]
abbrev sClos : Stmt := top 72
abbrev cClos : List Nat -> Su54.Call := fun l => .closest (l.getD 0 0) (l.getD 1 0)
theorem scClos : FnScope ["town", "s", "m", "street", "there", "found"] ["town", "s", "m"] (defScope sClos) := scOf
theorem ok_clos (D : Def K mg "find_closest" sClos ["town", "s", "m"]) (cl : Cl K CT CS CH) (g1 : mg "len" = none) (g2 : mg "abs" = none) (n1 : Num mg "NO_SUCH" (-2)) (n2 : Num mg "OUT_OF_RANGE" (-22)) (n3 : Num mg "NONE_FOUND" (-33))
  (o1 : Ok P w K mg base 1 "find_street" ["town", "s"] (spFindS K CT CS CH)) (o2 : Ok P w K mg base 3 "houses_of_street" ["town", "s"] (spHos K CT CS CH TB)) (o3 : Ok P w K mg base 2 "nearest" ["houses", "metre"] (spNear K CT CS CH TB)) : Ok P w K mg base 4 "find_closest" ["town", "s", "m"] (spDo K CT CS CH TB 2 cClos) := by
 refine D.ok scClos spDo_len fun f cdv A outer s0 H vs Q E hr h => ?_
 ·obtain ⟨T, xs, a, ls, lh, ss, hs, rfl, hl, hx, R, G, lt, q⟩ := h
  obtain ⟨s, m, rfl⟩ := two_of hl
  have hs0 := (hx s (by simp)).1
  have hm0 := (hx m (by simp)).1
  have q : Want K CT CS CH TB T ls lh H a (.closest s.toNat m.toNat) Q := q
  refine ⟨_, pss_cons (ps_set (i := 3) scClos.nd rfl (Or.inl rfl) (pe_ok o1 (hr.mono (show 1 <= 3 by decide)) rfl (pa_cons (pv 0) (pa_cons (pv 1) pa_nil))))
   (pss_cons (ps_if (pt_cmp (pc_isN (pv 3))) (pss_one (ps_ret (pe_lst (pa_cons (pe_num n1 rfl) pa_nil)))) pss_nil)
   (pss_cons (ps_if (pt_cmpR op_ge (pv 2) (pe_fld (pv 3) rfl) rfl) (pss_one (ps_ret (pe_lst (pa_cons (pe_num n2 rfl) pa_nil)))) pss_nil)
   (pss_cons (ps_set (i := 4) scClos.nd rfl (Or.inl rfl) (pe_ok o2 hr rfl (pa_cons (pv 0) (pa_cons (pv 1) pa_nil))))
   (pss_cons (ps_if (pt_cmpR op_eq (pe_callB call_len rfl g1 PySem.boot_len (pa_cons (pv 4) pa_nil)) pe_int rfl) (pss_one (ps_ret (pe_lst (pa_cons (pe_num n3 rfl) pa_nil)))) pss_nil)
   (pss_cons (ps_set (i := 5) scClos.nd rfl (Or.inl rfl) (pe_ok o3 (hr.mono (show 2 <= 3 by decide)) rfl (pa_cons (pv 4) (pa_cons (pv 2) pa_nil))))
   (pss_one (ps_ret (pe_lst (pa_cons (pe_fld (pv 5) rfl) (pa_cons (pe_fld (pv 5) rfl) (pa_cons (pe_callB call_abs rfl g2 (by rfl) (pa_cons (pe_op op_sub (pe_fld (pv 5) rfl) (pv 2)) pa_nil)) pa_nil))))))))))), ?_⟩
  refine ⟨_, rfl, _, rfl, T, s, a, true, ls, lh, ss, hs, rfl, hs0, R, G, fun p x hp ex hI => ?_, fun hI => ?_⟩
  ·have exs : a.street s.toNat = x := street_of ex
   have xn : x.name ≠ 0 := by
    have := isS_of ex
    rw [hI] at this
    simpa using this
   obtain ⟨dq, nq, mq, hq, k1, k2⟩ := R.st _ p x hp ex
   obtain ⟨rfl, rfl⟩ := k1 xn
   have ed0 : Su54.does a (.closest s.toNat m.toNat) = if x.metres <= m.toNat then (a, Su54.no (-22)) else (a, Su54.tells (Su54.nearest (fun i => Su54.apart (a.house i).at_ m.toNat) (a.side s.toNat 0 ++ a.side s.toNat 1)) fun i => [(a.house i).side, Su54.apart (a.house i).at_ m.toNat]) := by
    dsimp only [Su54.does]
    rw [if_neg (by rw [hI]; decide), exs]
    rfl
   refine ⟨_, rfl, _, rfl, iteF ?_⟩
   refine ⟨_, rfl, _, rfl, p, CS, dq, _, _, rfl, hq, cl.s, cl.sn "metres" (by simp), rfl, _, _, rfl, rfl, _, rfl, ?_⟩
   refine ite2 (fun c2 => ?_) fun c2 => ?_
   ·have c2 : m >= (x.metres : Int) := of_decide_eq_true c2
    exact ⟨sz1, fun D' hD' => q.no R (Ext.refl H) lt (by rw [ed0, if_pos (by omega)]) D' hD'⟩
   have c2 : ¬ m >= (x.metres : Int) := fun z => c2 (decide_eq_true z)
   rw [if_neg (by omega)] at ed0
   refine ⟨_, rfl, _, rfl, T, s, a, true, ls, lh, ss, hs, rfl, R, G, lt, hs0, fun H1 D1 X1 lt1 nD1 hD1 => ?_⟩
   have R1 := R.ext X1
   have hLb := hos_bef G s.toNat
   have hLa : ∀ j ∈ a.side s.toNat 0 ++ a.side s.toNat 1, j < a.houses.length /\ (a.house j).gone = false := hos_alive
   generalize hL : a.side s.toNat 0 ++ a.side s.toNat 1 = L at ed0 hD1 hLb hLa
   refine ⟨_, rfl, _, L.length, rfl, .inl ⟨_, SqL.of hD1, by rw [refs_len]⟩, rfl, _, rfl, ?_⟩
   refine ite2 (fun c => ?_) fun c => ?_
   ·have c : decide (V.int (L.length : Nat) = V.int 0) = true := c
    rw [dec_V] at c
    have c := of_decide_eq_true c
    have e0 : L = [] := List.length_eq_zero_iff.mp (by omega)
    exact ⟨sz1, fun D' hD' => q.no R X1 lt1 (by rw [ed0, e0]; rfl) D' hD'⟩
   ·have c : ¬ decide (V.int (L.length : Nat) = V.int 0) = true := c
    have hpos : 0 < L.length := by
     rw [dec_V] at c
     have : ¬ ((L.length : Nat) : Int) = 0 := fun z => c (decide_eq_true z)
     omega
    refine ⟨_, rfl, _, rfl, T, D1, m, a, true, ls, lh, ss, hs, L, rfl, R1, lt1, hD1, hpos, hLa, fun H2 j pj hj hpj hmin X2 lt2 => ?_⟩
    have XA := X1.trans X2
    obtain ⟨pj', dj, plj, hpj', k1, k2⟩ := (R.ext XA).alive (hLa j hj).1 (hLa j hj).2
    rw [hpj] at hpj'
    cases hpj'
    have em : m = ((m.toNat : Nat) : Int) := by omega
    rw [em] at hmin
    have hn := near_is hLb hj hmin
    refine ⟨_, rfl, pj, CH, dj, _, _, rfl, k1, cl.h, cl.hn "serial" (by simp), rfl, _, rfl, pj, CH, dj, _, _, rfl, k1, cl.h, cl.hn "side" (by simp), rfl, _, rfl, pj, CH, dj, _, _, rfl, k1, cl.h, cl.hn "metre" (by simp), rfl, _, rfl, _, _, rfl, rfl, _, rfl, sz3, fun D' hD' => ?_⟩
    have := q.keep R XA lt2 (v := (j : Nat)) (out := [(a.house j).side, Su54.apart (a.house j).at_ m.toNat]) (by rw [ed0, hn]; rfl) D' hD'
    have e5 : ((j : Int) :: Su54Neutral.outs [(a.house j).side, Su54.apart (a.house j).at_ m.toNat]).map V.int = [V.int (j : Nat), V.int ((a.house j).side : Nat), V.int (if ((a.house j).at_ : Int) - m < 0 then -(((a.house j).at_ : Int) - m) else ((a.house j).at_ : Int) - m)] := by
     show [V.int (j : Nat), V.int ((a.house j).side : Nat), V.int ((Su54.apart (a.house j).at_ m.toNat : Nat) : Int)] = _
     rw [apart_abs2, <- em]
    rw [e5] at this
    exact this
  ·refine ⟨_, rfl, _, rfl, iteT ?_⟩
   refine ⟨sz1, fun D' hD' => q.no R (Ext.refl H) lt ?_ D' hD'⟩
   dsimp only [Su54.does]
   rw [if_pos hI]
end
section
variable {K : Frag} {CT CS CH TB : Addr} {H H' : Hp} {T : Addr} {a : Su54.Abs} {b : Bool} {ls lh : Addr} {ss hs : List Addr}
theorem Want.fin {c : Su54.Call} {Q : VK} {a' : Su54.Abs} {ss' hs' : List Addr} {v : Int} {out : List Nat} {H2 : Hp} (q : Want K CT CS CH TB T ls lh H a c Q) (R2 : TownR K CT CS CH H2 T a' true ls lh ss' hs') (lt2 : LT TB H2) (k : Kp ls lh H H2) (ed : Su54.does a c = (a', { value := v, out := out })) (D : Addr) (hD : H2 D = none) : Q (.ref D) (upd H2 D (.lst ((v :: Su54Neutral.outs out).map V.int))) := by
 refine q _ D ls lh ss' hs' (by rw [ed]; exact R2.ext (Ext.upd hD)) (lt2.upd hD) (k.trans (Kp.ext (Ext.upd hD))) (.inl rfl) (.inl rfl) (k.dom _ hD) (fun z => ?_) (fun z => ?_) ?_
 ·rw [z, R2.ls] at hD; cases hD
 ·rw [z, R2.lh] at hD; cases hD
 ·rw [upd_same, ed]
theorem set_at {α : Type} {l : List α} {i j : Nat} {y z : α} (e : (l.set i y)[j]? = some z) : (j = i /\ z = y) ∨ (j ≠ i /\ l[j]? = some z) := by
 rw [List.getElem?_set] at e
 by_cases c : i = j
 ·rw [if_pos c] at e
  split at e
  ·exact .inl ⟨c.symm, (Option.some.inj e).symm⟩
  ·cases e
 ·rw [if_neg c] at e
  exact .inr ⟨fun z => c z.symm, e⟩
theorem TownR.street_write (R : TownR K CT CS CH H T a b ls lh ss hs) {i : Nat} {p : Addr} {y : Su54.Street} (hi : ss[i]? = some p) (e : But p H H') (hy : StreetAt CS H' p y) : TownR K CT CS CH H' T { a with streets := a.streets.set i y } b ls lh ss hs := by
 obtain ⟨x, ex, ex2, dx, n, m, h1, h2⟩ := R.street hi
 obtain ⟨dT, hT⟩ := R.tw
 refine ⟨⟨dT, e _ _ hT (ne_of hT h1 (by intro z; unfold tf sf at z; cases z))⟩, e _ _ R.ls (ne_of R.ls h1 (by intro z; cases z)), e _ _ R.lh (ne_of R.lh h1 (by intro z; cases z)), R.sn, R.hn, ?_, R.hl, fun j q z hj hz => ?_, fun j q z hj hz => ?_, R.ne⟩
 ·show ss.length = (a.streets.set i y).length
  rw [List.length_set]
  exact R.sl
 ·rcases set_at hz with ⟨rfl, rfl⟩ | ⟨hne, hz⟩
  ·rw [hi] at hj
   cases hj
   exact hy
  ·have nq : q ≠ p := fun w => hne (nd_ix R.sn hj (by rw [w]; exact hi))
   exact (R.st j q z hj hz).go fun dq fs hq => e _ _ hq nq
 ·obtain ⟨dq, ql, qs, qd, qa, g1, g2⟩ := R.ho j q z hj hz
  exact ⟨dq, ql, qs, qd, qa, e _ _ g1 (ne_of g1 h1 (by intro z; unfold sf hf at z; cases z)), fun g => let ⟨c1, c2, c3, c4⟩ := g2 g; ⟨c1, c2, c3, e.seqT h1 c4⟩⟩
theorem TownR.street_add (R : TownR K CT CS CH H T a b ls lh ss hs) {p dx : Addr} {n m : Nat} (hn : n ≠ 0) (keep : ∀ c u, H c = some u -> c ≠ ls -> H' c = some u) (hp0 : H p = none) (hp : H' p = some (.ins CS dx (sf n m false))) (hl : H' ls = some (.lst ((ss ++ [p]).map V.ref))) :
  TownR K CT CS CH H' T { a with streets := a.streets ++ [⟨n, m⟩] } b ls lh (ss ++ [p]) hs := by
 obtain ⟨dT, hT⟩ := R.tw
 refine ⟨⟨dT, keep _ _ hT (ne_of hT R.ls (by intro z; cases z))⟩, hl, keep _ _ R.lh (fun z => R.ne z.symm), ?_, R.hn, ?_, R.hl, fun j q y hj hy => ?_, fun j q y hj hy => ?_, R.ne⟩
 ·refine List.nodup_append.mpr ⟨R.sn, by simp, fun u hu v hv e => ?_⟩
  obtain ⟨i, hi⟩ := List.getElem?_of_mem hu
  obtain ⟨x, _, _, d2, _, _, h1, _⟩ := R.street hi
  rw [e, List.mem_singleton.mp hv, hp0] at h1
  cases h1
 ·show (ss ++ [p]).length = (a.streets ++ [_]).length
  rw [List.length_append, List.length_append, R.sl]
  rfl
 ·rcases snoc_at hj with hj1 | ⟨rfl, rfl⟩
  ·rcases snoc_at hy with hy1 | ⟨e, _⟩
   ·exact (R.st j q y hj1 hy1).go fun dq fs hq => keep _ _ hq (ne_of hq R.ls (by intro z; cases z))
   ·exact absurd (List.getElem?_eq_some_iff.mp hj1).1 (by rw [R.sl]; omega)
  ·rcases snoc_at hy with hy1 | ⟨e, rfl⟩
   ·exact absurd (List.getElem?_eq_some_iff.mp hy1).1 (by rw [R.sl]; omega)
   ·have e0 : (n == 0) = false := by simpa using hn
    exact ⟨dx, n, m, by show _ = some (HO.ins CS dx (sf n m (n == 0))); rw [e0]; exact hp, fun _ => ⟨rfl, rfl⟩, fun z => absurd z hn⟩
 ·obtain ⟨dq, ql, qs, qd, qa, g1, g2⟩ := R.ho j q y hj hy
  refine ⟨dq, ql, qs, qd, qa, keep _ _ g1 (ne_of g1 R.ls (by intro z; cases z)), fun g => ?_⟩
  obtain ⟨c1, c2, c3, c4⟩ := g2 g
  refine ⟨c1, c2, c3, ?_⟩
  rcases c4 with (h | ⟨o, h⟩) | h
  ·exact .inl (.inl (keep _ _ h (ne_of h R.ls (by intro z; cases z))))
  ·exact .inl (.inr ⟨o, keep _ _ h (ne_of h R.ls (by intro z; cases z))⟩)
  ·exact .inr h
theorem okName_of {n : Int} (h : 1 <= n /\ n <= 999) : Su54.okName n.toNat = true := okName_iff.mpr (by omega)
theorem okName_no {n : Int} (h0 : 0 <= n) (h : ¬ (1 <= n /\ n <= 999)) : Su54.okName n.toNat = false := by
 cases z : Su54.okName n.toNat with
 | false => rfl
 | true => exact absurd (okName_iff.mp z) (by omega)
end
section
variable {P : Program} {w : World} {K : Frag} {mg : Str -> Option Value} {base : Heap} {CT CS CH TB np : Addr}
abbrev sAdd : Stmt := top 41
abbrev cAdd : List Nat -> Su54.Call := fun l => .street (l.getD 0 0) (l.getD 1 0)
theorem scAdd : FnScope ["town", "n", "m"] ["town", "n", "m"] (defScope sAdd) := scOf
theorem ok_add {fI : Addr} {fdI : FuncData} (D : Def K mg "add_street" sAdd ["town", "n", "m"]) (cl : Cl K CT CS CH) (M : Mk K CS fI) (FI : FnOk P w K mg base CX0 1 fI fdI ["self", "name", "metres"] (spInitS CS)) (bI : Binds K fdI ["self", "name", "metres"] []) (gS : mg "Street" = some (.ref CS)) (g1 : mg "len" = none)
  (n2 : Num mg "OUT_OF_RANGE" (-22)) (n3 : Num mg "SO_ALREADY" (-17)) (n4 : Num mg "TOO_MANY" (-28)) (n5 : Num mg "MOST_STREETS" 6) (n6 : Num mg "LEAST_METRES" 10) (n7 : Num mg "MOST_METRES" 2000)
  (o1 : Ok P w K mg base 1 "is_name" ["n"] spIsName) (o2 : Ok P w K mg base 2 "is_name_used" ["town", "n"] (spUsed K CT CS CH)) :
  Ok P w K mg base 3 "add_street" ["town", "n", "m"] (spDo K CT CS CH TB 2 cAdd) := by
 refine D.ok scAdd spDo_len fun f cdv A outer s0 H vs Q E hr h => ?_
 ·obtain ⟨T, xs, a, ls, lh, ss, hs, rfl, hl, hx, R, G, lt, q⟩ := h
  obtain ⟨n, m, rfl⟩ := two_of hl
  have hn0 := (hx n (by simp)).1
  have hm0 := (hx m (by simp)).1
  have q : Want K CT CS CH TB T ls lh H a (.street n.toNat m.toNat) Q := q
  refine ⟨_, pss_cons (ps_if (pt_cmpR op_eq (pe_callB call_len rfl g1 PySem.boot_len (pa_cons (pe_fld (pv 0) rfl) pa_nil)) (pe_num n5 rfl) rfl) (pss_one (ps_ret (pe_lst (pa_cons (pe_num n4 rfl) pa_nil)))) pss_nil)
   (pss_cons (ps_if (PW.pt (pw_or (pt_not (pt_val (pe_ok o1 (hr.mono (show 1 <= 2 by decide)) rfl (pa_cons (pv 1) pa_nil)))) (pw_or (pt_cmpR op_lt (pv 2) (pe_num n6 rfl) rfl) (pw_or1 (pt_cmpR op_gt (pv 2) (pe_num n7 rfl) rfl))))) (pss_one (ps_ret (pe_lst (pa_cons (pe_num n2 rfl) pa_nil)))) pss_nil)
   (pss_cons (ps_if (pt_val (pe_ok o2 hr rfl (pa_cons (pv 0) (pa_cons (pv 1) pa_nil)))) (pss_one (ps_ret (pe_lst (pa_cons (pe_num n3 rfl) pa_nil)))) pss_nil)
   (pss_cons (ps_expr (pe_bm PySem.F.plainAttrs_list PySem.F.slot_list_append PySem.F.type_list_append mt_append (pe_fld (pv 0) rfl) (pa_cons (pe_make M FI hr rfl gS bI .nil pass0 (pa_cons (pv 1) (pa_cons (pv 2) pa_nil))) pa_nil)))
   (pss_one (ps_ret (pe_lst (pa_cons (pe_op op_sub (pe_callB call_len rfl g1 PySem.boot_len (pa_cons (pe_fld (pv 0) rfl) pa_nil)) pe_int) pa_nil))))))), ?_⟩
  obtain ⟨dT, hT⟩ := R.tw
  have s6 := G.sl
  refine ⟨_, rfl, T, CT, dT, _, _, rfl, hT, cl.t, cl.tn "streets" (by simp), rfl, _, ss.length, rfl, .inl ⟨_, SqL.of R.ls, by rw [List.length_map]⟩, rfl, _, rfl, ?_⟩
  refine ite2 (fun c => ?_) fun c => ?_
  ·have c : decide (V.int (ss.length : Nat) = V.int 6) = true := c
   rw [dec_V] at c
   have c := of_decide_eq_true c
   refine ⟨sz1, fun D' hD' => q.no R (Ext.refl H) lt ?_ D' hD'⟩
   dsimp only [Su54.does]
   rw [if_pos (by rw [<- R.sl]; show 6 <= ss.length; omega)]
  have c : ¬ ((ss.length : Nat) : Int) = 6 := fun z => c (by
   show decide (V.int (ss.length : Nat) = V.int 6) = true
   rw [dec_V]
   exact decide_eq_true z)
  have l6 : ¬ Su54.STREETS <= a.streets.length := by rw [<- R.sl]; show ¬ 6 <= ss.length; rw [<- R.sl] at s6; omega
  have bad : ¬ (1 <= n /\ n <= 999) ∨ m < 10 ∨ m > 2000 -> ∀ D', H D' = none -> Q (.ref D') (upd H D' (.lst [.int (-22)])) := fun z D' hD' => q.no R (Ext.refl H) lt (by
   dsimp only [Su54.does]
   rw [if_neg l6, if_pos]
   rcases z with z | z | z
   ·exact .inl (okName_no hn0 z)
   ·exact .inr (.inl (by omega))
   ·exact .inr (.inr (by show 2000 < m.toNat; omega))) D' hD'
  refine ⟨_, rfl, n, rfl, _, rfl, ?_⟩
  refine ite2 (fun c1 => ?_) fun c1 => ?_
  ·have c1 : (!decide (1 <= n /\ n <= 999)) = true := c1
   rw [Bool.not_eq_true'] at c1
   exact iteT ⟨sz1, bad (.inl (of_decide_eq_false c1))⟩
  have c1 : 1 <= n /\ n <= 999 := by
   have c1 : ¬ (!decide (1 <= n /\ n <= 999)) = true := c1
   simpa using c1
  refine ⟨_, rfl, _, _, rfl, rfl, _, rfl, ?_⟩
  refine ite2 (fun c2 => ?_) fun c2 => ?_
  ·exact iteT ⟨sz1, bad (.inr (.inl (of_decide_eq_true c2)))⟩
  have c2 : ¬ m < 10 := fun z => c2 (decide_eq_true z)
  refine ⟨_, rfl, _, _, rfl, rfl, _, rfl, ?_⟩
  refine ite2 (fun c3 => ?_) fun c3 => ?_
  ·exact ⟨sz1, bad (.inr (.inr (of_decide_eq_true c3)))⟩
  have c3 : ¬ m > 2000 := fun z => c3 (decide_eq_true z)
  have ok1 : ¬ (Su54.okName n.toNat = false ∨ m.toNat < 10 ∨ Su54.METRES < m.toNat) := by
   rw [okName_of c1]
   show ¬ (true = false ∨ m.toNat < 10 ∨ 2000 < m.toNat)
   simp
   omega
  refine ⟨_, rfl, _, rfl, T, n, a, true, ls, lh, ss, hs, rfl, hn0, R, fun H1 sm => ⟨_, rfl, ?_⟩⟩
  have X1 := Ext.same sm
  have lt1 : LT TB H1 := lt.same sm
  refine ite2 (fun c4 => ?_) fun c4 => ?_
  ·refine ⟨sz1, fun D' hD' => q.no R X1 lt1 ?_ D' hD'⟩
   dsimp only [Su54.does]
   rw [if_neg l6, if_neg ok1, if_pos c4]
  have R1 := R.ext X1
  obtain ⟨dT1, hT1⟩ := R1.tw
  refine ⟨_, rfl, T, CT, dT1, _, _, rfl, hT1, cl.t, cl.tn "streets" (by simp), rfl, .inl ⟨rfl, _, SqL.of R1.ls⟩, _, rfl, _, rfl, ?_⟩
  intro y dy ny ndy ney
  refine ⟨y, dy, n, m, rfl, upd_same, fun H3 hy B3 dm3 => ⟨rfl, ?_⟩⟩
  have k3 : ∀ c u, H1 c = some u -> H3 c = some u := fun c u e => B3 c u (by rw [upd_ne (ne_of_none e ny), upd_ne (ne_of_none e ndy)]; exact e) (ne_of_none e ny)
  have n3 : ∀ c, H3 c = none -> H1 c = none := fun c e => by
   by_cases z : c = y
   ·rw [z]; exact ny
   ·have := dm3 c z e
    rw [upd_ne z] at this
    by_cases z2 : c = dy
    ·rw [z2]; exact ndy
    ·rw [upd_ne z2] at this; exact this
  have hls3 := k3 _ _ R1.ls
  have yl : y ≠ ls := fun z => by rw [z, R1.ls] at ny; cases ny
  refine ⟨ls, _, _, rfl, rfl, hls3, (by rw [List.length_map]; exact small40 (by rw [R.sl]; omega)), ?_⟩
  have keep : ∀ c u, H1 c = some u -> c ≠ ls -> upd H3 ls (.lst (ss.map V.ref ++ [.ref y])) c = some u := fun c u e n => by rw [upd_ne n]; exact k3 _ _ e
  have fin := R1.street_add (H' := upd H3 ls (.lst (ss.map V.ref ++ [.ref y]))) (p := y) (dx := dy) (n := n.toNat) (m := m.toNat) (by omega) keep ny (by rw [upd_ne yl, hy, Int.toNat_of_nonneg hn0, Int.toNat_of_nonneg hm0]) (by rw [upd_same, List.map_append]; rfl)
  have lt3 : LT TB (upd H3 ls (.lst (ss.map V.ref ++ [.ref y]))) := lt1.butL keep R1.ls
  have Kp3 : Kp ls lh H (upd H3 ls (.lst (ss.map V.ref ++ [.ref y]))) := ⟨fun b xs e n1 n2 => keep _ _ (sm _ _ e) n1, fun b o u e => keep _ _ (sm _ _ e) (ne_of (sm _ _ e) R1.ls (by intro z; cases z)), fun b e => by
   by_cases z : b = ls
   ·rw [z, upd_same] at e; cases e
   ·rw [upd_ne z] at e; exact sm.free (n3 _ e)⟩
  obtain ⟨dT3, hT3⟩ := fin.tw
  refine ⟨_, rfl, T, CT, dT3, _, _, rfl, hT3, cl.t, cl.tn "streets" (by simp), rfl, _, ss.length + 1, rfl, .inl ⟨_, SqL.of upd_same, by rw [List.length_append, List.length_map]; rfl⟩, _, _, rfl, rfl, sz1, fun D' hD' => ?_⟩
  have := q.fin fin lt3 Kp3 (v := (a.streets.length : Nat)) (out := []) (by
   dsimp only [Su54.does]
   rw [if_neg l6, if_neg ok1, if_neg c4]
   rfl) D' hD'
  have ev : ((a.streets.length : Nat) : Int) = ((ss.length + 1 : Nat) : Int) - 1 := by rw [R.sl]; omega
  rw [ev] at this
  exact this
abbrev sRen : Stmt := top 42
abbrev cRen : List Nat -> Su54.Call := fun l => .rename (l.getD 0 0) (l.getD 1 0)
theorem scRen : FnScope ["town", "s", "n", "street", "former"] ["town", "s", "n"] (defScope sRen) := scOf
theorem ok_ren (D : Def K mg "rename_street" sRen ["town", "s", "n"]) (cl : Cl K CT CS CH) (n1 : Num mg "NO_SUCH" (-2)) (n2 : Num mg "OUT_OF_RANGE" (-22)) (n3 : Num mg "SO_ALREADY" (-17))
  (o0 : Ok P w K mg base 1 "find_street" ["town", "s"] (spFindS K CT CS CH)) (o1 : Ok P w K mg base 1 "is_name" ["n"] spIsName) (o2 : Ok P w K mg base 2 "is_name_used" ["town", "n"] (spUsed K CT CS CH)) :
  Ok P w K mg base 3 "rename_street" ["town", "s", "n"] (spDo K CT CS CH TB 2 cRen) := by
 refine D.ok scRen spDo_len fun f cdv A outer s0 H vs Q E hr h => ?_
 ·obtain ⟨T, xs, a, ls, lh, ss, hs, rfl, hl, hx, R, G, lt, q⟩ := h
  obtain ⟨s, n, rfl⟩ := two_of hl
  have hs0 := (hx s (by simp)).1
  have hn0 := (hx n (by simp)).1
  have q : Want K CT CS CH TB T ls lh H a (.rename s.toNat n.toNat) Q := q
  have hr1 := hr.mono (show 1 <= 2 by decide)
  refine ⟨_, pss_cons (ps_set (i := 3) scRen.nd rfl (Or.inl rfl) (pe_ok o0 hr1 rfl (pa_cons (pv 0) (pa_cons (pv 1) pa_nil))))
   (pss_cons (ps_if (pt_cmp (pc_isN (pv 3))) (pss_one (ps_ret (pe_lst (pa_cons (pe_num n1 rfl) pa_nil)))) pss_nil)
   (pss_cons (ps_if (pt_not (pt_val (pe_ok o1 hr1 rfl (pa_cons (pv 2) pa_nil)))) (pss_one (ps_ret (pe_lst (pa_cons (pe_num n2 rfl) pa_nil)))) pss_nil)
   (pss_cons (ps_if (pt_val (pe_ok o2 hr rfl (pa_cons (pv 0) (pa_cons (pv 2) pa_nil)))) (pss_one (ps_ret (pe_lst (pa_cons (pe_num n3 rfl) pa_nil)))) pss_nil)
   (pss_cons (ps_set (i := 4) scRen.nd rfl (Or.inl rfl) (pe_fld (pv 3) rfl))
   (pss_cons (ps_fld (pv 3) (pv 2) rfl)
   (pss_one (ps_ret (pe_lst (pa_cons (pv 4) pa_nil))))))))), ?_⟩
  refine ⟨_, rfl, _, rfl, T, s, a, true, ls, lh, ss, hs, rfl, hs0, R, G, fun p x hp ex hI => ?_, fun hI => ?_⟩
  ·have exs : a.street s.toNat = x := street_of ex
   have xn : x.name ≠ 0 := by
    have := isS_of ex
    rw [hI] at this
    simpa using this
   have hI' : ¬ a.isS s.toNat = false := by rw [hI]; decide
   refine ⟨_, rfl, _, rfl, iteF ?_⟩
   refine ⟨_, rfl, n, rfl, _, rfl, ?_⟩
   refine ite2 (fun c1 => ?_) fun c1 => ?_
   ·have c1 : (!decide (1 <= n /\ n <= 999)) = true := c1
    rw [Bool.not_eq_true'] at c1
    refine ⟨sz1, fun D' hD' => q.no R (Ext.refl H) lt ?_ D' hD'⟩
    dsimp only [Su54.does]
    rw [if_neg hI', if_pos (okName_no hn0 (of_decide_eq_false c1))]
   have c1 : 1 <= n /\ n <= 999 := by
    have c1 : ¬ (!decide (1 <= n /\ n <= 999)) = true := c1
    simpa using c1
   have ok1 : ¬ Su54.okName n.toNat = false := by rw [okName_of c1]; decide
   refine ⟨_, rfl, _, rfl, T, n, a, true, ls, lh, ss, hs, rfl, hn0, R, fun H1 sm => ⟨_, rfl, ?_⟩⟩
   have X1 := Ext.same sm
   have lt1 : LT TB H1 := lt.same sm
   refine ite2 (fun c4 => ?_) fun c4 => ?_
   ·refine ⟨sz1, fun D' hD' => q.no R X1 lt1 ?_ D' hD'⟩
    dsimp only [Su54.does]
    rw [if_neg hI', if_neg ok1, if_pos c4]
   have R1 := R.ext X1
   obtain ⟨dq, nq, mq, hq, k1, k2⟩ := R1.st _ p x hp ex
   obtain ⟨rfl, rfl⟩ := k1 xn
   refine ⟨_, rfl, p, CS, dq, _, _, rfl, hq, cl.s, cl.sn "name" (by simp), rfl, ?_⟩
   refine ⟨_, rfl, _, rfl, p, CS, dq, _, rfl, hq, cl.s, cl.sn "name" (by simp), (by show 3 < 1000; decide), ?_⟩
   have ep : putF "name" (.int n) (sf x.name x.metres (x.name == 0)) = sf n x.metres (x.name == 0) := rfl
   rw [ep]
   have e0 : (x.name == 0) = (n.toNat == 0) := by
    rw [beq_eq_false_iff_ne.mpr xn, beq_eq_false_iff_ne.mpr (by omega : n.toNat ≠ 0)]
   rw [e0]
   have B1 : But p H1 (upd H1 p (.ins CS dq (sf n x.metres (n.toNat == 0)))) := But.upd
   have R2 := R1.street_write (y := { x with name := n.toNat }) hp B1 ⟨dq, n, x.metres, upd_same, fun _ => ⟨by show n = ((n.toNat : Nat) : Int); omega, rfl⟩, fun z => by have z : n.toNat = 0 := z; omega⟩
   refine ⟨_, rfl, sz1, fun D' hD' => ?_⟩
   exact q.fin R2 (lt1.but B1 hq) ((Kp.ext X1).trans (Kp.but B1 hq upd_same fun b hb e => by rw [upd_ne hb] at e; exact e)) (v := (x.name : Nat)) (out := []) (by
    dsimp only [Su54.does]
    rw [if_neg hI', if_neg ok1, if_neg c4, exs]
    rfl) D' hD'
  ·refine ⟨_, rfl, _, rfl, iteT ?_⟩
   refine ⟨sz1, fun D' hD' => q.no R (Ext.refl H) lt ?_ D' hD'⟩
   dsimp only [Su54.does]
   rw [if_pos hI]
end
theorem plOf_inj {a : Su54.Abs} {i j : Nat} (h : (a.house i).side = (a.house j).side) : plOf a i = plOf a j ↔ (a.house i).plate = (a.house j).plate := by
 unfold plOf numOf letOf
 constructor
 ·intro e
  have e1 := (List.cons.inj e).1
  have e2 := (List.cons.inj (List.cons.inj e).2).1
  rw [h] at e1
  unfold Su54.number at e1
  unfold Su54.letter at e2
  split at e1 <;> split at e1 <;> split at e2 <;> omega
 ·intro e
  rw [e, h]
theorem taken_goes {a : Su54.Abs} {s d j : Nat} (hj : (a.house j).side = d) : ((a.plated s d).map (plOf a)).any (fun c => decide (c = plOf a j)) = goes a s d (a.house j) := by
 rw [Bool.eq_iff_iff, List.any_eq_true, goes_iff, has_iff]
 constructor
 ·rintro ⟨c, hc, e⟩
  obtain ⟨i, hi, rfl⟩ := List.mem_map.mp hc
  have mi := plated_mem hi
  have := (plOf_inj (mi.2.2.2.1.trans hj.symm)).mp (of_decide_eq_true e)
  exact ⟨by rw [<- this]; exact mi.2.2.2.2, i, (List.mem_filter.mp hi).1, by have := mi.2.2.2.2; omega⟩
 ·rintro ⟨h1, i, hi, e⟩
  have mi := mem_side.mp hi
  refine ⟨_, List.mem_map.mpr ⟨i, List.mem_filter.mpr ⟨hi, ?_⟩, rfl⟩, decide_eq_true ((plOf_inj (mi.2.2.2.trans hj.symm)).mpr (by omega))⟩
  rw [e]
  simp
theorem TupsAt.go {K : Frag} {H H' : Hp} (k : ∀ p xs, SqT K H p xs -> SqT K H' p xs) : ∀ {ps : List Addr} {cs : List (List Int)}, TupsAt K H ps cs -> TupsAt K H' ps cs
 | _, _, .nil => .nil
 | _, _, .cons r t => .cons ⟨k _ _ r.1, r.2⟩ (TupsAt.go k t)
theorem put_street {i st sd at_ v : Int} {pl : Addr} {bb : Bool} : putF "street" (.int v) (hf i st sd at_ pl bb) = hf i v sd at_ pl bb := rfl
theorem put_metre {i st sd at_ v : Int} {pl : Addr} {bb : Bool} : putF "metre" (.int v) (hf i st sd at_ pl bb) = hf i st sd v pl bb := rfl
theorem sets_house {b : Su54.Abs} {f : Su54.House -> Su54.House} {k : Nat} {js : List Nat} (h : k ∉ js) : (sets b f js).house k = b.house k := by
 unfold Su54.Abs.house
 rw [List.getD_eq_getElem?_getD, List.getD_eq_getElem?_getD, sets_out h]
theorem take_not {l : List Nat} {i j : Nat} (hn : l.Nodup) (h : l[i]? = some j) : j ∉ l.take i := fun z => by
 obtain ⟨i', hi', e'⟩ := List.mem_iff_getElem.mp z
 rw [List.length_take] at hi'
 rw [List.getElem_take] at e'
 have : i' = i := nd_ix hn (by rw [List.getElem?_eq_getElem (by omega), e']) h
 omega
def spFull (K : Frag) (CT CS CH TB : Addr) : Sp := fun vs H Q _ => ∃ (T : Addr) (s t d : Int) (a : Su54.Abs) (b : Bool) (ls lh : Addr) (ss hs : List Addr), vs = [.ref T, .int s, .int t, .int d] /\ TownR K CT CS CH H T a b ls lh ss hs /\ Good a /\ LT TB H /\ 0 <= s /\ 0 <= t /\ 0 <= d /\
 ∀ H' : Hp, Ext H H' -> LT TB H' -> Q (.bl (decide (10 < (a.side s.toNat d.toNat).length + (a.side t.toNat d.toNat).length))) H'
def spHand (K : Frag) (CT CS CH TB : Addr) : Sp := fun vs H Q _ => ∃ (T : Addr) (s t d : Int) (a : Su54.Abs) (ls lh : Addr) (ss hs : List Addr) (x : Su54.Street), vs = [.ref T, .int s, .int t, .int d] /\ 0 <= s /\ 0 <= t /\ 0 <= d /\ TownR K CT CS CH H T a true ls lh ss hs /\ GoodO a /\ LT TB H /\ a.streets[s.toNat]? = some x /\ x.name ≠ 0 /\
 ∀ H' : Hp, TownR K CT CS CH H' T (handed a s.toNat t.toNat d.toNat) true ls lh ss hs -> LT TB H' -> Kp ls lh H H' -> Q (.int (wentN a s.toNat t.toNat d.toNat : Nat)) H'
section
variable {P : Program} {w : World} {K : Frag} {mg : Str -> Option Value} {base : Heap} {CT CS CH TB np : Addr}
abbrev sFull : Stmt := top 65
theorem scFull : FnScope ["town", "s", "t", "d"] ["town", "s", "t", "d"] (defScope sFull) := scOf
theorem ok_full (D : Def K mg "is_side_too_full" sFull ["town", "s", "t", "d"]) (g1 : mg "len" = none) (n6 : Num mg "MOST_HOUSES_OF_SIDE" 10) (o2 : Ok P w K mg base 2 "houses_in_order" ["town", "s", "d"] (spOrd K CT CS CH TB)) : Ok P w K mg base 3 "is_side_too_full" ["town", "s", "t", "d"] (spFull K CT CS CH TB) := by
 refine D.ok scFull (fun vs H Q E h => ?_) fun f cdv A outer s0 H vs Q E hr h => ?_
 ·obtain ⟨T, s, t, d, a, b, ls, lh, ss, hs, rfl, _⟩ := h; rfl
 ·obtain ⟨T, s, t, d, a, b, ls, lh, ss, hs, rfl, R, G, lt, hs0, ht0, hd0, q⟩ := h
  refine ⟨_, pss_one (ps_ret (pe_cmpR op_gt (pe_op op_add (pe_callB call_len rfl g1 PySem.boot_len (pa_cons (pe_ok o2 hr rfl (pa_cons (pv 0) (pa_cons (pv 1) (pa_cons (pv 3) pa_nil)))) pa_nil)) (pe_callB call_len rfl g1 PySem.boot_len (pa_cons (pe_ok o2 hr rfl (pa_cons (pv 0) (pa_cons (pv 2) (pa_cons (pv 3) pa_nil)))) pa_nil))) (pe_num n6 rfl) rfl)), ?_⟩
  refine ⟨_, rfl, _, rfl, _, rfl, T, s, d, a, b, ls, lh, ss, hs, rfl, R, G, lt, hs0, hd0, fun H1 D1 X1 lt1 nD1 hD1 => ?_⟩
  refine ⟨_, (a.side s.toNat d.toNat).length, rfl, .inl ⟨_, SqL.of hD1, by rw [refs_len]⟩, ?_⟩
  refine ⟨_, rfl, _, rfl, _, rfl, T, t, d, a, b, ls, lh, ss, hs, rfl, R.ext X1, G, lt1, ht0, hd0, fun H2 D2 X2 lt2 nD2 hD2 => ?_⟩
  refine ⟨_, (a.side t.toNat d.toNat).length, rfl, .inl ⟨_, SqL.of hD2, by rw [refs_len]⟩, _, _, rfl, rfl, _, _, rfl, rfl, ?_⟩
  have := q H2 (X1.trans X2) lt2
  have e : decide (10 < (a.side s.toNat d.toNat).length + (a.side t.toNat d.toNat).length) = decide ((((a.side s.toNat d.toNat).length : Nat) : Int) + ((a.side t.toNat d.toNat).length : Nat) > 10) := by
   rw [decide_eq_decide]
   omega
  rw [e] at this
  exact this
abbrev sHand : Stmt := top 66
theorem scHand : FnScope ["town", "s", "t", "d", "taken", "went", "house"] ["town", "s", "t", "d"] (defScope sHand) := scOf
theorem ok_hand (D : Def K mg "hand_over_side" sHand ["town", "s", "t", "d"]) (cl : Cl K CT CS CH) (gn : NoP K mg np) (o2 : Ok P w K mg base 2 "houses_in_order" ["town", "s", "d"] (spOrdW K CT CS CH TB)) (o3 : Ok P w K mg base 3 "plated_in_order" ["town", "s", "d"] (spPlatW K CT CS CH TB)) : Ok P w K mg base 4 "hand_over_side" ["town", "s", "t", "d"] (spHand K CT CS CH TB) := by
 refine D.ok scHand (fun vs H Q E h => ?_) fun f cdv A outer s0 H vs Q E hr h => ?_
 ·obtain ⟨T, s, t, d, a, ls, lh, ss, hs, x, rfl, _⟩ := h; rfl
 ·obtain ⟨T, s, t, d, a, ls, lh, ss, hs, x, rfl, hs0, ht0, hd0, R, G, lt, ex, nx, q⟩ := h
  have hu : (A.deeper (envOfC "hand_over_side" (defScope sHand) s0.heap.objs.size f cdv)).units + 100 < cLine := by have := hr.un; omega
  refine ⟨_, pss_cons (ps_setLc (i := 4) (own := [("house", 6)]) rfl scHand.nd rfl rfl (sw_true rfl rfl rfl rfl) (pi_list (pe_ok o3 hr rfl (pa_cons (pv 0) (pa_cons (pv 1) (pa_cons (pv 3) pa_nil))))) (blkOk_by rfl) (fun s H C cl fp => by exact pg_name (i := 6) scHand.nd rfl (Or.inl rfl))
     (fun s H C cl fp => by exact pts_nil) (fun s H C cl fp => by exact pe_fldK K rfl (pv 6) rfl))
   (pss_cons (ps_set (i := 5) scHand.nd rfl (Or.inl rfl) pe_int)
   (pss_cons (ps_for PassesOwn.never rfl (pi_list (pe_ok o2 (hr.mono (show 2 <= 3 by decide)) rfl (pa_cons (pv 0) (pa_cons (pv 2) (pa_cons (pv 3) pa_nil))))) (pg_name (i := 6) scHand.nd rfl (Or.inl rfl))
    (pss_cons (ps_fld (pv 6) (pv 1) rfl)
    (pss_cons (ps_fldaug (pv 6) (pe_fld (pe_ix ix_list (pe_fld (pv 0) rfl) (pv 1) (fun _ _ => rfl)) rfl) in_add)
    (pss_one (ps_if (pt_cmpR (op_inT hu) (pe_fld (pv 6) rfl) (pv 4) rfl) (pss_cons (ps_fld (pv 6) (pe_glob (v := .ref np) rfl gn.1 rfl) rfl) (pss_one (ps_aug (i := 5) scHand.nd rfl (Or.inl rfl) pe_int ip_add))) pss_nil)))))
   (pss_one (ps_ret (pv 5))))), ?_⟩
  have l40 := G.hl
  refine ⟨_, rfl, _, rfl, _, rfl, T, s, d, a, true, ls, lh, ss, hs, rfl, R, G, lt, hs0, hd0, fun H1 D1 X1 lt1 nD1 hD1 => ?_⟩
  have R1 := R.ext X1
  refine ⟨D1, rfl, ⟨_, SqL.of hD1⟩, fun F hF => ?_⟩
  refine lc_houses R1 (fun j hj => ⟨(plated_mem hj).1, (plated_mem hj).2.1⟩) (by have := (plated_sub a s.toNat d.toNat).length_le; have := side_leO a G s.toNat d.toNat; omega) hD1 hF (fun _ => true) (fun j v => ∃ pl, v = .ref pl /\ SqT K H1 pl ((plOf a j).map V.int)) (fun j pj dx pl H' mj hpj h1 h2 h3 X' Z N hz hn => ?_) fun ys hys => ?_
  ·refine ⟨rfl, ?_⟩
   dsimp only [tYes]
   rw [if_pos rfl]
   exact ⟨_, rfl, pj, CH, dx, _, _, rfl, h1, cl.h, cl.hn "plate" (by simp), rfl, hz rfl _ ⟨pl, rfl, h2⟩⟩
  have efl : (a.plated s.toNat d.toNat).filter (fun _ => true) = a.plated s.toNat d.toNat := List.filter_eq_self.mpr fun _ _ => rfl
  rw [efl] at hys
  obtain ⟨ps, rfl, htu⟩ := paired_tups hys
  have XF := Ext.upd (o := .lst (ps.map V.ref)) hF
  have htu := TupsAt.ext XF htu
  have hF1 : (upd H1 F (.lst (ps.map V.ref))) F = some (.lst (ps.map V.ref)) := upd_same
  have lt2 : LT TB (upd H1 F (.lst (ps.map V.ref))) := lt1.upd hF
  have XA := X1.trans XF
  generalize hH2 : upd H1 F (.lst (ps.map V.ref)) = H2 at *
  refine ⟨_, rfl, _, rfl, _, rfl, T, t, d, a, true, ls, lh, ss, hs, rfl, R.ext XA, G, lt2, ht0, hd0, fun H3 D3 X3 lt3 nD3 hD3 => ?_⟩
  have htu := TupsAt.ext X3 htu
  have hF3 := X3.1 _ _ hF1 (fun _ z => by cases z)
  have XB := XA.trans X3
  have hLn := side_nodup a t.toNat d.toNat
  have hLm : ∀ j ∈ a.side t.toNat d.toNat, j < a.houses.length /\ (a.house j).gone = false /\ (a.house j).street = t.toNat /\ (a.house j).side = d.toNat := fun j hj => mem_side.mp hj
  have hfin := handed_sets a s.toNat t.toNat d.toNat
  have hwn : wentN a s.toNat t.toNat d.toNat = ((a.side t.toNat d.toNat).filter fun j => goes a s.toNat d.toNat (a.house j)).length := rfl
  generalize hL : a.side t.toNat d.toNat = L at *
  have hss : s.toNat < ss.length := by rw [R.sl]; exact (List.getElem?_eq_some_iff.mp ex).1
  obtain ⟨pS, hpS⟩ : ∃ p, ss[s.toNat]? = some p := ⟨_, List.getElem?_eq_getElem hss⟩
  have hpSV : atI (ss.map V.ref) s = some (.ref pS) := at_of (j := s.toNat) (by omega) (by rw [List.getElem?_map, hpS]; rfl)
  refine ⟨D3, rfl, ⟨_, SqL.of hD3⟩, for_list (xs := refs hs L) (fun i σ H' => ∃ o6, σ = [some (.ref T), some (.int s), some (.int t), some (.int d), some (.ref F), some (.int (((L.take i).filter fun j => goes a s.toNat d.toNat (a.house j)).length : Nat)), o6] /\ TownR K CT CS CH H' T (sets a (mvH a s.toNat d.toNat) (L.take i)) true ls lh ss hs /\ LT TB H' /\ Kp ls lh H3 H' /\ H' D3 = some (.lst (refs hs L)) /\ H' F = some (.lst (ps.map V.ref)) /\ TupsAt K H' ps ((a.plated s.toNat d.toNat).map (plOf a)))
   ⟨none, rfl, R.ext XB, lt3, Kp.ext (Ext.refl _), hD3, hF3, htu⟩ (fun i σ H' _ e => ?_) (fun i y σ H' hi e => ?_) fun σ H' e => ?_⟩
  ·obtain ⟨o6, rfl, _, _, _, h1, _⟩ := e
   exact SqL.of h1
  ·obtain ⟨o6, rfl, Ri, lti, Ki, hDi, hFi, hti⟩ := e
   obtain ⟨j, hj, rfl⟩ := refs_get hi
   have mj := hLm j (List.mem_of_getElem? hj)
   have nj := take_not hLn hj
   have eaj : (sets a (mvH a s.toNat d.toNat) (L.take i)).house j = a.house j := sets_house nj
   obtain ⟨pj, dx, pl, hpj, h1, h2⟩ := Ri.alive (j := j) (by
    have := (Ri.hl).symm.trans R.hl
    rw [this]; exact mj.1) (by rw [eaj]; exact mj.2.1)
   unfold plOf at h2
   unfold hfOf at h1
   rw [eaj] at h1 h2
   rw [getD_at hpj]
   obtain ⟨dT, hT⟩ := Ri.tw
   obtain ⟨dS, nS, mS, hS, kS, _⟩ := Ri.st _ pS x hpS (by rw [sets_str]; exact ex)
   obtain ⟨rfl, rfl⟩ := kS nx
   have B1 : ∀ o, But pj H' (upd H' pj o) := fun o => But.upd
   have nT : T ≠ pj := ne_of hT h1 (by intro z; unfold tf hf at z; cases z)
   have nl : ls ≠ pj := ne_of Ri.ls h1 (by intro z; cases z)
   have nS' : pS ≠ pj := ne_of hS h1 (by intro z; unfold sf hf at z; cases z)
   have nD : D3 ≠ pj := ne_of hDi h1 (by intro z; cases z)
   have nF : F ≠ pj := ne_of hFi h1 (by intro z; cases z)
   refine ⟨_, rfl, _, rfl, pj, CH, dx, _, rfl, h1, cl.h, cl.hn "street" (by simp), sq6, ?_⟩
   rw [put_street]
   refine ⟨_, rfl, pj, CH, dx, _, _, rfl, upd_same, cl.h, cl.hn "metre" (by simp), rfl, _, rfl, T, CT, dT, _, _, rfl, (by rw [upd_ne nT]; exact hT), cl.t, cl.tn "streets" (by simp), rfl, _, rfl, ls, _, _, _, rfl, rfl, SqL.of (by rw [upd_ne nl]; exact Ri.ls), hpSV, pS, CS, dS, _, _, rfl, (by rw [upd_ne nS']; exact hS), cl.s, cl.sn "metres" (by simp), rfl, _, _, rfl, rfl, dx, _, upd_same, sq6, ?_⟩
   rw [put_metre, upd_upd]
   have ex2 : a.street s.toNat = x := street_of ex
   have elj : a.houses[j]? = some (a.house j) := by
    have e : a.houses[j]? = some a.houses[j] := List.getElem?_eq_getElem mj.1
    rw [house_of e]; exact e
   have done : ∀ (pl' : Addr) (H'' : Hp), H'' = upd H' pj (.ins CH dx (hf j s ((a.house j).side : Int) ((a.house j).at_ + x.metres : Int) pl' true)) -> SqT K H'' pl' [.int (numOf (mvH a s.toNat d.toNat (a.house j))), .int (letOf (mvH a s.toNat d.toNat (a.house j)))] ->
     TownR K CT CS CH H'' T (sets a (mvH a s.toNat d.toNat) (L.take (i + 1))) true ls lh ss hs /\ LT TB H'' /\ Kp ls lh H3 H'' /\ H'' D3 = some (.lst (refs hs L)) /\ H'' F = some (.lst (ps.map V.ref)) /\ TupsAt K H'' ps ((a.plated s.toNat d.toNat).map (plOf a)) := fun pl' H'' eH hq => by
    subst eH
    refine ⟨?_, lti.but (B1 _) h1, Ki.trans (Kp.but (B1 _) h1 upd_same fun b hb e => by rw [upd_ne hb] at e; exact e), (B1 _) _ _ hDi nD, (B1 _) _ _ hFi nF, TupsAt.go (fun p xs h => (B1 _).seqT h1 h) hti⟩
    have etk : L.take (i + 1) = L.take i ++ [j] := by rw [List.take_add_one, hj]; rfl
    rw [etk, sets_snoc]
    refine Ri.write (f := mvH a s.toNat d.toNat) hpj (B1 _) fun z hz => ?_
    rw [sets_out nj, elj] at hz
    cases hz
    have eg : (!(mvH a s.toNat d.toNat (a.house j)).gone) = true := by show (!(a.house j).gone) = true; rw [mj.2.1]; rfl
    refine ⟨dx, pl', s, ((a.house j).side : Int), ((a.house j).at_ + x.metres : Int), by rw [eg]; exact upd_same, fun _ => ⟨?_, rfl, ?_, hq⟩⟩
    ·show s = ((s.toNat : Nat) : Int); omega
    ·show _ = (((a.house j).at_ + (a.street s.toNat).metres : Nat) : Int)
     rw [ex2]; omega
   have h2' : SqT K (upd H' pj (.ins CH dx (hf j s ((a.house j).side : Int) ((a.house j).at_ + x.metres : Int) pl true))) pl ((plOf a j).map V.int) := (B1 _).seqT h1 h2
   have htk := taken_goes (a := a) (s := s.toNat) (j := j) mj.2.2.2
   refine ⟨_, rfl, pj, CH, dx, _, _, rfl, upd_same, cl.h, cl.hn "plate" (by simp), rfl, _, rfl, pl, F, plOf a j, ps, _, rfl, rfl, h2', sz8, SqL.of ((B1 _) _ _ hFi nF), TupsAt.go (fun p xs h => (B1 _).seqT h1 h) hti, _, rfl, ?_⟩
   rw [htk]
   refine ite2 (fun c => ?_) fun c => ?_
   ·refine ⟨_, rfl, pj, CH, dx, _, rfl, upd_same, cl.h, cl.hn "plate" (by simp), sq6, ?_⟩
    rw [put_plate, upd_upd]
    have ez : numOf (mvH a s.toNat d.toNat (a.house j)) = 0 /\ letOf (mvH a s.toNat d.toNat (a.house j)) = 0 := (numOf_zero _).mpr (by unfold mvH; exact if_pos c)
    obtain ⟨d1, d2, d3, d4, d5, d6⟩ := done np _ rfl (by rw [ez.1, ez.2]; exact gn.2 _)
    refine ⟨_, rfl, _, _, rfl, rfl, some (.ref pj), ?_, d1, d2, d3, d4, d5, d6⟩
    rw [take_filter_snoc hj, if_pos c, List.length_append]
    rfl
   ·have c : goes a s.toNat d.toNat (a.house j) = false := Bool.eq_false_iff.mpr c
    have ez : numOf (mvH a s.toNat d.toNat (a.house j)) = numOf (a.house j) /\ letOf (mvH a s.toNat d.toNat (a.house j)) = letOf (a.house j) := by
     have : (mvH a s.toNat d.toNat (a.house j)).plate = (a.house j).plate := by unfold mvH; exact if_neg (by rw [c]; decide)
     unfold numOf letOf
     rw [this]
     exact ⟨rfl, rfl⟩
    obtain ⟨d1, d2, d3, d4, d5, d6⟩ := done pl _ rfl (by rw [ez.1, ez.2]; exact h2')
    refine ⟨some (.ref pj), ?_, d1, d2, d3, d4, d5, d6⟩
    rw [take_filter_snoc hj, if_neg (by rw [c]; decide)]
    rfl
  ·obtain ⟨o6, rfl, Ri, lti, Ki, _, _, _⟩ := e
   rw [refs_len, List.take_length] at Ri ⊢
   rw [hfin] at Ri
   refine ⟨_, rfl, ?_⟩
   have := q H' Ri lti ((Kp.ext XB).trans Ki)
   rw [hwn] at this
   exact this
end
theorem put_metres {n m v : Int} {g : Bool} : putF "metres" (.int v) (sf n m g) = sf n v g := rfl
theorem put_gone {n m : Int} {g h : Bool} : putF "gone" (.bl h) (sf n m g) = sf n m h := rfl
section
variable {P : Program} {w : World} {K : Frag} {mg : Str -> Option Value} {base : Heap} {CT CS CH TB np : Addr}
abbrev sJoin : Stmt := top 64
abbrev cJoin : List Nat -> Su54.Call := fun l => .join (l.getD 0 0) (l.getD 1 0)
theorem scJoin : FnScope ["town", "s", "t", "street", "joined", "metres", "went"] ["town", "s", "t"] (defScope sJoin) := scOf
theorem ok_join (D : Def K mg "join_streets" sJoin ["town", "s", "t"]) (cl : Cl K CT CS CH) (n1 : Num mg "NO_SUCH" (-2)) (n2 : Num mg "OUT_OF_RANGE" (-22)) (n3 : Num mg "TOO_MANY" (-28)) (n4 : Num mg "MOST_METRES" 2000)
  (o1 : Ok P w K mg base 1 "find_street" ["town", "s"] (spFindS K CT CS CH)) (o2 : Ok P w K mg base 3 "is_side_too_full" ["town", "s", "t", "d"] (spFull K CT CS CH TB)) (o3 : Ok P w K mg base 4 "hand_over_side" ["town", "s", "t", "d"] (spHand K CT CS CH TB)) :
  Ok P w K mg base 5 "join_streets" ["town", "s", "t"] (spDo K CT CS CH TB 2 cJoin) := by
 refine D.ok scJoin spDo_len fun f cdv A outer s0 H vs Q E hr h => ?_
 ·obtain ⟨T, xs, a, ls, lh, ss, hs, rfl, hl, hx, R, G, lt, q⟩ := h
  obtain ⟨s, t, rfl⟩ := two_of hl
  have hs0 := (hx s (by simp)).1
  have ht0 := (hx t (by simp)).1
  have q : Want K CT CS CH TB T ls lh H a (.join s.toNat t.toNat) Q := q
  have hr1 := hr.mono (show 1 <= 4 by decide)
  have hr3 := hr.mono (show 3 <= 4 by decide)
  refine ⟨_, pss_cons (ps_set (i := 3) scJoin.nd rfl (Or.inl rfl) (pe_ok o1 hr1 rfl (pa_cons (pv 0) (pa_cons (pv 1) pa_nil))))
   (pss_cons (ps_set (i := 4) scJoin.nd rfl (Or.inl rfl) (pe_ok o1 hr1 rfl (pa_cons (pv 0) (pa_cons (pv 2) pa_nil))))
   (pss_cons (ps_if (PW.pt (pw_or (pt_cmp (pc_isN (pv 3))) (pw_or1 (pt_cmp (pc_isN (pv 4)))))) (pss_one (ps_ret (pe_lst (pa_cons (pe_num n1 rfl) pa_nil)))) pss_nil)
   (pss_cons (ps_if (pt_cmpR op_eq (pv 1) (pv 2) rfl) (pss_one (ps_ret (pe_lst (pa_cons (pe_num n2 rfl) pa_nil)))) pss_nil)
   (pss_cons (ps_set (i := 5) scJoin.nd rfl (Or.inl rfl) (pe_op op_add (pe_fld (pv 3) rfl) (pe_fld (pv 4) rfl)))
   (pss_cons (ps_if (PW.pt (pw_or (pt_cmpR op_gt (pv 5) (pe_num n4 rfl) rfl) (pw_or (pt_val (pe_ok o2 hr3 rfl (pa_cons (pv 0) (pa_cons (pv 1) (pa_cons (pv 2) (pa_cons pe_int pa_nil)))))) (pw_or1 (pt_val (pe_ok o2 hr3 rfl (pa_cons (pv 0) (pa_cons (pv 1) (pa_cons (pv 2) (pa_cons pe_int pa_nil)))))))))) (pss_one (ps_ret (pe_lst (pa_cons (pe_num n3 rfl) pa_nil)))) pss_nil)
   (pss_cons (ps_set (i := 6) scJoin.nd rfl (Or.inl rfl) (pe_op op_add (pe_ok o3 hr rfl (pa_cons (pv 0) (pa_cons (pv 1) (pa_cons (pv 2) (pa_cons pe_int pa_nil))))) (pe_ok o3 hr rfl (pa_cons (pv 0) (pa_cons (pv 1) (pa_cons (pv 2) (pa_cons pe_int pa_nil)))))))
   (pss_cons (ps_fld (pv 3) (pv 5) rfl)
   (pss_cons (ps_fld (pv 4) pe_bl rfl)
   (pss_one (ps_ret (pe_lst (pa_cons (pv 5) (pa_cons (pv 6) pa_nil))))))))))))), ?_⟩
  have bad : (a.isS s.toNat = false ∨ a.isS t.toNat = false) -> ∀ D', H D' = none -> Q (.ref D') (upd H D' (.lst [.int (-2)])) := fun z D' hD' => q.no R (Ext.refl H) lt (by
   dsimp only [Su54.does]
   rw [if_pos z]) D' hD'
  refine ⟨_, rfl, _, rfl, T, s, a, true, ls, lh, ss, hs, rfl, hs0, R, G, fun p x hp ex hI => ?_, fun hI => ?_⟩
  ·refine ⟨_, rfl, _, rfl, T, t, a, true, ls, lh, ss, hs, rfl, ht0, R, G, fun p2 x2 hp2 ex2 hI2 => ?_, fun hI2 => ?_⟩
   ·refine ⟨_, rfl, _, rfl, iteF ?_⟩
    refine ⟨_, rfl, _, rfl, iteF ?_⟩
    have exs : a.street s.toNat = x := street_of ex
    have exs2 : a.street t.toNat = x2 := street_of ex2
    have xn : x.name ≠ 0 := by
     have := isS_of ex
     rw [hI] at this
     simpa using this
    have xn2 : x2.name ≠ 0 := by
     have := isS_of ex2
     rw [hI2] at this
     simpa using this
    have hII : ¬ (a.isS s.toNat = false ∨ a.isS t.toNat = false) := by rw [hI, hI2]; decide
    refine ⟨_, rfl, _, rfl, rfl, _, rfl, ?_⟩
    refine ite2 (fun c => ?_) fun c => ?_
    ·have c : s = t := by rw [dec_V] at c; exact of_decide_eq_true c
     refine ⟨sz1, fun D' hD' => q.no R (Ext.refl H) lt ?_ D' hD'⟩
     dsimp only [Su54.does]
     rw [if_neg hII, if_pos (by rw [c])]
    have c : ¬ s = t := fun z => c (by rw [dec_V]; exact decide_eq_true z)
    have cN : ¬ s.toNat = t.toNat := by omega
    obtain ⟨dq, nq, mq, hq, k1, _⟩ := R.st _ p x hp ex
    obtain ⟨rfl, rfl⟩ := k1 xn
    obtain ⟨dr, nr, mr, hr2, k2, _⟩ := R.st _ p2 x2 hp2 ex2
    obtain ⟨rfl, rfl⟩ := k2 xn2
    refine ⟨_, rfl, p, CS, dq, _, _, rfl, hq, cl.s, cl.sn "metres" (by simp), rfl, _, rfl, p2, CS, dr, _, _, rfl, hr2, cl.s, cl.sn "metres" (by simp), rfl, _, _, rfl, rfl, ?_⟩
    have many : ∀ H1, Ext H H1 -> LT TB H1 -> (Su54.METRES < (a.street s.toNat).metres + (a.street t.toNat).metres ∨ Su54.SIDE < (a.side s.toNat 0).length + (a.side t.toNat 0).length ∨ Su54.SIDE < (a.side s.toNat 1).length + (a.side t.toNat 1).length) -> ∀ D', H1 D' = none -> Q (.ref D') (upd H1 D' (.lst [.int (-28)])) := fun H1 X1 l1 z D' hD' => q.no R X1 l1 (by
     dsimp only [Su54.does]
     rw [if_neg hII, if_neg cN, if_pos z]) D' hD'
    refine ⟨_, rfl, _, _, rfl, rfl, _, rfl, ?_⟩
    refine ite2 (fun c1 => ?_) fun c1 => ?_
    ·have c1 : (x.metres : Int) + x2.metres > 2000 := of_decide_eq_true c1
     exact iteT ⟨sz1, many H (Ext.refl H) lt (.inl (by rw [exs, exs2]; show 2000 < _; omega))⟩
    have c1 : ¬ (x.metres : Int) + x2.metres > 2000 := fun z => c1 (decide_eq_true z)
    refine ⟨_, rfl, _, rfl, _, rfl, T, s, t, 0, a, true, ls, lh, ss, hs, rfl, R, G, lt, hs0, ht0, by decide, fun H1 X1 lt1 => ⟨_, rfl, ?_⟩⟩
    refine ite2 (fun c2 => ?_) fun c2 => ?_
    ·have c2 : 10 < (a.side s.toNat 0).length + (a.side t.toNat 0).length := of_decide_eq_true c2
     exact iteT ⟨sz1, many H1 X1 lt1 (.inr (.inl c2))⟩
    have c2 : ¬ 10 < (a.side s.toNat 0).length + (a.side t.toNat 0).length := fun z => c2 (decide_eq_true z)
    refine ⟨_, rfl, _, rfl, _, rfl, T, s, t, 1, a, true, ls, lh, ss, hs, rfl, R.ext X1, G, lt1, hs0, ht0, by decide, fun H2 X2 lt2 => ⟨_, rfl, ?_⟩⟩
    refine ite2 (fun c3 => ?_) fun c3 => ?_
    ·have c3 : 10 < (a.side s.toNat 1).length + (a.side t.toNat 1).length := of_decide_eq_true c3
     exact ⟨sz1, many H2 (X1.trans X2) lt2 (.inr (.inr c3))⟩
    have c3 : ¬ 10 < (a.side s.toNat 1).length + (a.side t.toNat 1).length := fun z => c3 (decide_eq_true z)
    have okm : ¬ (Su54.METRES < (a.street s.toNat).metres + (a.street t.toNat).metres ∨ Su54.SIDE < (a.side s.toNat 0).length + (a.side t.toNat 0).length ∨ Su54.SIDE < (a.side s.toNat 1).length + (a.side t.toNat 1).length) := by
     rw [exs, exs2]
     show ¬ (2000 < x.metres + x2.metres ∨ 10 < _ ∨ 10 < _)
     omega
    have J := G.join hI hI2 cN okm
    have XA := X1.trans X2
    refine ⟨_, rfl, _, rfl, _, rfl, T, s, t, 0, a, ls, lh, ss, hs, x, rfl, hs0, ht0, by decide, R.ext XA, G.o, lt2, ex, xn, fun H3 R3 lt3 K3 => ?_⟩
    have R3 : TownR K CT CS CH H3 T (handed a s.toNat t.toNat 0) true ls lh ss hs := R3
    refine ⟨_, rfl, _, rfl, _, rfl, T, s, t, 1, handed a s.toNat t.toNat 0, ls, lh, ss, hs, x, rfl, hs0, ht0, by decide, R3, half_good G J, lt3, ex, xn, fun H4 R4 lt4 K4 => ?_⟩
    have R4 : TownR K CT CS CH H4 T (handed (handed a s.toNat t.toNat 0) s.toNat t.toNat 1) true ls lh ss hs := R4
    refine ⟨_, _, rfl, rfl, ?_⟩
    obtain ⟨d4, n4', m4, h4, k4, _⟩ := R4.st _ p x hp ex
    obtain ⟨rfl, rfl⟩ := k4 xn
    refine ⟨_, rfl, _, rfl, p, CS, d4, _, rfl, h4, cl.s, cl.sn "metres" (by simp), (by show 3 < 1000; decide), ?_⟩
    rw [put_metres]
    have B5 : But p H4 (upd H4 p (.ins CS d4 (sf x.name (x.metres + x2.metres) (x.name == 0)))) := But.upd
    have R5 := R4.street_write (y := { x with metres := x.metres + x2.metres }) hp B5 ⟨d4, _, _, upd_same, fun _ => ⟨rfl, by show (x.metres : Int) + x2.metres = ((x.metres + x2.metres : Nat) : Int); omega⟩, fun z => absurd z xn⟩
    have lt5 := lt4.but B5 h4
    have K5 : Kp ls lh H4 (upd H4 p (.ins CS d4 (sf x.name (x.metres + x2.metres) (x.name == 0)))) := Kp.but B5 h4 upd_same fun b hb e => by rw [upd_ne hb] at e; exact e
    generalize hH5 : upd H4 p (.ins CS d4 (sf x.name (x.metres + x2.metres) (x.name == 0))) = H5 at R5 lt5 K5 ⊢
    obtain ⟨d6, n6, m6, h6, k6, _⟩ := R5.st _ p2 x2 hp2 (by
     show (a.streets.set s.toNat _)[t.toNat]? = some x2
     rw [List.getElem?_set_ne cN]
     exact ex2)
    refine ⟨_, rfl, p2, CS, d6, _, rfl, h6, cl.s, cl.sn "gone" (by simp), (by show 3 < 1000; decide), ?_⟩
    rw [put_gone]
    have B6 : But p2 H5 (upd H5 p2 (.ins CS d6 (sf n6 m6 true))) := But.upd
    have R6 := R5.street_write (y := ⟨0, 0⟩) hp2 B6 ⟨d6, n6, m6, upd_same, fun z => absurd rfl z, fun _ => rfl⟩
    have lt6 := lt5.but B6 h6
    have K6 : Kp ls lh H5 (upd H5 p2 (.ins CS d6 (sf n6 m6 true))) := Kp.but B6 h6 upd_same fun b hb e => by rw [upd_ne hb] at e; exact e
    refine ⟨_, rfl, _, rfl, sz2, fun D' hD' => ?_⟩
    have est : ({ handed (handed a s.toNat t.toNat 0) s.toNat t.toNat 1 with streets := (a.streets.set s.toNat { x with metres := x.metres + x2.metres }).set t.toNat ⟨0, 0⟩ } : Su54.Abs) = a.joined s.toNat t.toNat := by
     refine abs_ext ?_ (handed_joined G cN)
     show (a.streets.set s.toNat { x with metres := x.metres + x2.metres }).set t.toNat ⟨0, 0⟩ = (a.streets.set s.toNat { a.street s.toNat with metres := (a.street s.toNat).metres + (a.street t.toNat).metres }).set t.toNat ⟨0, 0⟩
     rw [exs, exs2]
    have R7 : TownR K CT CS CH (upd H5 p2 (.ins CS d6 (sf n6 m6 true))) T (a.joined s.toNat t.toNat) true ls lh ss hs := by rw [<- est]; exact R6
    have := q.fin R7 lt6 (((((Kp.ext XA).trans K3).trans K4).trans K5).trans K6) (v := ((x.metres + x2.metres : Nat) : Int)) (out := [wentN a s.toNat t.toNat 0 + wentN (handed a s.toNat t.toNat 0) s.toNat t.toNat 1]) (by
     dsimp only [Su54.does]
     rw [if_neg hII, if_neg cN, if_neg okm, off_went G cN, exs, exs2]
     rfl) D' hD'
    have e1 : ((x.metres + x2.metres : Nat) : Int) = (x.metres : Int) + x2.metres := by omega
    have e5 : (((x.metres + x2.metres : Nat) : Int) :: Su54Neutral.outs [wentN a s.toNat t.toNat 0 + wentN (handed a s.toNat t.toNat 0) s.toNat t.toNat 1]).map V.int = [V.int ((x.metres : Int) + x2.metres), V.int ((wentN a s.toNat t.toNat 0 : Nat) + (wentN (handed a s.toNat t.toNat 0) s.toNat t.toNat 1 : Nat))] := by
     rw [e1]
     rfl
    rw [e5] at this
    exact this
   ·refine ⟨_, rfl, _, rfl, iteF ?_⟩
    refine ⟨_, rfl, _, rfl, iteT ?_⟩
    exact ⟨sz1, bad (.inr hI2)⟩
  ·refine ⟨_, rfl, _, rfl, T, t, a, true, ls, lh, ss, hs, rfl, ht0, R, G, fun p2 x2 hp2 ex2 hI2 => ?_, fun hI2 => ?_⟩
   ·refine ⟨_, rfl, _, rfl, iteT (iteT ?_)⟩
    exact ⟨sz1, bad (.inl hI)⟩
   ·refine ⟨_, rfl, _, rfl, iteT (iteT ?_)⟩
    exact ⟨sz1, bad (.inl hI)⟩
end
def ctH (k m : Nat) (x : Su54.House) : Su54.House := if m <= x.at_ then { x with street := k, at_ := x.at_ - m } else x
theorem hos_nodup (a : Su54.Abs) (s : Nat) : (a.side s 0 ++ a.side s 1).Nodup := List.nodup_append.mpr ⟨side_nodup a s 0, side_nodup a s 1, fun x hx y hy e => by
 subst e
 have h1 := (mem_side.mp hx).2.2.2
 have h2 := (mem_side.mp hy).2.2.2
 omega⟩
def cut1 (a : Su54.Abs) (s m n : Nat) : Su54.Abs := { a with streets := (a.streets ++ [(⟨n, (a.street s).metres - m⟩ : Su54.Street)]).set s { a.street s with metres := m } }
theorem cut1_side (a : Su54.Abs) (s m n s' d : Nat) : (cut1 a s m n).side s' d = a.side s' d := Alike.side (a := a) (b := cut1 a s m n) ⟨rfl, fun _ => ⟨rfl, rfl, rfl, rfl⟩⟩ s' d
theorem cut_sets {a : Su54.Abs} (G : Good a) {s m n : Nat} (hs : s < a.streets.length) : sets (cut1 a s m n) (ctH a.streets.length m) (a.side s 0 ++ a.side s 1) = a.cut s m n := by
 rw [sets_map (p := fun x => alive s 0 x || alive s 1 x) (hos_nodup a s) fun k x e => ?_]
 ·refine abs_ext ?_ ?_
  ·show (a.streets ++ [(⟨n, (a.street s).metres - m⟩ : Su54.Street)]).set s { a.street s with metres := m } = (a.streets.set s { a.street s with metres := m }) ++ [⟨n, (a.street s).metres - m⟩]
   rw [List.set_append_left _ _ hs]
  ·show a.houses.map _ = a.houses.map _
   refine List.map_congr_left fun x hx => ?_
   obtain ⟨k, hk⟩ := List.getElem?_of_mem hx
   by_cases c : x.street = s /\ x.gone = false
   ·have hd := (G.ho k x hk c.2).1
    have e : (alive s 0 x || alive s 1 x) = true := by
     rw [Bool.or_eq_true, alive_iff, alive_iff]
     by_cases z : x.side = 0
     ·exact .inl ⟨c.2, c.1, z⟩
     ·exact .inr ⟨c.2, c.1, by omega⟩
    rw [if_pos e]
    unfold ctH
    by_cases z : m <= x.at_
    ·rw [if_pos z, if_pos ⟨c.1, c.2, z⟩]
    ·rw [if_neg z, if_neg fun w => z w.2.2]
   ·rw [if_neg (by
     rw [Bool.or_eq_true, alive_iff, alive_iff]
     rintro (z | z) <;> exact c ⟨z.2.1, z.1⟩), if_neg fun w => c ⟨w.1, w.2.1⟩]
 ·have e : a.houses[k]? = some x := e
  rw [List.mem_append, mem_side, mem_side, house_of e, Bool.or_eq_true, alive_iff, alive_iff]
  have := (List.getElem?_eq_some_iff.mp e).1
  exact ⟨fun z => z.elim (fun z => .inl z.2) fun z => .inr z.2, fun z => z.elim (fun z => .inl ⟨this, z⟩) fun z => .inr ⟨this, z⟩⟩
section
variable {P : Program} {w : World} {K : Frag} {mg : Str -> Option Value} {base : Heap} {CT CS CH TB np : Addr}
abbrev sCut : Stmt := top 67
abbrev cCut : List Nat -> Su54.Call := fun l => .cut (l.getD 0 0) (l.getD 1 0) (l.getD 2 0)
theorem scCut : FnScope ["town", "s", "m", "n", "street", "serial", "metres", "house"] ["town", "s", "m", "n"] (defScope sCut) := scOf
theorem ok_cut {fI : Addr} {fdI : FuncData} (D : Def K mg "cut_street" sCut ["town", "s", "m", "n"]) (cl : Cl K CT CS CH) (M : Mk K CS fI) (FI : FnOk P w K mg base CX0 1 fI fdI ["self", "name", "metres"] (spInitS CS)) (bI : Binds K fdI ["self", "name", "metres"] []) (gS : mg "Street" = some (.ref CS)) (g1 : mg "len" = none)
  (n1 : Num mg "NO_SUCH" (-2)) (n2 : Num mg "OUT_OF_RANGE" (-22)) (n3 : Num mg "SO_ALREADY" (-17)) (n4 : Num mg "TOO_MANY" (-28)) (n5 : Num mg "MOST_STREETS" 6)
  (o0 : Ok P w K mg base 1 "find_street" ["town", "s"] (spFindS K CT CS CH)) (o1 : Ok P w K mg base 1 "is_name" ["n"] spIsName) (o2 : Ok P w K mg base 2 "is_name_used" ["town", "n"] (spUsed K CT CS CH)) (o3 : Ok P w K mg base 3 "houses_of_street" ["town", "s"] (spHosW K CT CS CH TB)) :
  Ok P w K mg base 4 "cut_street" ["town", "s", "m", "n"] (spDo K CT CS CH TB 3 cCut) := by
 refine D.ok scCut spDo_len fun f cdv A outer s0 H vs Q E hr h => ?_
 ·obtain ⟨T, xs, a, ls, lh, ss, hs, rfl, hl, hx, R, G, lt, q⟩ := h
  obtain ⟨s, m, n, rfl⟩ := three_of hl
  have hs0 := (hx s (by simp)).1
  have hm0 := (hx m (by simp)).1
  have hn0 := (hx n (by simp)).1
  have q : Want K CT CS CH TB T ls lh H a (.cut s.toNat m.toNat n.toNat) Q := q
  have hr1 := hr.mono (show 1 <= 3 by decide)
  have hr2 := hr.mono (show 2 <= 3 by decide)
  refine ⟨_, pss_cons (ps_set (i := 4) scCut.nd rfl (Or.inl rfl) (pe_ok o0 hr1 rfl (pa_cons (pv 0) (pa_cons (pv 1) pa_nil))))
   (pss_cons (ps_if (pt_cmp (pc_isN (pv 4))) (pss_one (ps_ret (pe_lst (pa_cons (pe_num n1 rfl) pa_nil)))) pss_nil)
   (pss_cons (ps_if (PW.pt (pw_or (pt_cmpR op_eq (pv 2) pe_int rfl) (pw_or (pt_cmpR op_ge (pv 2) (pe_fld (pv 4) rfl) rfl) (pw_or1 (pt_not (pt_val (pe_ok o1 hr1 rfl (pa_cons (pv 3) pa_nil)))))))) (pss_one (ps_ret (pe_lst (pa_cons (pe_num n2 rfl) pa_nil)))) pss_nil)
   (pss_cons (ps_if (pt_val (pe_ok o2 hr2 rfl (pa_cons (pv 0) (pa_cons (pv 3) pa_nil)))) (pss_one (ps_ret (pe_lst (pa_cons (pe_num n3 rfl) pa_nil)))) pss_nil)
   (pss_cons (ps_if (pt_cmpR op_eq (pe_callB call_len rfl g1 PySem.boot_len (pa_cons (pe_fld (pv 0) rfl) pa_nil)) (pe_num n5 rfl) rfl) (pss_one (ps_ret (pe_lst (pa_cons (pe_num n4 rfl) pa_nil)))) pss_nil)
   (pss_cons (ps_set (i := 5) scCut.nd rfl (Or.inl rfl) (pe_callB call_len rfl g1 PySem.boot_len (pa_cons (pe_fld (pv 0) rfl) pa_nil)))
   (pss_cons (ps_set (i := 6) scCut.nd rfl (Or.inl rfl) (pe_op op_sub (pe_fld (pv 4) rfl) (pv 2)))
   (pss_cons (ps_expr (pe_bm PySem.F.plainAttrs_list PySem.F.slot_list_append PySem.F.type_list_append mt_append (pe_fld (pv 0) rfl) (pa_cons (pe_make M FI hr2 rfl gS bI .nil pass0 (pa_cons (pv 3) (pa_cons (pv 6) pa_nil))) pa_nil)))
   (pss_cons (ps_fld (pv 4) (pv 2) rfl)
   (pss_cons (ps_for PassesOwn.never rfl (pi_list (pe_ok o3 hr rfl (pa_cons (pv 0) (pa_cons (pv 1) pa_nil)))) (pg_name (i := 7) scCut.nd rfl (Or.inl rfl))
    (pss_one (ps_if (pt_cmpR op_ge (pe_fld (pv 7) rfl) (pv 2) rfl) (pss_cons (ps_fld (pv 7) (pv 5) rfl) (pss_one (ps_fldaug (pv 7) (pv 2) in_sub))) pss_nil)))
   (pss_one (ps_ret (pe_lst (pa_cons (pv 5) (pa_cons (pv 6) pa_nil)))))))))))))), ?_⟩
  refine ⟨_, rfl, _, rfl, T, s, a, true, ls, lh, ss, hs, rfl, hs0, R, G, fun p x hp ex hI => ?_, fun hI => ?_⟩
  ·have exs : a.street s.toNat = x := street_of ex
   have hsl : s.toNat < a.streets.length := (List.getElem?_eq_some_iff.mp ex).1
   have xn : x.name ≠ 0 := by
    have := isS_of ex
    rw [hI] at this
    simpa using this
   have hI' : ¬ a.isS s.toNat = false := by rw [hI]; decide
   refine ⟨_, rfl, _, rfl, iteF ?_⟩
   obtain ⟨dq, nq, mq, hq, k1, _⟩ := R.st _ p x hp ex
   obtain ⟨rfl, rfl⟩ := k1 xn
   have bad : (m = 0 ∨ m >= (x.metres : Int) ∨ ¬ (1 <= n /\ n <= 999)) -> ∀ D', H D' = none -> Q (.ref D') (upd H D' (.lst [.int (-22)])) := fun z D' hD' => q.no R (Ext.refl H) lt (by
    dsimp only [Su54.does]
    rw [if_neg hI', if_pos]
    rw [exs]
    rcases z with z | z | z
    ·exact .inl (by omega)
    ·exact .inr (.inl (by omega))
    ·exact .inr (.inr (okName_no hn0 z))) D' hD'
   refine ⟨_, rfl, rfl, _, rfl, ?_⟩
   refine ite2 (fun c1 => ?_) fun c1 => ?_
   ·have c1 : m = 0 := by rw [dec_V] at c1; exact of_decide_eq_true c1
    exact iteT ⟨sz1, bad (.inl c1)⟩
   have c1 : ¬ m = 0 := fun z => c1 (by rw [dec_V]; exact decide_eq_true z)
   refine ⟨_, rfl, _, rfl, p, CS, dq, _, _, rfl, hq, cl.s, cl.sn "metres" (by simp), rfl, _, _, rfl, rfl, _, rfl, ?_⟩
   refine ite2 (fun c2 => ?_) fun c2 => ?_
   ·exact iteT ⟨sz1, bad (.inr (.inl (of_decide_eq_true c2)))⟩
   have c2 : ¬ m >= (x.metres : Int) := fun z => c2 (decide_eq_true z)
   refine ⟨_, rfl, n, rfl, _, rfl, ?_⟩
   refine ite2 (fun c3 => ?_) fun c3 => ?_
   ·have c3 : (!decide (1 <= n /\ n <= 999)) = true := c3
    rw [Bool.not_eq_true'] at c3
    exact ⟨sz1, bad (.inr (.inr (of_decide_eq_false c3)))⟩
   have c3 : 1 <= n /\ n <= 999 := by
    have c3 : ¬ (!decide (1 <= n /\ n <= 999)) = true := c3
    simpa using c3
   have ok1 : ¬ (m.toNat = 0 ∨ (a.street s.toNat).metres <= m.toNat ∨ Su54.okName n.toNat = false) := by
    rw [okName_of c3, exs]
    simp
    omega
   refine ⟨_, rfl, _, rfl, T, n, a, true, ls, lh, ss, hs, rfl, hn0, R, fun H1 sm => ⟨_, rfl, ?_⟩⟩
   have X1 := Ext.same sm
   have lt1 : LT TB H1 := lt.same sm
   refine ite2 (fun c4 => ?_) fun c4 => ?_
   ·refine ⟨sz1, fun D' hD' => q.no R X1 lt1 ?_ D' hD'⟩
    dsimp only [Su54.does]
    rw [if_neg hI', if_neg ok1, if_pos c4]
   have R1 := R.ext X1
   obtain ⟨dT1, hT1⟩ := R1.tw
   have s6 := G.sl
   have hq1 := sm _ _ hq
   refine ⟨_, rfl, T, CT, dT1, _, _, rfl, hT1, cl.t, cl.tn "streets" (by simp), rfl, _, ss.length, rfl, .inl ⟨_, SqL.of R1.ls, by rw [List.length_map]⟩, rfl, _, rfl, ?_⟩
   refine ite2 (fun c => ?_) fun c => ?_
   ·have c : decide (V.int (ss.length : Nat) = V.int 6) = true := c
    rw [dec_V] at c
    have c := of_decide_eq_true c
    refine ⟨sz1, fun D' hD' => q.no R X1 lt1 ?_ D' hD'⟩
    dsimp only [Su54.does]
    rw [if_neg hI', if_neg ok1, if_neg c4, if_pos (by rw [<- R.sl]; show 6 <= ss.length; omega)]
   have c : ¬ ((ss.length : Nat) : Int) = 6 := fun z => c (by
    show decide (V.int (ss.length : Nat) = V.int 6) = true
    rw [dec_V]
    exact decide_eq_true z)
   have l6 : ¬ Su54.STREETS <= a.streets.length := by rw [<- R.sl]; show ¬ 6 <= ss.length; rw [<- R.sl] at s6; omega
   refine ⟨_, rfl, T, CT, dT1, _, _, rfl, hT1, cl.t, cl.tn "streets" (by simp), rfl, _, ss.length, rfl, .inl ⟨_, SqL.of R1.ls, by rw [List.length_map]⟩, ?_⟩
   refine ⟨_, rfl, p, CS, dq, _, _, rfl, hq1, cl.s, cl.sn "metres" (by simp), rfl, _, rfl, _, _, rfl, rfl, ?_⟩
   refine ⟨_, rfl, T, CT, dT1, _, _, rfl, hT1, cl.t, cl.tn "streets" (by simp), rfl, .inl ⟨rfl, _, SqL.of R1.ls⟩, _, rfl, _, rfl, ?_⟩
   intro y dy ny ndy ney
   refine ⟨y, dy, n, (x.metres : Int) - m, rfl, upd_same, fun H3 hy B3 dm3 => ⟨rfl, ?_⟩⟩
   have k3 : ∀ c u, H1 c = some u -> H3 c = some u := fun c u e => B3 c u (by rw [upd_ne (ne_of_none e ny), upd_ne (ne_of_none e ndy)]; exact e) (ne_of_none e ny)
   have n3 : ∀ c, H3 c = none -> H1 c = none := fun c e => by
    by_cases z : c = y
    ·rw [z]; exact ny
    ·have := dm3 c z e
     rw [upd_ne z] at this
     by_cases z2 : c = dy
     ·rw [z2]; exact ndy
     ·rw [upd_ne z2] at this; exact this
   have hls3 := k3 _ _ R1.ls
   have yl : y ≠ ls := fun z => by rw [z, R1.ls] at ny; cases ny
   refine ⟨ls, _, _, rfl, rfl, hls3, (by rw [List.length_map]; exact small40 (by rw [R.sl]; omega)), ?_⟩
   have keep : ∀ c u, H1 c = some u -> c ≠ ls -> upd H3 ls (.lst (ss.map V.ref ++ [.ref y])) c = some u := fun c u e n => by rw [upd_ne n]; exact k3 _ _ e
   have R3 := R1.street_add (H' := upd H3 ls (.lst (ss.map V.ref ++ [.ref y]))) (p := y) (dx := dy) (n := n.toNat) (m := x.metres - m.toNat) (by omega) keep ny (by
    have e1 : ((x.metres - m.toNat : Nat) : Int) = (x.metres : Int) - m := by omega
    rw [upd_ne yl, hy, Int.toNat_of_nonneg hn0, e1]) (by rw [upd_same, List.map_append]; rfl)
   have lt3 : LT TB (upd H3 ls (.lst (ss.map V.ref ++ [.ref y]))) := lt1.butL keep R1.ls
   have Kp3 : Kp ls lh H (upd H3 ls (.lst (ss.map V.ref ++ [.ref y]))) := ⟨fun b xs e n1 n2 => keep _ _ (sm _ _ e) n1, fun b o u e => keep _ _ (sm _ _ e) (ne_of (sm _ _ e) R1.ls (by intro z; cases z)), fun b e => by
    by_cases z : b = ls
    ·rw [z, upd_same] at e; cases e
    ·rw [upd_ne z] at e; exact sm.free (n3 _ e)⟩
   have hq3 := keep _ _ hq1 (ne_of hq1 R1.ls (by intro z; cases z))
   generalize hH3 : upd H3 ls (.lst (ss.map V.ref ++ [.ref y])) = H4 at R3 lt3 Kp3 hq3 ⊢
   refine ⟨_, rfl, _, rfl, p, CS, dq, _, rfl, hq3, cl.s, cl.sn "metres" (by simp), (by show 3 < 1000; decide), ?_⟩
   have epm : putF "metres" (.int m) (sf x.name x.metres (x.name == 0)) = sf x.name m (x.name == 0) := rfl
   rw [epm]
   have B5 : But p H4 (upd H4 p (.ins CS dq (sf x.name m (x.name == 0)))) := But.upd
   have hp' : (ss ++ [y])[s.toNat]? = some p := by rw [List.getElem?_append_left (by rw [R.sl]; exact hsl)]; exact hp
   have R5 : TownR K CT CS CH (upd H4 p (.ins CS dq (sf x.name m (x.name == 0)))) T (cut1 a s.toNat m.toNat n.toNat) true ls lh (ss ++ [y]) hs := by
    have := R3.street_write (y := { x with metres := m.toNat }) hp' B5 ⟨dq, _, _, upd_same, fun _ => ⟨rfl, by show m = ((m.toNat : Nat) : Int); omega⟩, fun z => absurd z xn⟩
    unfold cut1
    rw [exs]
    exact this
   have lt5 := lt3.but B5 hq3
   have K5 : Kp ls lh H (upd H4 p (.ins CS dq (sf x.name m (x.name == 0)))) := Kp3.trans (Kp.but B5 hq3 upd_same fun b hb e => by rw [upd_ne hb] at e; exact e)
   generalize hH5 : upd H4 p (.ins CS dq (sf x.name m (x.name == 0))) = H5 at R5 lt5 K5 ⊢
   have GO : GoodO (cut1 a s.toNat m.toNat n.toNat) := ⟨G.hl, G.di, G.ct⟩
   refine ⟨_, rfl, _, rfl, T, s, cut1 a s.toNat m.toNat n.toNat, true, ls, lh, ss ++ [y], hs, rfl, R5, GO, lt5, hs0, fun H6 D6 X6 lt6 nD6 hD6 => ?_⟩
   rw [cut1_side, cut1_side] at hD6
   have hLn := hos_nodup a s.toNat
   have hLm : ∀ j ∈ a.side s.toNat 0 ++ a.side s.toNat 1, j < a.houses.length /\ (a.house j).gone = false := hos_alive
   have hfin := cut_sets G (m := m.toNat) (n := n.toNat) hsl
   have R6 := R5.ext X6
   generalize hL : a.side s.toNat 0 ++ a.side s.toNat 1 = L at *
   refine ⟨D6, rfl, ⟨_, SqL.of hD6⟩, for_list (xs := refs hs L) (fun i σ H' => ∃ o7, σ = [some (.ref T), some (.int s), some (.int m), some (.int n), some (.ref p), some (.int (ss.length : Nat)), some (.int ((x.metres : Int) - m)), o7] /\ TownR K CT CS CH H' T (sets (cut1 a s.toNat m.toNat n.toNat) (ctH a.streets.length m.toNat) (L.take i)) true ls lh (ss ++ [y]) hs /\ LT TB H' /\ Kp ls lh H6 H' /\ H' D6 = some (.lst (refs hs L)))
    ⟨none, rfl, R6, lt6, Kp.ext (Ext.refl _), hD6⟩ (fun i σ H' _ e => ?_) (fun i v σ H' hi e => ?_) fun σ H' e => ?_⟩
   ·obtain ⟨o7, rfl, _, _, _, h1⟩ := e
    exact SqL.of h1
   ·obtain ⟨o7, rfl, Ri, lti, Ki, hDi⟩ := e
    obtain ⟨j, hj, rfl⟩ := refs_get hi
    have mj := hLm j (List.mem_of_getElem? hj)
    have nj := take_not hLn hj
    have eaj : (sets (cut1 a s.toNat m.toNat n.toNat) (ctH a.streets.length m.toNat) (L.take i)).house j = a.house j := sets_house nj
    obtain ⟨pj, dx, pl, hpj, h1, h2⟩ := Ri.alive (j := j) (by
     have := (Ri.hl).symm.trans R.hl
     rw [this]; exact mj.1) (by rw [eaj]; exact mj.2)
    unfold plOf at h2
    unfold hfOf at h1
    rw [eaj] at h1 h2
    rw [getD_at hpj]
    have elj : a.houses[j]? = some (a.house j) := by
     have e : a.houses[j]? = some a.houses[j] := List.getElem?_eq_getElem mj.1
     rw [house_of e]; exact e
    have etk : L.take (i + 1) = L.take i ++ [j] := by rw [List.take_add_one, hj]; rfl
    have nD : D6 ≠ pj := ne_of hDi h1 (by intro z; cases z)
    have hout : ∀ z, (sets (cut1 a s.toNat m.toNat n.toNat) (ctH a.streets.length m.toNat) (L.take i)).houses[j]? = some z -> z = a.house j := fun z hz => by
     rw [sets_out nj] at hz
     have hz : a.houses[j]? = some z := hz
     rw [elj] at hz
     exact (Option.some.inj hz).symm
    refine ⟨_, rfl, pj, CH, dx, _, _, rfl, h1, cl.h, cl.hn "metre" (by simp), rfl, _, rfl, _, _, rfl, rfl, _, rfl, ?_⟩
    refine ite2 (fun c5 => ?_) fun c5 => ?_
    ·have c5 : ((a.house j).at_ : Int) >= m := of_decide_eq_true c5
     refine ⟨_, rfl, _, rfl, pj, CH, dx, _, rfl, h1, cl.h, cl.hn "street" (by simp), sq6, ?_⟩
     rw [put_street]
     refine ⟨_, rfl, pj, CH, dx, _, _, rfl, upd_same, cl.h, cl.hn "metre" (by simp), rfl, _, rfl, _, _, rfl, rfl, dx, _, upd_same, sq6, ?_⟩
     rw [put_metre, upd_upd]
     have B1 : But pj H' (upd H' pj (.ins CH dx (hf j (ss.length : Nat) ((a.house j).side : Int) ((a.house j).at_ - m : Int) pl true))) := But.upd
     refine ⟨some (.ref pj), rfl, ?_, lti.but B1 h1, Ki.trans (Kp.but B1 h1 upd_same fun b hb e => by rw [upd_ne hb] at e; exact e), B1 _ _ hDi nD⟩
     rw [etk, sets_snoc]
     refine Ri.write (f := ctH a.streets.length m.toNat) hpj B1 fun z hz => ?_
     rw [hout z hz]
     have ec : ctH a.streets.length m.toNat (a.house j) = { a.house j with street := a.streets.length, at_ := (a.house j).at_ - m.toNat } := if_pos (by omega)
     rw [ec]
     refine ⟨dx, pl, (ss.length : Nat), ((a.house j).side : Int), ((a.house j).at_ - m : Int), by
      show upd H' pj _ pj = some (HO.ins CH dx (hf j _ _ _ pl (!(a.house j).gone)))
      rw [mj.2]; exact upd_same, fun _ => ⟨?_, rfl, ?_, ?_⟩⟩
     ·show ((ss.length : Nat) : Int) = ((a.streets.length : Nat) : Int)
      rw [R.sl]
     ·show _ = (((a.house j).at_ - m.toNat : Nat) : Int)
      omega
     ·exact B1.seqT h1 h2
    ·have c5 : ¬ ((a.house j).at_ : Int) >= m := fun z => c5 (decide_eq_true z)
     refine ⟨some (.ref pj), rfl, ?_, lti, Ki, hDi⟩
     rw [etk, sets_snoc]
     refine Ri.write (f := ctH a.streets.length m.toNat) hpj (fun b u e _ => e) fun z hz => ?_
     rw [hout z hz]
     have ec : ctH a.streets.length m.toNat (a.house j) = a.house j := if_neg (by omega)
     rw [ec]
     refine ⟨dx, pl, _, _, _, by rw [mj.2]; exact h1, fun _ => ⟨rfl, rfl, rfl, h2⟩⟩
   ·obtain ⟨o7, rfl, Ri, lti, Ki, _⟩ := e
    rw [refs_len, List.take_length, hfin] at Ri
    refine ⟨_, rfl, _, rfl, sz2, fun D' hD' => ?_⟩
    have := q.fin Ri lti (K5.trans ((Kp.ext X6).trans Ki)) (v := (a.streets.length : Nat)) (out := [x.metres - m.toNat]) (by
     dsimp only [Su54.does]
     rw [if_neg hI', if_neg ok1, if_neg c4, if_neg l6, exs]
     rfl) D' hD'
    have e5 : ((a.streets.length : Int) :: Su54Neutral.outs [x.metres - m.toNat]).map V.int = [V.int (ss.length : Nat), V.int ((x.metres : Int) - m)] := by
     show [V.int (a.streets.length : Nat), V.int ((x.metres - m.toNat : Nat) : Int)] = _
     have e1 : ((x.metres - m.toNat : Nat) : Int) = (x.metres : Int) - m := by omega
     rw [e1, R.sl]
    rw [e5] at this
    exact this
  ·refine ⟨_, rfl, _, rfl, iteT ?_⟩
   refine ⟨sz1, fun D' hD' => q.no R (Ext.refl H) lt ?_ D' hD'⟩
   dsimp only [Su54.does]
   rw [if_pos hI]
end
def mkNames : List Str := ["begin", "add_street", "rename_street", "build_house", "pull_house", "put_plate", "take_plate", "number_anew", "plate_between", "list_order", "check_right", "count_fewest", "mend_side", "find_plate", "find_opposite", "find_next", "find_closest", "measure_walk", "join_streets", "cut_street", "count_houses", "least_free", "list_streets", "look_at", "list_bare", "tell_state"]
def spMakers (fs : Nat -> Addr) : Sp := fun vs H Q _ => vs = [] /\ ∀ p, H p = none -> Q (.ref p) (upd H p (.tup ((List.range 26).map fun i => V.ref (fs i))))
def MkOk (P : Program) (w : World) (K : Frag) (mg : Str -> Option Value) (base : Heap) (CT CS CH TB : Addr) (i n : Nat) (cX : List Nat -> Su54.Call) : Prop := ∃ (x : Str) (ps : List Str), mkNames[i]? = some x /\ Ok P w K mg base 5 x ps (spDo K CT CS CH TB n cX)
section
variable {P : Program} {w : World} {K : Frag} {mg : Str -> Option Value} {base : Heap} {CT CS CH TB np : Addr} {fs : Nat -> Addr}
abbrev sMakers : Stmt := top 87
theorem scMakers : FnScope [] [] (defScope sMakers) := scOf
theorem ok_makers (D : Def K mg "call_makers" sMakers []) (hm : ∀ i x, mkNames[i]? = some x -> mg x = some (.ref (fs i))) : Ok P w K mg base 1 "call_makers" [] (spMakers fs) := by
 refine D.ok scMakers (fun vs H Q E h => ?_) fun f cdv A outer s0 H vs Q E hr h => ?_
 ·obtain ⟨rfl, _⟩ := h; rfl
 ·obtain ⟨rfl, q⟩ := h
  have g : ∀ i x, mkNames[i]? = some x -> mg x = some (.ref (fs i)) := hm
  refine ⟨_, pss_one (ps_ret (pe_tup (pa_cons (pe_glob (v := .ref (fs 0)) rfl (g 0 _ rfl) rfl) (pa_cons (pe_glob (v := .ref (fs 1)) rfl (g 1 _ rfl) rfl) (pa_cons (pe_glob (v := .ref (fs 2)) rfl (g 2 _ rfl) rfl) (pa_cons (pe_glob (v := .ref (fs 3)) rfl (g 3 _ rfl) rfl) (pa_cons (pe_glob (v := .ref (fs 4)) rfl (g 4 _ rfl) rfl) (pa_cons (pe_glob (v := .ref (fs 5)) rfl (g 5 _ rfl) rfl) (pa_cons (pe_glob (v := .ref (fs 6)) rfl (g 6 _ rfl) rfl) (pa_cons (pe_glob (v := .ref (fs 7)) rfl (g 7 _ rfl) rfl) (pa_cons (pe_glob (v := .ref (fs 8)) rfl (g 8 _ rfl) rfl)
   (pa_cons (pe_glob (v := .ref (fs 9)) rfl (g 9 _ rfl) rfl) (pa_cons (pe_glob (v := .ref (fs 10)) rfl (g 10 _ rfl) rfl) (pa_cons (pe_glob (v := .ref (fs 11)) rfl (g 11 _ rfl) rfl) (pa_cons (pe_glob (v := .ref (fs 12)) rfl (g 12 _ rfl) rfl) (pa_cons (pe_glob (v := .ref (fs 13)) rfl (g 13 _ rfl) rfl) (pa_cons (pe_glob (v := .ref (fs 14)) rfl (g 14 _ rfl) rfl) (pa_cons (pe_glob (v := .ref (fs 15)) rfl (g 15 _ rfl) rfl) (pa_cons (pe_glob (v := .ref (fs 16)) rfl (g 16 _ rfl) rfl) (pa_cons (pe_glob (v := .ref (fs 17)) rfl (g 17 _ rfl) rfl)
   (pa_cons (pe_glob (v := .ref (fs 18)) rfl (g 18 _ rfl) rfl) (pa_cons (pe_glob (v := .ref (fs 19)) rfl (g 19 _ rfl) rfl) (pa_cons (pe_glob (v := .ref (fs 20)) rfl (g 20 _ rfl) rfl) (pa_cons (pe_glob (v := .ref (fs 21)) rfl (g 21 _ rfl) rfl) (pa_cons (pe_glob (v := .ref (fs 22)) rfl (g 22 _ rfl) rfl) (pa_cons (pe_glob (v := .ref (fs 23)) rfl (g 23 _ rfl) rfl) (pa_cons (pe_glob (v := .ref (fs 24)) rfl (g 24 _ rfl) rfl) (pa_cons (pe_glob (v := .ref (fs 25)) rfl (g 25 _ rfl) rfl) pa_nil)))))))))))))))))))))))))))), ?_⟩
  exact ⟨(by show 26 <= sizeLine; decide), q⟩
theorem nil_of0 {xs : List Int} (h : xs.length = 0) : xs = [] := List.length_eq_zero_iff.mp h
theorem step_none {c : Int} {xs : List Int} (hs : PySu54.shape c = some (xs.length, 0)) (h0 : ¬ c = 0) : Su54Neutral.step none (c :: xs) = (none, [-11]) := by
 rcases shape_in hs with rfl | rfl | rfl | rfl | rfl | rfl | rfl | rfl | rfl | rfl | rfl | rfl | rfl | rfl | rfl | rfl | rfl | rfl | rfl | rfl | rfl | rfl | rfl | rfl | rfl | rfl
 ·exact absurd rfl h0
 all_goals
  have hs := (Prod.mk.inj (Option.some.inj hs)).1.symm
  first
  | (obtain ⟨x, y, z, rfl⟩ := three_of hs; rfl)
  | (obtain ⟨x, y, rfl⟩ := two_of hs; rfl)
  | (obtain ⟨x, rfl⟩ := one_of hs; rfl)
  | (rw [nil_of0 hs]; rfl)
theorem step_some {a : Su54.Abs} {c : Int} {xs : List Int} {y : Su54.Call} (h : Su54Neutral.callOf (c :: xs) = some y) : Su54Neutral.step (some a) (c :: xs) = (some (Su54.does a y).1, (Su54.does a y).2.value :: Su54Neutral.outs (Su54.does a y).2.out) := by
 unfold Su54Neutral.step
 rw [h]
 rfl
abbrev sAC : Stmt := top 86
theorem scAC : FnScope ["town", "call", "given"] ["town", "call", "given"] (defScope sAC) := scOf
theorem ok_ac (D : Def K mg "answer_call" sAC ["town", "call", "given"]) (cl : Cl K CT CS CH) (nB : Num mg "BEGIN" 0) (nN : Num mg "NOT_BEGUN" (-11)) (o0 : Ok P w K mg base 1 "begin" ["town"] (spBeg K CT CS CH TB)) (o1 : Ok P w K mg base 1 "call_makers" [] (spMakers fs)) (o2 : Ok P w K mg base 6 "make_call" ["maker", "town", "given"] (spMake P w K mg base 5))
  (hm : ∀ i x, mkNames[i]? = some x -> mg x = some (.ref (fs i))) (hall : ∀ i : Nat, 1 <= i -> i <= 25 -> ∃ n cX, MkOk P w K mg base CT CS CH TB i n cX /\ PySu54.shape (i : Int) = some (n, 0) /\ ∀ xs : List Int, xs.length = n -> Su54Neutral.callOf ((i : Int) :: xs) = some (cX (xs.map Int.toNat))) :
  Ok P w K mg base 7 "answer_call" ["town", "call", "given"] (spAC K CT CS CH TB) := by
 refine D.ok scAC (fun vs H Q E h => ?_) fun f cdv A outer s0 H vs Q E hr h => ?_
 ·obtain ⟨T, c, g, xs, st, ls, lh, ss, hs, rfl, _⟩ := h; rfl
 ·obtain ⟨T, c, g, xs, st, ls, lh, ss, hs, rfl, hg, gls, glh, hsh, hx, R, G, lt, q⟩ := h
  refine ⟨_, pss_cons (ps_if (PW.pt (pw_and (pt_cmpR op_ne (pv 1) (pe_num nB rfl) rfl) (pw_and1 (pt_not (pt_val (pe_fld (pv 0) rfl)))))) (pss_one (ps_ret (pe_lst (pa_cons (pe_num nN rfl) pa_nil)))) pss_nil)
   (pss_one (ps_ret (pe_ok o2 hr rfl (pa_cons (pe_ix ix_tup (pe_ok0 o1 (hr.mono (show 1 <= 6 by decide)) rfl) (pv 1) (fun _ _ => rfl)) (pa_cons (pv 0) (pa_cons (pv 2) pa_nil)))))), ?_⟩
  obtain ⟨dT, hT⟩ := R.tw
  have hc25 : ∃ i : Nat, c = (i : Int) /\ i <= 25 := by
   rcases shape_in hsh with rfl | rfl | rfl | rfl | rfl | rfl | rfl | rfl | rfl | rfl | rfl | rfl | rfl | rfl | rfl | rfl | rfl | rfl | rfl | rfl | rfl | rfl | rfl | rfl | rfl | rfl
   all_goals exact ⟨_, (Int.toNat_of_nonneg (by decide)).symm, by decide⟩
  obtain ⟨i, ci, hi25⟩ := hc25
  have hat : atI ((List.range 26).map fun i => V.ref (fs i)) c = some (.ref (fs i)) := at_of ci (by rw [List.getElem?_map, List.getElem?_range (by omega)]; rfl)
  have nf : ∀ {Tm b : Addr} {o : HO}, H Tm = none -> (b = ls ∨ (upd H Tm o) b = none) -> (b = ls ∨ H b = none) := fun {Tm b o} hTm z => z.imp id fun z => (Ext.upd (o := o) hTm).2 _ z
  have nf2 : ∀ {Tm b : Addr} {o : HO}, H Tm = none -> (b = lh ∨ (upd H Tm o) b = none) -> (b = lh ∨ H b = none) := fun {Tm b o} hTm z => z.imp id fun z => (Ext.upd (o := o) hTm).2 _ z
  have x3 : xs.length <= 3 := by
   rcases shape_in hsh with rfl | rfl | rfl | rfl | rfl | rfl | rfl | rfl | rfl | rfl | rfl | rfl | rfl | rfl | rfl | rfl | rfl | rfl | rfl | rfl | rfl | rfl | rfl | rfl | rfl | rfl
   all_goals
    have z := (Prod.mk.inj (Option.some.inj hsh)).1
    rw [<- z]
    decide
  refine ⟨_, rfl, rfl, _, rfl, ?_⟩
  by_cases c0 : c = 0
  ·
   have i0 : i = 0 := by omega
   have hx0 : xs = [] := by
    rw [c0] at hsh
    exact nil_of0 (Prod.mk.inj (Option.some.inj hsh)).1.symm
   subst c0 hx0 i0
   refine iteF (iteF ?_)
   refine ⟨rfl, fun Tm hTm => ?_⟩
   have XT := Ext.upd (o := .tup ((List.range 26).map fun i => V.ref (fs i))) hTm
   obtain ⟨fb, fdb, b1, b2, b3, b4⟩ := o0
   have eb : fs 0 = fb := by
    have := hm 0 "begin" rfl
    rw [b1] at this
    cases this
    rfl
   refine ⟨_, rfl, Tm, _, _, _, rfl, rfl, .inl (.inl upd_same), hat, _, rfl, _, rfl, fs 0, T, g, [], fdb, _, _, rfl, XT.1 _ _ hg (fun _ z => by cases z), x3, by rw [eb]; exact b4.mono (by decide), by rw [eb]; exact b2, b3, ?_⟩
   refine ⟨T, _, _, ls, lh, ss, hs, rfl, R.ext XT, lt.upd hTm, fun H' D' l1 l2 R' lt' K' f1 f2 fD d1 d2 hD' => ?_⟩
   have es : Su54Neutral.step st [0] = (some ⟨[], []⟩, [0]) := by cases st <;> rfl
   have q := q H' D' l1 l2 [] []
   rw [es] at q
   exact q R' good_nil lt' ((Kp.ext XT).trans K') (.inr (XT.2 _ f1)) (.inr (XT.2 _ f2)) (XT.2 _ fD) d1 d2 hD'
  ·have tc : (!decide (V.int c = V.int 0)) = true := by rw [dec_V, decide_eq_false c0]; rfl
   refine (if_pos tc).mpr ?_
   refine ⟨_, rfl, T, CT, dT, _, _, rfl, hT, cl.t, cl.tn "begun" (by simp), rfl, _, rfl, ?_⟩
   cases st with
   | none =>
    refine (if_pos rfl).mpr ?_
    refine ⟨sz1, fun D' hD' => ?_⟩
    have es := step_none hsh c0
    have q := q (upd H D' (.lst [.int (-11)])) D' ls lh ss hs
    rw [es] at q
    refine q (R.ext (Ext.upd hD')) G (lt.upd hD') (Kp.ext (Ext.upd hD')) (.inl rfl) (.inl rfl) hD' (fun z => ?_) (fun z => ?_) upd_same
    ·rw [z, R.ls] at hD'; cases hD'
    ·rw [z, R.lh] at hD'; cases hD'
   | some a =>
    refine (if_neg (show ¬ (!true) = true by decide)).mpr ?_
    refine ⟨rfl, fun Tm hTm => ?_⟩
    have XT := Ext.upd (o := .tup ((List.range 26).map fun i => V.ref (fs i))) hTm
    obtain ⟨n, cX, ⟨x, ps, hxn, fm, fdm, b1, b2, b3, b4⟩, hsh2, hco⟩ := hall i (by omega) hi25
    have eb : fs i = fm := by
     have := hm i x hxn
     rw [b1] at this
     cases this
     rfl
    have hxl : xs.length = n := by
     rw [ci, hsh2] at hsh
     exact (Prod.mk.inj (Option.some.inj hsh)).1.symm
    have es := step_some (a := a) (hco xs hxl)
    rw [<- ci] at es
    refine ⟨_, rfl, Tm, _, _, _, rfl, rfl, .inl (.inl upd_same), hat, _, rfl, _, rfl, fs i, T, g, xs, fdm, ps, _, rfl, XT.1 _ _ hg (fun _ z => by cases z), x3, by rw [eb]; exact b4, by rw [eb]; exact b2, b3, ?_⟩
    refine ⟨T, xs, a, ls, lh, ss, hs, rfl, hxl, hx, R.ext XT, G, lt.upd hTm, fun H' D' ls' lh' ss' hs' R' lt' K' f1 f2 fD d1 d2 hD' => ?_⟩
    have q := q H' D' ls' lh' ss' hs'
    rw [es] at q
    exact q R' (does_good G _) lt' ((Kp.ext XT).trans K') (nf hTm f1) (nf2 hTm f2) (XT.2 _ fD) d1 d2 hD'
end
def BindsOk (x qual : Str) (st : Stmt) (ps : List Str) : Prop := ∀ (kV doc pm : Value) (an : Option Addr) (cdv ct : Value) (us : List Value), us.length = ps.length -> bindArgs (PySem.W.fnOf x qual (defArgs st) (defBody st) (defScope st) .none kV doc pm an cdv ct) ⟨us, []⟩ = pure (ps.zip us)
section
variable {K : Frag} {mg : Str -> Option Value} {h : Heap}
theorem def_mk {x : Str} {st : Stmt} {ps : List Str} {f : Addr} {oc : Value} {od an : Option Addr} {osl : Array (Option Value)} {kV doc pm cdv ct : Value} (X : K.In h) (G : h.Ns mainGlobals mg) (a : PySem.W.nsIn K mainGlobals x = some (some (.ref f))) (l : K.lookup f = some ⟨oc, od, .func (PySem.W.fnOf x x (defArgs st) (defBody st) (defScope st) .none kV doc pm an cdv ct), osl⟩)
  (c : PySem.W.codeIn K cdv x = true) (k : PySem.W.keepIn K (.ref f) = true) (b : BindsOk x x st ps) : Def K mg x st ps := ⟨f, _, PySem.W.mg_of X G a, fun_mk l c k, (fun_mk l c k).binds b⟩
theorem defC_mk {x : Str} {st : Stmt} {ps : List Str} {f c : Addr} {oc : Value} {od an : Option Addr} {osl : Array (Option Value)} {kV doc pm ct : Value} (X : K.In h) (G : h.Ns mainGlobals mg) (a : PySem.W.nsIn K mainGlobals x = some (some (.ref f))) (l : K.lookup f = some ⟨oc, od, .func (PySem.W.fnOf x x (defArgs st) (defBody st) (defScope st) .none kV doc pm an (.ref c) ct), osl⟩)
  (hc : PySem.W.codeIn K (.ref c) x = true) (k : PySem.W.keepIn K (.ref f) = true) (b : BindsOk x x st ps) : DefC K mg x st ps c := ⟨f, oc, od, an, osl, kV, doc, pm, ct, PySem.W.mg_of X G a, l, hc, k, (fun_mk l hc k).binds b⟩
theorem num_mk {x : Str} {n : Int} {t : Tok} (X : K.In h) (G : h.Ns mainGlobals mg) (a : PySem.W.nsIn K mainGlobals x = some (some (.int n t))) : Num mg x n := ⟨t, PySem.W.mg_of X G a⟩
theorem sqT_mk {a : Addr} {xs : List V} {its : Array Value} {n : Nat} {sl : Array (Option Value)} (l : K.lookup a = some ⟨.type "tuple", none, .seq its n, sl⟩) (hz : its.size <= sizeLine) (hv : Vals xs its.toList) (H : Hp) : SqT K H a xs := .inr ⟨_, its, n, l, rfl, rfl, hz, hv⟩
theorem cls_mk {C : Addr} (X : K.In h) (a : PySem.W.plainGet K C Str.empty = true) (b : PySem.W.hasDictIn K C = true) (c : PySem.W.plainOver K C = true) (d : PySem.W.findIn K (.ref C) "__setattr__" = some (some (.builtin "object.__setattr__"))) : Cls K C := ⟨a, b, c, d⟩
theorem noA_mk {C : Addr} {f : Str} (X : K.In h) (a : PySem.W.findIn K (.ref C) f = some none) : NoAttr K C f := a
theorem mkM {C f : Addr} (X : K.In h) (a : PySem.W.makesIn K C = true) (b : PySem.W.findIn K (.ref C) "__init__" = some (some (.ref f))) (c : PySem.W.isFn K (.ref f) = true) (d : PySem.W.keepIn K (.ref C) = true) : Mk K C f := ⟨a, b, c, d⟩
theorem funX {x qual : Str} {st : Stmt} {f : Addr} {oc : Value} {od an : Option Addr} {osl : Array (Option Value)} {kV doc pm cdv ct : Value} (X : K.In h) (l : K.lookup f = some ⟨oc, od, .func (PySem.W.fnOf x qual (defArgs st) (defBody st) (defScope st) .none kV doc pm an cdv ct), osl⟩) (c : PySem.W.codeIn K cdv qual = true) (k : PySem.W.keepIn K (.ref f) = true) : ∃ fd, Fun K x qual st f fd := ⟨_, fun_mk l c k⟩
theorem sqT_X {a : Addr} {xs : List V} {its : Array Value} {n : Nat} {sl : Array (Option Value)} (X : K.In h) (l : K.lookup a = some ⟨.type "tuple", none, .seq its n, sl⟩) (hz : its.size <= sizeLine) (hv : Vals xs its.toList) : ∀ H : Hp, SqT K H a xs := sqT_mk l hz hv
theorem all3 {p : Str -> Prop} {a b c : Str} (h1 : p a) (h2 : p b) (h3 : p c) : ∀ f ∈ ([a, b, c] : List Str), p f := fun f m => by
 rcases List.mem_cons.mp m with rfl | m
 ·exact h1
 rcases List.mem_cons.mp m with rfl | m
 ·exact h2
 rw [List.mem_singleton.mp m]; exact h3
theorem all6 {p : Str -> Prop} {a b c d e g : Str} (h1 : p a) (h2 : p b) (h3 : p c) (h4 : p d) (h5 : p e) (h6 : p g) : ∀ f ∈ ([a, b, c, d, e, g] : List Str), p f := fun f m => by
 rcases List.mem_cons.mp m with rfl | m
 ·exact h1
 rcases List.mem_cons.mp m with rfl | m
 ·exact h2
 rcases List.mem_cons.mp m with rfl | m
 ·exact h3
 exact all3 h4 h5 h6 f m
theorem Def.at_mg {x : Str} {st : Stmt} {ps : List Str} (D : Def K mg x st ps) : ∃ f, mg x = some (.ref f) := let ⟨f, _, e, _⟩ := D; ⟨f, e⟩
end
theorem bd_least : BindsOk "least_number" "least_number" sLeast ["side"] := fun _ _ _ _ _ _ us hl => match us, hl with | [_], _ => rfl
theorem bd_ofSide : BindsOk "is_of_side" "is_of_side" sOfSide ["number", "side"] := fun _ _ _ _ _ _ us hl => match us, hl with | [_, _], _ => rfl
theorem bd_isPlate : BindsOk "is_plate" "is_plate" sIsPlate ["number", "letter"] := fun _ _ _ _ _ _ us hl => match us, hl with | [_, _], _ => rfl
theorem bd_platesOf : BindsOk "plates_of_side" "plates_of_side" sPlatesOf ["side"] := fun _ _ _ _ _ _ us hl => match us, hl with | [_], _ => rfl
theorem bd_rankOf : BindsOk "rank_of" "rank_of" sRankOf ["plate"] := fun _ _ _ _ _ _ us hl => match us, hl with | [_], _ => rfl
theorem bd_plateAt : BindsOk "plate_at" "plate_at" sPlateAt ["side", "rank"] := fun _ _ _ _ _ _ us hl => match us, hl with | [_, _], _ => rfl
theorem bd_findS : BindsOk "find_street" "find_street" sFindS ["town", "s"] := fun _ _ _ _ _ _ us hl => match us, hl with | [_, _], _ => rfl
theorem bd_findH : BindsOk "find_house" "find_house" sFindH ["town", "h"] := fun _ _ _ _ _ _ us hl => match us, hl with | [_, _], _ => rfl
theorem bd_named : BindsOk "number_of_named" "number_of_named" sNamed ["town", "n"] := fun _ _ _ _ _ _ us hl => match us, hl with | [_, _], _ => rfl
theorem bd_used : BindsOk "is_name_used" "is_name_used" sUsed ["town", "n"] := fun _ _ _ _ _ _ us hl => match us, hl with | [_, _], _ => rfl
theorem bd_hos : BindsOk "houses_of_street" "houses_of_street" sHos ["town", "s"] := fun _ _ _ _ _ _ us hl => match us, hl with | [_, _], _ => rfl
theorem bd_plat : BindsOk "plated_in_order" "plated_in_order" sPlat ["town", "s", "d"] := fun _ _ _ _ _ _ us hl => match us, hl with | [_, _, _], _ => rfl
theorem bd_ref : BindsOk "refused_side" "refused_side" sRef ["town", "s", "d"] := fun _ _ _ _ _ _ us hl => match us, hl with | [_, _, _], _ => rfl
theorem bd_isName : BindsOk "is_name" "is_name" sIsName ["n"] := fun _ _ _ _ _ _ us hl => match us, hl with | [_], _ => rfl
theorem bd_beg : BindsOk "begin" "begin" sBeg ["town"] := fun _ _ _ _ _ _ us hl => match us, hl with | [_], _ => rfl
theorem bd_add : BindsOk "add_street" "add_street" sAdd ["town", "n", "m"] := fun _ _ _ _ _ _ us hl => match us, hl with | [_, _, _], _ => rfl
theorem bd_ren : BindsOk "rename_street" "rename_street" sRen ["town", "s", "n"] := fun _ _ _ _ _ _ us hl => match us, hl with | [_, _, _], _ => rfl
theorem bd_build : BindsOk "build_house" "build_house" sBuild ["town", "s", "d", "m"] := fun _ _ _ _ _ _ us hl => match us, hl with | [_, _, _, _], _ => rfl
theorem bd_pull : BindsOk "pull_house" "pull_house" sPull ["town", "h"] := fun _ _ _ _ _ _ us hl => match us, hl with | [_, _], _ => rfl
theorem bd_list : BindsOk "list_order" "list_order" sList ["town", "s", "d"] := fun _ _ _ _ _ _ us hl => match us, hl with | [_, _, _], _ => rfl
theorem bd_right : BindsOk "check_right" "check_right" sRight ["town", "s"] := fun _ _ _ _ _ _ us hl => match us, hl with | [_, _], _ => rfl
theorem bd_rise : BindsOk "houses_not_rising" "houses_not_rising" sRise ["town", "s", "d"] := fun _ _ _ _ _ _ us hl => match us, hl with | [_, _, _], _ => rfl
theorem bd_few : BindsOk "count_fewest" "count_fewest" sFew ["town", "s", "d"] := fun _ _ _ _ _ _ us hl => match us, hl with | [_, _, _], _ => rfl
theorem bd_mend : BindsOk "mend_side" "mend_side" sMend ["town", "s", "d"] := fun _ _ _ _ _ _ us hl => match us, hl with | [_, _, _], _ => rfl
theorem bd_plac : BindsOk "places_that_stay" "places_that_stay" sPlac ["plated", "side"] := fun _ _ _ _ _ _ us hl => match us, hl with | [_, _], _ => rfl
theorem bd_from : BindsOk "stays_from" "stays_from" sFrom ["room", "most_room"] := fun _ _ _ _ _ _ us hl => match us, hl with | [_, _], _ => rfl
theorem bd_long : BindsOk "earliest_longest" "earliest_longest" sLong ["lengths"] := fun _ _ _ _ _ _ us hl => match us, hl with | [_], _ => rfl
theorem bd_exch : BindsOk "exchange_plate" "exchange_plate" sExch ["house", "plate"] := fun _ _ _ _ _ _ us hl => match us, hl with | [_, _], _ => rfl
theorem bd_put : BindsOk "put_plate" "put_plate" sPut ["town", "h", "n", "letter"] := fun _ _ _ _ _ _ us hl => match us, hl with | [_, _, _, _], _ => rfl
theorem bd_take : BindsOk "take_plate" "take_plate" sTake ["town", "h"] := fun _ _ _ _ _ _ us hl => match us, hl with | [_, _], _ => rfl
theorem bd_anew : BindsOk "number_anew" "number_anew" sAnew ["town", "s"] := fun _ _ _ _ _ _ us hl => match us, hl with | [_, _], _ => rfl
theorem bd_side : BindsOk "number_side_anew" "number_side_anew" sSide ["town", "s", "d"] := fun _ _ _ _ _ _ us hl => match us, hl with | [_, _, _], _ => rfl
theorem bd_betw : BindsOk "plate_between" "plate_between" sBetw ["town", "h"] := fun _ _ _ _ _ _ us hl => match us, hl with | [_, _], _ => rfl
theorem bd_try_ : BindsOk "plates_to_try" "plates_to_try" sTry ["side", "before"] := fun _ _ _ _ _ _ us hl => match us, hl with | [_, _], _ => rfl
theorem bd_fits : BindsOk "fits_ahead" "fits_ahead" sFits ["plate", "before", "behind"] := fun _ _ _ _ _ _ us hl => match us, hl with | [_, _, _], _ => rfl
theorem bd_join : BindsOk "join_streets" "join_streets" sJoin ["town", "s", "t"] := fun _ _ _ _ _ _ us hl => match us, hl with | [_, _, _], _ => rfl
theorem bd_full : BindsOk "is_side_too_full" "is_side_too_full" sFull ["town", "s", "t", "d"] := fun _ _ _ _ _ _ us hl => match us, hl with | [_, _, _, _], _ => rfl
theorem bd_hand : BindsOk "hand_over_side" "hand_over_side" sHand ["town", "s", "t", "d"] := fun _ _ _ _ _ _ us hl => match us, hl with | [_, _, _, _], _ => rfl
theorem bd_cut : BindsOk "cut_street" "cut_street" sCut ["town", "s", "m", "n"] := fun _ _ _ _ _ _ us hl => match us, hl with | [_, _, _, _], _ => rfl
theorem bd_find : BindsOk "find_plate" "find_plate" sFind ["town", "n", "x", "letter"] := fun _ _ _ _ _ _ us hl => match us, hl with | [_, _, _, _], _ => rfl
theorem bd_opp : BindsOk "find_opposite" "find_opposite" sOpp ["town", "h"] := fun _ _ _ _ _ _ us hl => match us, hl with | [_, _], _ => rfl
theorem bd_next : BindsOk "find_next" "find_next" sNext ["town", "h"] := fun _ _ _ _ _ _ us hl => match us, hl with | [_, _], _ => rfl
theorem bd_clos : BindsOk "find_closest" "find_closest" sClos ["town", "s", "m"] := fun _ _ _ _ _ _ us hl => match us, hl with | [_, _, _], _ => rfl
theorem bd_walk : BindsOk "measure_walk" "measure_walk" sWalk ["town", "h", "i"] := fun _ _ _ _ _ _ us hl => match us, hl with | [_, _, _], _ => rfl
theorem bd_count : BindsOk "count_houses" "count_houses" sCount ["town", "s"] := fun _ _ _ _ _ _ us hl => match us, hl with | [_, _], _ => rfl
theorem bd_free : BindsOk "least_free" "least_free" sFree ["town", "s", "d"] := fun _ _ _ _ _ _ us hl => match us, hl with | [_, _, _], _ => rfl
theorem bd_strs : BindsOk "list_streets" "list_streets" sStrs ["town"] := fun _ _ _ _ _ _ us hl => match us, hl with | [_], _ => rfl
theorem bd_look : BindsOk "look_at" "look_at" sLook ["town", "h"] := fun _ _ _ _ _ _ us hl => match us, hl with | [_, _], _ => rfl
theorem bd_bare : BindsOk "list_bare" "list_bare" sBare ["town", "s"] := fun _ _ _ _ _ _ us hl => match us, hl with | [_, _], _ => rfl
theorem bd_state : BindsOk "tell_state" "tell_state" sState ["town"] := fun _ _ _ _ _ _ us hl => match us, hl with | [_], _ => rfl
theorem bd_ac : BindsOk "answer_call" "answer_call" sAC ["town", "call", "given"] := fun _ _ _ _ _ _ us hl => match us, hl with | [_, _, _], _ => rfl
theorem bd_makers : BindsOk "call_makers" "call_makers" sMakers [] := fun _ _ _ _ _ _ us hl => match us, hl with | [], _ => rfl
theorem bd_make : BindsOk "make_call" "make_call" sMake ["maker", "town", "given"] := fun _ _ _ _ _ _ us hl => match us, hl with | [_, _, _], _ => rfl
theorem bd_ord : BindsOk "houses_in_order" "houses_in_order" sOrd ["town", "s", "d"] := fun _ _ _ _ _ _ us hl => match us, hl with | [_, _, _], _ => rfl
theorem bd_near : BindsOk "nearest" "nearest" sNear ["houses", "metre"] := fun _ _ _ _ _ _ us hl => match us, hl with | [_, _], _ => rfl
theorem bd_initT : BindsOk "__init__" "Town.__init__" sInitT ["self"] := fun _ _ _ _ _ _ us hl => match us, hl with | [_], _ => rfl
theorem bd_initS : BindsOk "__init__" "Street.__init__" sInitS ["self", "name", "metres"] := fun _ _ _ _ _ _ us hl => match us, hl with | [_, _, _], _ => rfl
theorem bd_initH : BindsOk "__init__" "House.__init__" sInitH ["self", "serial", "street", "side", "metre"] := fun _ _ _ _ _ _ us hl => match us, hl with | [_, _, _, _, _], _ => rfl
theorem bd_ans : BindsOk "answers" "answers" sAns ["calls"] := fun _ _ _ _ _ _ us hl => match us, hl with | [_], _ => rfl
structure Txt (K : Frag) (mg : Str -> Option Value) (CT CS CH np ac fT fS fH cO cN TB : Addr) (fdT fdS fdH : FuncData) : Prop where
 cl : Cl K CT CS CH
 gn : NoP K mg np
 gA : mg "ARGUMENT_COUNTS" = some (.ref ac)
 hA : ∀ H : Hp, SqT K H ac (argNs.map V.int)
 gT : mg "Town" = some (.ref CT)
 mT : Mk K CT fT
 FT : Fun K "__init__" "Town.__init__" sInitT fT fdT
 gS : mg "Street" = some (.ref CS)
 mS : Mk K CS fS
 FS : Fun K "__init__" "Street.__init__" sInitS fS fdS
 gH : mg "House" = some (.ref CH)
 mH : Mk K CH fH
 FH : Fun K "__init__" "House.__init__" sInitH fH fdH
 hO : PySem.W.codeHdIn K cO TB = true
 hN : PySem.W.codeHdIn K cN tbN = true
 ne : TB ≠ tbN
 b_len : mg "len" = none
 b_range : mg "range" = none
 b_max : mg "max" = none
 b_enumerate : mg "enumerate" = none
 b_zip : mg "zip" = none
 b_any : mg "any" = none
 b_sorted : mg "sorted" = none
 b_min : mg "min" = none
 b_abs : mg "abs" = none
 n_last_number : Num mg "LAST_NUMBER" 999
 n_last_letter : Num mg "LAST_LETTER" 26
 n_plates_a_number : Num mg "PLATES_A_NUMBER" 27
 n_no_such : Num mg "NO_SUCH" (-2)
 n_without_plate : Num mg "WITHOUT_PLATE" (-6)
 n_not_begun : Num mg "NOT_BEGUN" (-11)
 n_not_one_street : Num mg "NOT_ONE_STREET" (-16)
 n_so_already : Num mg "SO_ALREADY" (-17)
 n_out_of_range : Num mg "OUT_OF_RANGE" (-22)
 n_too_many : Num mg "TOO_MANY" (-28)
 n_none_found : Num mg "NONE_FOUND" (-33)
 n_wrong_side : Num mg "WRONG_SIDE" (-71)
 n_most_streets : Num mg "MOST_STREETS" 6
 n_most_houses : Num mg "MOST_HOUSES" 40
 n_most_houses_of_side : Num mg "MOST_HOUSES_OF_SIDE" 10
 n_last_name : Num mg "LAST_NAME" 999
 n_least_metres : Num mg "LEAST_METRES" 10
 n_most_metres : Num mg "MOST_METRES" 2000
 n_begin : Num mg "BEGIN" 0
 d_ord : DefC K mg "houses_in_order" sOrd ["town", "s", "d"] cO
 d_near : DefC K mg "nearest" sNear ["houses", "metre"] cN
 d_least : Def K mg "least_number" sLeast ["side"]
 d_ofSide : Def K mg "is_of_side" sOfSide ["number", "side"]
 d_isPlate : Def K mg "is_plate" sIsPlate ["number", "letter"]
 d_platesOf : Def K mg "plates_of_side" sPlatesOf ["side"]
 d_rankOf : Def K mg "rank_of" sRankOf ["plate"]
 d_plateAt : Def K mg "plate_at" sPlateAt ["side", "rank"]
 d_findS : Def K mg "find_street" sFindS ["town", "s"]
 d_findH : Def K mg "find_house" sFindH ["town", "h"]
 d_named : Def K mg "number_of_named" sNamed ["town", "n"]
 d_used : Def K mg "is_name_used" sUsed ["town", "n"]
 d_hos : Def K mg "houses_of_street" sHos ["town", "s"]
 d_plat : Def K mg "plated_in_order" sPlat ["town", "s", "d"]
 d_ref : Def K mg "refused_side" sRef ["town", "s", "d"]
 d_isName : Def K mg "is_name" sIsName ["n"]
 d_beg : Def K mg "begin" sBeg ["town"]
 d_add : Def K mg "add_street" sAdd ["town", "n", "m"]
 d_ren : Def K mg "rename_street" sRen ["town", "s", "n"]
 d_build : Def K mg "build_house" sBuild ["town", "s", "d", "m"]
 d_pull : Def K mg "pull_house" sPull ["town", "h"]
 d_list : Def K mg "list_order" sList ["town", "s", "d"]
 d_right : Def K mg "check_right" sRight ["town", "s"]
 d_rise : Def K mg "houses_not_rising" sRise ["town", "s", "d"]
 d_few : Def K mg "count_fewest" sFew ["town", "s", "d"]
 d_mend : Def K mg "mend_side" sMend ["town", "s", "d"]
 d_plac : Def K mg "places_that_stay" sPlac ["plated", "side"]
 d_from : Def K mg "stays_from" sFrom ["room", "most_room"]
 d_long : Def K mg "earliest_longest" sLong ["lengths"]
 d_exch : Def K mg "exchange_plate" sExch ["house", "plate"]
 d_put : Def K mg "put_plate" sPut ["town", "h", "n", "letter"]
 d_take : Def K mg "take_plate" sTake ["town", "h"]
 d_anew : Def K mg "number_anew" sAnew ["town", "s"]
 d_side : Def K mg "number_side_anew" sSide ["town", "s", "d"]
 d_betw : Def K mg "plate_between" sBetw ["town", "h"]
 d_try_ : Def K mg "plates_to_try" sTry ["side", "before"]
 d_fits : Def K mg "fits_ahead" sFits ["plate", "before", "behind"]
 d_join : Def K mg "join_streets" sJoin ["town", "s", "t"]
 d_full : Def K mg "is_side_too_full" sFull ["town", "s", "t", "d"]
 d_hand : Def K mg "hand_over_side" sHand ["town", "s", "t", "d"]
 d_cut : Def K mg "cut_street" sCut ["town", "s", "m", "n"]
 d_find : Def K mg "find_plate" sFind ["town", "n", "x", "letter"]
 d_opp : Def K mg "find_opposite" sOpp ["town", "h"]
 d_next : Def K mg "find_next" sNext ["town", "h"]
 d_clos : Def K mg "find_closest" sClos ["town", "s", "m"]
 d_walk : Def K mg "measure_walk" sWalk ["town", "h", "i"]
 d_count : Def K mg "count_houses" sCount ["town", "s"]
 d_free : Def K mg "least_free" sFree ["town", "s", "d"]
 d_strs : Def K mg "list_streets" sStrs ["town"]
 d_look : Def K mg "look_at" sLook ["town", "h"]
 d_bare : Def K mg "list_bare" sBare ["town", "s"]
 d_state : Def K mg "tell_state" sState ["town"]
 d_ac : Def K mg "answer_call" sAC ["town", "call", "given"]
 d_makers : Def K mg "call_makers" sMakers []
 d_make : Def K mg "make_call" sMake ["maker", "town", "given"]
def fsOf (mg : Str -> Option Value) (i : Nat) : Addr := match mg (mkNames.getD i "") with
 | some (.ref f) => f
 | _ => 0
section
variable {P : Program} {w : World} {K : Frag} {mg : Str -> Option Value} {base : Heap} {CT CS CH np ac fT fS fH cO cN TB : Addr} {fdT fdS fdH : FuncData}
theorem Txt.hm (T : Txt K mg CT CS CH np ac fT fS fH cO cN TB fdT fdS fdH) : ∀ i x, mkNames[i]? = some x -> mg x = some (.ref (fsOf mg i)) := fun i x h => by
 have ex : ∃ f, mg x = some (.ref f) := by
  have m := List.mem_of_getElem? h
  unfold mkNames at m
  simp only [List.mem_cons, List.mem_nil_iff, or_false] at m
  rcases m with rfl | rfl | rfl | rfl | rfl | rfl | rfl | rfl | rfl | rfl | rfl | rfl | rfl | rfl | rfl | rfl | rfl | rfl | rfl | rfl | rfl | rfl | rfl | rfl | rfl | rfl
  ·exact T.d_beg.at_mg
  ·exact T.d_add.at_mg
  ·exact T.d_ren.at_mg
  ·exact T.d_build.at_mg
  ·exact T.d_pull.at_mg
  ·exact T.d_put.at_mg
  ·exact T.d_take.at_mg
  ·exact T.d_anew.at_mg
  ·exact T.d_betw.at_mg
  ·exact T.d_list.at_mg
  ·exact T.d_right.at_mg
  ·exact T.d_few.at_mg
  ·exact T.d_mend.at_mg
  ·exact T.d_find.at_mg
  ·exact T.d_opp.at_mg
  ·exact T.d_next.at_mg
  ·exact T.d_clos.at_mg
  ·exact T.d_walk.at_mg
  ·exact T.d_join.at_mg
  ·exact T.d_cut.at_mg
  ·exact T.d_count.at_mg
  ·exact T.d_free.at_mg
  ·exact T.d_strs.at_mg
  ·exact T.d_look.at_mg
  ·exact T.d_bare.at_mg
  ·exact T.d_state.at_mg
 obtain ⟨f, e⟩ := ex
 unfold fsOf
 rw [getD_at h, e]
theorem ok_all (T : Txt K mg CT CS CH np ac fT fS fH cO cN TB fdT fdS fdH) (BM : BMx mg base) : Ok P w K mg base 8 "answer_call" ["town", "call", "given"] (spAC K CT CS CH TB) := by
 have o_least : Ok P w K mg base _ _ _ _ := ok_least T.d_least
 have o_ofSide : Ok P w K mg base _ _ _ _ := ok_ofSide T.d_ofSide
 have o_isPlate : Ok P w K mg base _ _ _ _ := ok_isPlate T.d_isPlate T.n_last_number T.n_last_letter
 have o_platesOf : Ok P w K mg base _ _ _ _ := ok_platesOf T.d_platesOf T.n_last_number T.n_plates_a_number o_least
 have o_rankOf : Ok P w K mg base _ _ _ _ := ok_rankOf T.d_rankOf T.n_plates_a_number
 have o_plateAt : Ok P w K mg base _ _ _ _ := ok_plateAt T.d_plateAt T.n_plates_a_number o_least
 have o_ordW : Ok P w K mg base _ _ _ _ := ok_ordW T.d_ord T.hO BM T.cl T.b_sorted T.ne
 have o_ord : Ok P w K mg base _ _ _ _ := ok_ord T.d_ord T.hO BM T.cl T.b_sorted T.ne
 have o_near : Ok P w K mg base _ _ _ _ := ok_near T.d_near T.hN BM T.cl T.b_min T.b_abs T.ne
 have o_from : Ok P w K mg base _ _ _ _ := ok_from T.d_from T.b_len T.b_range T.b_max
 have o_long : Ok P w K mg base _ _ _ _ := ok_long T.d_long T.b_max T.b_enumerate
 have o_platW : Ok P w K mg base _ _ _ _ := ok_platW T.d_plat o_ordW T.cl T.gn
 have o_plat : Ok P w K mg base _ _ _ _ := ok_plat T.d_plat o_ordW T.cl T.gn
 have o_plac : Ok P w K mg base _ _ _ _ := ok_plac T.d_plac T.cl T.b_len T.b_enumerate o_rankOf o_platesOf o_from o_long
 have o_findH : Ok P w K mg base _ _ _ _ := ok_findH T.d_findH T.cl T.b_len
 have o_findS : Ok P w K mg base _ _ _ _ := ok_findS T.d_findS T.cl T.b_len
 have o_exch : Ok P w K mg base _ _ _ _ := ok_exch T.d_exch T.cl
 have o_take : Ok P w K mg base _ _ _ (spDo K CT CS CH TB 1 cTake) := ok_take T.d_take T.cl T.gn T.n_no_such T.n_without_plate o_findH o_exch
 have o_pull : Ok P w K mg base _ _ _ (spDo K CT CS CH TB 1 cPull) := ok_pull T.d_pull T.cl T.n_no_such o_findH
 have o_put : Ok P w K mg base _ _ _ _ := ok_put T.d_put T.cl T.n_no_such T.n_out_of_range T.n_wrong_side T.n_so_already o_findH o_exch o_isPlate o_ofSide o_ord
 have o_ref : Ok P w K mg base _ _ _ _ := ok_ref T.d_ref T.n_no_such T.n_out_of_range o_findS
 have o_list : Ok P w K mg base _ _ _ _ := ok_list T.d_list T.cl T.b_len o_ref o_ord
 have o_few : Ok P w K mg base _ _ _ _ := ok_few T.d_few T.cl T.b_len o_ref o_plat o_plac
 have o_mend : Ok P w K mg base _ _ _ _ := ok_mend T.d_mend T.cl T.b_len T.b_enumerate o_ref o_plat o_plac o_rankOf o_plateAt
 have o_side : Ok P w K mg base _ _ _ _ := ok_side T.d_side T.cl T.b_enumerate o_ord o_least
 have o_anew : Ok P w K mg base _ _ _ _ := ok_anew T.d_anew T.n_no_such o_findS o_side
 have o_fits : Ok P w K mg base _ _ _ _ := ok_fits T.d_fits T.b_len
 have o_try : Ok P w K mg base _ _ _ _ := ok_try T.d_try_ T.b_len o_least
 have o_betw : Ok P w K mg base _ _ _ _ := ok_betw T.d_betw T.cl T.gn T.n_no_such T.n_so_already T.n_none_found o_findH o_plat o_try o_isPlate o_fits
 have o_rise : Ok P w K mg base _ _ _ _ := ok_rise T.d_rise T.cl T.b_zip o_plat
 have o_right : Ok P w K mg base _ _ _ _ := ok_right T.d_right T.b_len T.n_no_such o_findS o_rise
 have o_make : Ok P w K mg base _ _ _ (spMake P w K mg base 5) := ok_make T.d_make T.b_len
 have o_isName : Ok P w K mg base _ _ _ _ := ok_isName T.d_isName T.n_last_name
 have o_beg : Ok P w K mg base _ _ _ (spBeg K CT CS CH TB) := ok_beg T.d_beg T.cl
 have o_named : Ok P w K mg base _ _ _ _ := ok_named T.d_named T.cl T.b_enumerate
 have o_used : Ok P w K mg base _ _ _ _ := ok_used T.d_used o_named
 have o_hosW : Ok P w K mg base _ _ _ _ := ok_hosW T.d_hos o_ordW
 have o_hos : Ok P w K mg base _ _ _ _ := ok_hos T.d_hos o_ordW
 have FS : FnOk P w K mg base CX0 1 fS fdS ["self", "name", "metres"] (spInitS CS) := ok_initS T.FS T.cl
 have FH : FnOk P w K mg base CX0 1 fH fdH ["self", "serial", "street", "side", "metre"] (spInitH CH np) := ok_initH T.FH T.cl T.gn.1
 have bS : Binds K fdS ["self", "name", "metres"] [] := T.FS.binds bd_initS
 have bH : Binds K fdH ["self", "serial", "street", "side", "metre"] [] := T.FH.binds bd_initH
 have o_build : Ok P w K mg base _ _ _ _ := ok_build T.d_build T.cl T.gn T.mH FH bH T.gH T.b_len T.b_any T.n_no_such T.n_out_of_range T.n_so_already T.n_too_many T.n_most_houses T.n_most_houses_of_side o_findS o_ord
 have o_add : Ok P w K mg base _ _ _ (spDo K CT CS CH TB 2 cAdd) := ok_add T.d_add T.cl T.mS FS bS T.gS T.b_len T.n_out_of_range T.n_so_already T.n_too_many T.n_most_streets T.n_least_metres T.n_most_metres o_isName o_used
 have o_ren : Ok P w K mg base _ _ _ (spDo K CT CS CH TB 2 cRen) := ok_ren T.d_ren T.cl T.n_no_such T.n_out_of_range T.n_so_already o_findS o_isName o_used
 have o_count : Ok P w K mg base _ _ _ _ := ok_count T.d_count T.cl T.gn T.b_len T.n_no_such o_findS o_hos
 have o_bare : Ok P w K mg base _ _ _ _ := ok_bare T.d_bare T.cl T.gn T.b_len T.n_no_such o_findS o_hos
 have o_look : Ok P w K mg base _ _ _ (spDo K CT CS CH TB 1 cLook) := ok_look T.d_look T.cl T.n_no_such o_findH
 have o_state : Ok P w K mg base _ _ _ (spDo K CT CS CH TB 0 cState) := ok_state T.d_state T.cl T.b_len
 have o_strs : Ok P w K mg base _ _ _ (spDo K CT CS CH TB 0 cStrs) := ok_strs T.d_strs T.cl
 have o_free : Ok P w K mg base _ _ _ _ := ok_free T.d_free T.cl o_ref o_ord o_least
 have o_find : Ok P w K mg base _ _ _ _ := ok_find T.d_find T.cl T.n_no_such T.n_out_of_range T.n_none_found o_named o_hos o_isPlate
 have o_next : Ok P w K mg base _ _ _ _ := ok_next T.d_next T.cl T.b_len T.n_no_such T.n_none_found o_findH o_ord
 have o_walk : Ok P w K mg base _ _ _ (spDo K CT CS CH TB 2 cWalk) := ok_walk T.d_walk T.cl T.b_abs T.n_no_such T.n_not_one_street o_findH
 have o_opp : Ok P w K mg base _ _ _ _ := ok_opp T.d_opp T.cl T.b_len T.b_abs T.n_no_such T.n_none_found o_findH o_ord o_near
 have o_clos : Ok P w K mg base _ _ _ _ := ok_clos T.d_clos T.cl T.b_len T.b_abs T.n_no_such T.n_out_of_range T.n_none_found o_findS o_hos o_near
 have o_full : Ok P w K mg base _ _ _ _ := ok_full T.d_full T.b_len T.n_most_houses_of_side o_ord
 have o_hand : Ok P w K mg base _ _ _ _ := ok_hand T.d_hand T.cl T.gn o_ordW o_platW
 have o_join : Ok P w K mg base _ _ _ _ := ok_join T.d_join T.cl T.n_no_such T.n_out_of_range T.n_too_many T.n_most_metres o_findS o_full o_hand
 have o_cut : Ok P w K mg base _ _ _ _ := ok_cut T.d_cut T.cl T.mS FS bS T.gS T.b_len T.n_no_such T.n_out_of_range T.n_so_already T.n_too_many T.n_most_streets o_findS o_isName o_used o_hosW
 have o_makers : Ok P w K mg base _ _ _ (spMakers (fsOf mg)) := ok_makers T.d_makers T.hm
 refine (ok_ac T.d_ac T.cl T.n_begin T.n_not_begun o_beg o_makers o_make T.hm fun i h1 h2 => ?_).mono (by decide)
 match i, h1, h2 with
 | 1, _, _ => exact ⟨2, cAdd, ⟨"add_street", _, rfl, o_add.mono (by decide)⟩, rfl, fun xs h => by obtain ⟨x, y, rfl⟩ := two_of h; rfl⟩
 | 2, _, _ => exact ⟨2, cRen, ⟨"rename_street", _, rfl, o_ren.mono (by decide)⟩, rfl, fun xs h => by obtain ⟨x, y, rfl⟩ := two_of h; rfl⟩
 | 3, _, _ => exact ⟨3, cHouse, ⟨"build_house", _, rfl, o_build.mono (by decide)⟩, rfl, fun xs h => by obtain ⟨x, y, z, rfl⟩ := three_of h; rfl⟩
 | 4, _, _ => exact ⟨1, cPull, ⟨"pull_house", _, rfl, o_pull.mono (by decide)⟩, rfl, fun xs h => by obtain ⟨x, rfl⟩ := one_of h; rfl⟩
 | 5, _, _ => exact ⟨3, cPut, ⟨"put_plate", _, rfl, o_put.mono (by decide)⟩, rfl, fun xs h => by obtain ⟨x, y, z, rfl⟩ := three_of h; rfl⟩
 | 6, _, _ => exact ⟨1, cTake, ⟨"take_plate", _, rfl, o_take.mono (by decide)⟩, rfl, fun xs h => by obtain ⟨x, rfl⟩ := one_of h; rfl⟩
 | 7, _, _ => exact ⟨1, cAnew, ⟨"number_anew", _, rfl, o_anew.mono (by decide)⟩, rfl, fun xs h => by obtain ⟨x, rfl⟩ := one_of h; rfl⟩
 | 8, _, _ => exact ⟨1, cBetw, ⟨"plate_between", _, rfl, o_betw.mono (by decide)⟩, rfl, fun xs h => by obtain ⟨x, rfl⟩ := one_of h; rfl⟩
 | 9, _, _ => exact ⟨2, cList, ⟨"list_order", _, rfl, o_list.mono (by decide)⟩, rfl, fun xs h => by obtain ⟨x, y, rfl⟩ := two_of h; rfl⟩
 | 10, _, _ => exact ⟨1, cRight, ⟨"check_right", _, rfl, o_right.mono (by decide)⟩, rfl, fun xs h => by obtain ⟨x, rfl⟩ := one_of h; rfl⟩
 | 11, _, _ => exact ⟨2, cFew, ⟨"count_fewest", _, rfl, o_few.mono (by decide)⟩, rfl, fun xs h => by obtain ⟨x, y, rfl⟩ := two_of h; rfl⟩
 | 12, _, _ => exact ⟨2, cMend, ⟨"mend_side", _, rfl, o_mend.mono (by decide)⟩, rfl, fun xs h => by obtain ⟨x, y, rfl⟩ := two_of h; rfl⟩
 | 13, _, _ => exact ⟨3, cFind, ⟨"find_plate", _, rfl, o_find.mono (by decide)⟩, rfl, fun xs h => by obtain ⟨x, y, z, rfl⟩ := three_of h; rfl⟩
 | 14, _, _ => exact ⟨1, cOpp, ⟨"find_opposite", _, rfl, o_opp.mono (by decide)⟩, rfl, fun xs h => by obtain ⟨x, rfl⟩ := one_of h; rfl⟩
 | 15, _, _ => exact ⟨1, cNext, ⟨"find_next", _, rfl, o_next.mono (by decide)⟩, rfl, fun xs h => by obtain ⟨x, rfl⟩ := one_of h; rfl⟩
 | 16, _, _ => exact ⟨2, cClos, ⟨"find_closest", _, rfl, o_clos.mono (by decide)⟩, rfl, fun xs h => by obtain ⟨x, y, rfl⟩ := two_of h; rfl⟩
 | 17, _, _ => exact ⟨2, cWalk, ⟨"measure_walk", _, rfl, o_walk.mono (by decide)⟩, rfl, fun xs h => by obtain ⟨x, y, rfl⟩ := two_of h; rfl⟩
 | 18, _, _ => exact ⟨2, cJoin, ⟨"join_streets", _, rfl, o_join.mono (by decide)⟩, rfl, fun xs h => by obtain ⟨x, y, rfl⟩ := two_of h; rfl⟩
 | 19, _, _ => exact ⟨3, cCut, ⟨"cut_street", _, rfl, o_cut.mono (by decide)⟩, rfl, fun xs h => by obtain ⟨x, y, z, rfl⟩ := three_of h; rfl⟩
 | 20, _, _ => exact ⟨1, cCount, ⟨"count_houses", _, rfl, o_count.mono (by decide)⟩, rfl, fun xs h => by obtain ⟨x, rfl⟩ := one_of h; rfl⟩
 | 21, _, _ => exact ⟨2, cFree, ⟨"least_free", _, rfl, o_free.mono (by decide)⟩, rfl, fun xs h => by obtain ⟨x, y, rfl⟩ := two_of h; rfl⟩
 | 22, _, _ => exact ⟨0, cStrs, ⟨"list_streets", _, rfl, o_strs.mono (by decide)⟩, rfl, fun xs h => by rw [nil_of0 h]; rfl⟩
 | 23, _, _ => exact ⟨1, cLook, ⟨"look_at", _, rfl, o_look.mono (by decide)⟩, rfl, fun xs h => by obtain ⟨x, rfl⟩ := one_of h; rfl⟩
 | 24, _, _ => exact ⟨1, cBare, ⟨"list_bare", _, rfl, o_bare.mono (by decide)⟩, rfl, fun xs h => by obtain ⟨x, rfl⟩ := one_of h; rfl⟩
 | 25, _, _ => exact ⟨0, cState, ⟨"tell_state", _, rfl, o_state.mono (by decide)⟩, rfl, fun xs h => by rw [nil_of0 h]; rfl⟩
 | 0, h, _ => exact absurd h (by decide)
 | i + 26, _, h => exact absurd h (by omega)
theorem all_mk (T : Txt K mg CT CS CH np ac fT fS fH cO cN TB fdT fdS fdH) {f fa : Addr} {fd : FuncData} (hfa : mg "answers" = some (.ref fa)) (e : mg "answers" = some (.ref f)) (F : Fun K "answers" "answers" sAns f fd) :
  ∃ fd : FuncData, (∀ (s : Shared) (us : List Value), us.length = (["calls"] : List Str).length -> BindsTo s fd ⟨us, []⟩ ((["calls"] : List Str).zip us)) /\ ∀ base : Heap, K.In base -> base.Ns mainGlobals mg -> BMx mg base -> FnOk P w K mg base CX0 9 fa fd ["calls"] (spAns K TB) := by
 rw [e] at hfa
 cases hfa
 refine ⟨fd, fun s us hu => ?_, fun base _ _ BM => ok_ans F T.cl T.mT (ok_initT T.FT T.cl) (T.FT.binds bd_initT) T.gT T.b_len T.gA T.hA (ok_all T BM)⟩
 obtain ⟨oc, od, kV, doc, pm, an, cdv, ct, osl, rfl, _⟩ := F.ex
 exact .of_eq (bd_ans kV doc pm an cdv ct us hu)
theorem fz_of {ts : List Addr} {H : Hp} {a : Addr} {xs : List V} (hO : OnlyT ts H) (h : SqL K H a xs) : FzL K H a xs := by
 rcases h with (h | ⟨o, h⟩) | h
 ·exfalso
  by_cases m : a ∈ ts
  ·rw [hO.1 a m] at h; cases h
  ·rcases hO.2 a m with z | ⟨o, u, z⟩
   ·rw [z] at h; cases h
   ·rw [z] at h; cases h
 ·exact .inl ⟨o, h⟩
 ·exact .inr h
end
end Hn
open PySem PySem.W PyProof.Rows
namespace PySem.W.Fast
def tw10306059495230423950:=0
def tw10558556979206850780:=0
def tw10764660942059265426:=0
def tw11088035164084619689:=0
def tw11603854817750595213:=0
def tw11918719656013624490:=0
def tw11950210589851629019:=0
def tw1195163952134497948:=0
def tw12011876010357903870:=0
def tw12114879428374027642:=0
def tw12161143725100672850:=0
def tw1241428352112953962:=0
def tw12700582158094753269:=0
def tw12816675913653161379:=0
def tw12830131010988856412:=0
def tw13033838165801431444:=0
def tw13096860587200861284:=0
def tw13243004965133046143:=0
def tw13348782587170850752:=0
def tw13410317279182917494:=0
def tw1392330476297251578:=0
def tw14113393682437074407:=0
def tw1451531234931965623:=0
def tw14592319659720195566:=0
def tw14811887806410083055:=0
def tw14835998929890156152:=0
def tw14952881935554930380:=0
def tw14953056262636838370:=0
def tw15031322298820696746:=0
def tw15043512999404004903:=0
def tw1550411929834387983:=0
def tw15685803868710698004:=0
def tw1576607451659974179:=0
def tw15887184264634283064:=0
def tw16548592141200190388:=0
def tw16817320752701276504:=0
def tw16970918044600803434:=0
def tw16994795112745512635:=0
def tw17064767565705641810:=0
def tw17186279839182611167:=0
def tw1776535127621707463:=0
def tw17794471182948511326:=0
def tw18282346030180460558:=0
def tw2351546655651151771:=0
def tw2649778645558719882:=0
def tw2749308963717647315:=0
def tw2902758374451289406:=0
def tw3018232589314462899:=0
def tw3261099312514033521:=0
def tw378356475810999080:=0
def tw3920995235326242169:=0
def tw405612176473270721:=0
def tw4062250770532315099:=0
def tw4222786226686963536:=0
def tw4338485158991020640:=0
def tw4362217153411903295:=0
def tw4416874944200489627:=0
def tw4424404074526626392:=0
def tw4520761271942223787:=0
def tw4631236334632446071:=0
def tw4781583664526838650:=0
def tw5037438505363506939:=0
def tw5284375892904865164:=0
def tw5335878488936117017:=0
def tw5774093096986207105:=0
def tw5823808809081234721:=0
def tw5950184589727787698:=0
def tw6249510889297206672:=0
def tw6401219335998261718:=0
def tw6620178302080883035:=0
def tw7424986425352347155:=0
def tw7687626215683216055:=0
def tw8090312835860648380:=0
def tw8162719169397138054:=0
def tw8949113520485030248:=0
def tw9033412460849870121:=0
def tw9064745108249602329:=0
def tw9313002708351703500:=0
def tw9346457334817454669:=0
def tw9417462885656712905:=0
def tw9625273070916173166:=0
def tw9694853613531684624:=0
end PySem.W.Fast
local macro_rules | `(tactic| o_headS ($f $k $a $e)) => `(tactic| o_headS (PySem.W.kmHook $k $a $e [150, 371]))
set_option maxRecDepth 100000 in
set_option maxHeartbeats 0 in
theorem PySem.Challenge.cw_housenumbers_s01_answers_holds : PySem.Challenge.rw_housenumbers_s01_answers.Holds := by
 w_on; k_headS; (case hw => exact ⟨[.list [.int 0]], by decide +kernel, by decide +kernel⟩)
 k_fillS
 refine L2.walk_specT (r := PySem.Challenge.rw_housenumbers_s01_answers) (k := 9) (CX := L2.CX0) (ps := ["calls"]) (sp := fun K => Hn.spAns K 150) (ts := [(152, 150), (375, 371)]) (by decide +kernel) rfl rfl ⟨rfl, by decide, by decide⟩ (fun w h Y => ⟨PySem.W.km_in_of Y, PySem.W.km_tabs_of Y⟩) ?T ?F ?S (fun _ _ _ _ z => z)
 case T =>
  intro w t ht
  rcases List.mem_cons.mp ht with e | e
  ·rw [e]; exact ⟨by kernel_rfl, by kernel_rfl⟩
  ·rw [List.mem_singleton.mp e]; exact ⟨by kernel_rfl, by kernel_rfl⟩
 case F =>
  intro w mg fa h Y KX G hmg
  have d_least := Hn.def_mk (x := "least_number") (st := Hn.sLeast) (ps := ["side"]) KX G (by k_is) (by k_is) (by k_is) (by k_is) Hn.bd_least
  have d_ofSide := Hn.def_mk (x := "is_of_side") (st := Hn.sOfSide) (ps := ["number", "side"]) KX G (by k_is) (by k_is) (by k_is) (by k_is) Hn.bd_ofSide
  have d_isPlate := Hn.def_mk (x := "is_plate") (st := Hn.sIsPlate) (ps := ["number", "letter"]) KX G (by k_is) (by k_is) (by k_is) (by k_is) Hn.bd_isPlate
  have d_platesOf := Hn.def_mk (x := "plates_of_side") (st := Hn.sPlatesOf) (ps := ["side"]) KX G (by k_is) (by k_is) (by k_is) (by k_is) Hn.bd_platesOf
  have d_rankOf := Hn.def_mk (x := "rank_of") (st := Hn.sRankOf) (ps := ["plate"]) KX G (by k_is) (by k_is) (by k_is) (by k_is) Hn.bd_rankOf
  have d_plateAt := Hn.def_mk (x := "plate_at") (st := Hn.sPlateAt) (ps := ["side", "rank"]) KX G (by k_is) (by k_is) (by k_is) (by k_is) Hn.bd_plateAt
  have d_findS := Hn.def_mk (x := "find_street") (st := Hn.sFindS) (ps := ["town", "s"]) KX G (by k_is) (by k_is) (by k_is) (by k_is) Hn.bd_findS
  have d_findH := Hn.def_mk (x := "find_house") (st := Hn.sFindH) (ps := ["town", "h"]) KX G (by k_is) (by k_is) (by k_is) (by k_is) Hn.bd_findH
  have d_named := Hn.def_mk (x := "number_of_named") (st := Hn.sNamed) (ps := ["town", "n"]) KX G (by k_is) (by k_is) (by k_is) (by k_is) Hn.bd_named
  have d_used := Hn.def_mk (x := "is_name_used") (st := Hn.sUsed) (ps := ["town", "n"]) KX G (by k_is) (by k_is) (by k_is) (by k_is) Hn.bd_used
  have d_hos := Hn.def_mk (x := "houses_of_street") (st := Hn.sHos) (ps := ["town", "s"]) KX G (by k_is) (by k_is) (by k_is) (by k_is) Hn.bd_hos
  have d_plat := Hn.def_mk (x := "plated_in_order") (st := Hn.sPlat) (ps := ["town", "s", "d"]) KX G (by k_is) (by k_is) (by k_is) (by k_is) Hn.bd_plat
  have d_ref := Hn.def_mk (x := "refused_side") (st := Hn.sRef) (ps := ["town", "s", "d"]) KX G (by k_is) (by k_is) (by k_is) (by k_is) Hn.bd_ref
  have d_isName := Hn.def_mk (x := "is_name") (st := Hn.sIsName) (ps := ["n"]) KX G (by k_is) (by k_is) (by k_is) (by k_is) Hn.bd_isName
  have d_beg := Hn.def_mk (x := "begin") (st := Hn.sBeg) (ps := ["town"]) KX G (by k_is) (by k_is) (by k_is) (by k_is) Hn.bd_beg
  have d_add := Hn.def_mk (x := "add_street") (st := Hn.sAdd) (ps := ["town", "n", "m"]) KX G (by k_is) (by k_is) (by k_is) (by k_is) Hn.bd_add
  have d_ren := Hn.def_mk (x := "rename_street") (st := Hn.sRen) (ps := ["town", "s", "n"]) KX G (by k_is) (by k_is) (by k_is) (by k_is) Hn.bd_ren
  have d_build := Hn.def_mk (x := "build_house") (st := Hn.sBuild) (ps := ["town", "s", "d", "m"]) KX G (by k_is) (by k_is) (by k_is) (by k_is) Hn.bd_build
  have d_pull := Hn.def_mk (x := "pull_house") (st := Hn.sPull) (ps := ["town", "h"]) KX G (by k_is) (by k_is) (by k_is) (by k_is) Hn.bd_pull
  have d_list := Hn.def_mk (x := "list_order") (st := Hn.sList) (ps := ["town", "s", "d"]) KX G (by k_is) (by k_is) (by k_is) (by k_is) Hn.bd_list
  have d_right := Hn.def_mk (x := "check_right") (st := Hn.sRight) (ps := ["town", "s"]) KX G (by k_is) (by k_is) (by k_is) (by k_is) Hn.bd_right
  have d_rise := Hn.def_mk (x := "houses_not_rising") (st := Hn.sRise) (ps := ["town", "s", "d"]) KX G (by k_is) (by k_is) (by k_is) (by k_is) Hn.bd_rise
  have d_few := Hn.def_mk (x := "count_fewest") (st := Hn.sFew) (ps := ["town", "s", "d"]) KX G (by k_is) (by k_is) (by k_is) (by k_is) Hn.bd_few
  have d_mend := Hn.def_mk (x := "mend_side") (st := Hn.sMend) (ps := ["town", "s", "d"]) KX G (by k_is) (by k_is) (by k_is) (by k_is) Hn.bd_mend
  have d_plac := Hn.def_mk (x := "places_that_stay") (st := Hn.sPlac) (ps := ["plated", "side"]) KX G (by k_is) (by k_is) (by k_is) (by k_is) Hn.bd_plac
  have d_from := Hn.def_mk (x := "stays_from") (st := Hn.sFrom) (ps := ["room", "most_room"]) KX G (by k_is) (by k_is) (by k_is) (by k_is) Hn.bd_from
  have d_long := Hn.def_mk (x := "earliest_longest") (st := Hn.sLong) (ps := ["lengths"]) KX G (by k_is) (by k_is) (by k_is) (by k_is) Hn.bd_long
  have d_exch := Hn.def_mk (x := "exchange_plate") (st := Hn.sExch) (ps := ["house", "plate"]) KX G (by k_is) (by k_is) (by k_is) (by k_is) Hn.bd_exch
  have d_put := Hn.def_mk (x := "put_plate") (st := Hn.sPut) (ps := ["town", "h", "n", "letter"]) KX G (by k_is) (by k_is) (by k_is) (by k_is) Hn.bd_put
  have d_take := Hn.def_mk (x := "take_plate") (st := Hn.sTake) (ps := ["town", "h"]) KX G (by k_is) (by k_is) (by k_is) (by k_is) Hn.bd_take
  have d_anew := Hn.def_mk (x := "number_anew") (st := Hn.sAnew) (ps := ["town", "s"]) KX G (by k_is) (by k_is) (by k_is) (by k_is) Hn.bd_anew
  have d_side := Hn.def_mk (x := "number_side_anew") (st := Hn.sSide) (ps := ["town", "s", "d"]) KX G (by k_is) (by k_is) (by k_is) (by k_is) Hn.bd_side
  have d_betw := Hn.def_mk (x := "plate_between") (st := Hn.sBetw) (ps := ["town", "h"]) KX G (by k_is) (by k_is) (by k_is) (by k_is) Hn.bd_betw
  have d_try_ := Hn.def_mk (x := "plates_to_try") (st := Hn.sTry) (ps := ["side", "before"]) KX G (by k_is) (by k_is) (by k_is) (by k_is) Hn.bd_try_
  have d_fits := Hn.def_mk (x := "fits_ahead") (st := Hn.sFits) (ps := ["plate", "before", "behind"]) KX G (by k_is) (by k_is) (by k_is) (by k_is) Hn.bd_fits
  have d_join := Hn.def_mk (x := "join_streets") (st := Hn.sJoin) (ps := ["town", "s", "t"]) KX G (by k_is) (by k_is) (by k_is) (by k_is) Hn.bd_join
  have d_full := Hn.def_mk (x := "is_side_too_full") (st := Hn.sFull) (ps := ["town", "s", "t", "d"]) KX G (by k_is) (by k_is) (by k_is) (by k_is) Hn.bd_full
  have d_hand := Hn.def_mk (x := "hand_over_side") (st := Hn.sHand) (ps := ["town", "s", "t", "d"]) KX G (by k_is) (by k_is) (by k_is) (by k_is) Hn.bd_hand
  have d_cut := Hn.def_mk (x := "cut_street") (st := Hn.sCut) (ps := ["town", "s", "m", "n"]) KX G (by k_is) (by k_is) (by k_is) (by k_is) Hn.bd_cut
  have d_find := Hn.def_mk (x := "find_plate") (st := Hn.sFind) (ps := ["town", "n", "x", "letter"]) KX G (by k_is) (by k_is) (by k_is) (by k_is) Hn.bd_find
  have d_opp := Hn.def_mk (x := "find_opposite") (st := Hn.sOpp) (ps := ["town", "h"]) KX G (by k_is) (by k_is) (by k_is) (by k_is) Hn.bd_opp
  have d_next := Hn.def_mk (x := "find_next") (st := Hn.sNext) (ps := ["town", "h"]) KX G (by k_is) (by k_is) (by k_is) (by k_is) Hn.bd_next
  have d_clos := Hn.def_mk (x := "find_closest") (st := Hn.sClos) (ps := ["town", "s", "m"]) KX G (by k_is) (by k_is) (by k_is) (by k_is) Hn.bd_clos
  have d_walk := Hn.def_mk (x := "measure_walk") (st := Hn.sWalk) (ps := ["town", "h", "i"]) KX G (by k_is) (by k_is) (by k_is) (by k_is) Hn.bd_walk
  have d_count := Hn.def_mk (x := "count_houses") (st := Hn.sCount) (ps := ["town", "s"]) KX G (by k_is) (by k_is) (by k_is) (by k_is) Hn.bd_count
  have d_free := Hn.def_mk (x := "least_free") (st := Hn.sFree) (ps := ["town", "s", "d"]) KX G (by k_is) (by k_is) (by k_is) (by k_is) Hn.bd_free
  have d_strs := Hn.def_mk (x := "list_streets") (st := Hn.sStrs) (ps := ["town"]) KX G (by k_is) (by k_is) (by k_is) (by k_is) Hn.bd_strs
  have d_look := Hn.def_mk (x := "look_at") (st := Hn.sLook) (ps := ["town", "h"]) KX G (by k_is) (by k_is) (by k_is) (by k_is) Hn.bd_look
  have d_bare := Hn.def_mk (x := "list_bare") (st := Hn.sBare) (ps := ["town", "s"]) KX G (by k_is) (by k_is) (by k_is) (by k_is) Hn.bd_bare
  have d_state := Hn.def_mk (x := "tell_state") (st := Hn.sState) (ps := ["town"]) KX G (by k_is) (by k_is) (by k_is) (by k_is) Hn.bd_state
  have d_ac := Hn.def_mk (x := "answer_call") (st := Hn.sAC) (ps := ["town", "call", "given"]) KX G (by k_is) (by k_is) (by k_is) (by k_is) Hn.bd_ac
  have d_makers := Hn.def_mk (x := "call_makers") (st := Hn.sMakers) (ps := []) KX G (by k_is) (by k_is) (by k_is) (by k_is) Hn.bd_makers
  have d_make := Hn.def_mk (x := "make_call") (st := Hn.sMake) (ps := ["maker", "town", "given"]) KX G (by k_is) (by k_is) (by k_is) (by k_is) Hn.bd_make
  have d_ord := Hn.defC_mk (x := "houses_in_order") (st := Hn.sOrd) (ps := ["town", "s", "d"]) (c := 152) KX G (by k_is) (by k_is) (by k_is) (by k_is) Hn.bd_ord
  have d_near := Hn.defC_mk (x := "nearest") (st := Hn.sNear) (ps := ["houses", "metre"]) (c := 375) KX G (by k_is) (by k_is) (by k_is) (by k_is) Hn.bd_near
  have n_last_number := Hn.num_mk (x := "LAST_NUMBER") (n := 999) KX G (by k_is)
  have n_last_letter := Hn.num_mk (x := "LAST_LETTER") (n := 26) KX G (by k_is)
  have n_plates_a_number := Hn.num_mk (x := "PLATES_A_NUMBER") (n := 27) KX G (by k_is)
  have n_no_such := Hn.num_mk (x := "NO_SUCH") (n := (-2)) KX G (by k_is)
  have n_without_plate := Hn.num_mk (x := "WITHOUT_PLATE") (n := (-6)) KX G (by k_is)
  have n_not_begun := Hn.num_mk (x := "NOT_BEGUN") (n := (-11)) KX G (by k_is)
  have n_not_one_street := Hn.num_mk (x := "NOT_ONE_STREET") (n := (-16)) KX G (by k_is)
  have n_so_already := Hn.num_mk (x := "SO_ALREADY") (n := (-17)) KX G (by k_is)
  have n_out_of_range := Hn.num_mk (x := "OUT_OF_RANGE") (n := (-22)) KX G (by k_is)
  have n_too_many := Hn.num_mk (x := "TOO_MANY") (n := (-28)) KX G (by k_is)
  have n_none_found := Hn.num_mk (x := "NONE_FOUND") (n := (-33)) KX G (by k_is)
  have n_wrong_side := Hn.num_mk (x := "WRONG_SIDE") (n := (-71)) KX G (by k_is)
  have n_most_streets := Hn.num_mk (x := "MOST_STREETS") (n := 6) KX G (by k_is)
  have n_most_houses := Hn.num_mk (x := "MOST_HOUSES") (n := 40) KX G (by k_is)
  have n_most_houses_of_side := Hn.num_mk (x := "MOST_HOUSES_OF_SIDE") (n := 10) KX G (by k_is)
  have n_last_name := Hn.num_mk (x := "LAST_NAME") (n := 999) KX G (by k_is)
  have n_least_metres := Hn.num_mk (x := "LEAST_METRES") (n := 10) KX G (by k_is)
  have n_most_metres := Hn.num_mk (x := "MOST_METRES") (n := 2000) KX G (by k_is)
  have n_begin := Hn.num_mk (x := "BEGIN") (n := 0) KX G (by k_is)
  have b_len := PySem.W.mg_none_of (n := "len") KX G (by k_is)
  have b_range := PySem.W.mg_none_of (n := "range") KX G (by k_is)
  have b_max := PySem.W.mg_none_of (n := "max") KX G (by k_is)
  have b_enumerate := PySem.W.mg_none_of (n := "enumerate") KX G (by k_is)
  have b_zip := PySem.W.mg_none_of (n := "zip") KX G (by k_is)
  have b_any := PySem.W.mg_none_of (n := "any") KX G (by k_is)
  have b_sorted := PySem.W.mg_none_of (n := "sorted") KX G (by k_is)
  have b_min := PySem.W.mg_none_of (n := "min") KX G (by k_is)
  have b_abs := PySem.W.mg_none_of (n := "abs") KX G (by k_is)
  have gT := PySem.W.mg_of (n := "Town") (v := .ref 74) KX G (by k_is)
  have cT := Hn.cls_mk (C := 74) KX (by k_is) (by k_is) (by k_is) (by k_is)
  have mT := Hn.mkM (C := 74) (f := 71) KX (by k_is) (by k_is) (by k_is) (by k_is)
  have aT_begun := Hn.noA_mk (C := 74) (f := "begun") KX (by k_is)
  have aT_streets := Hn.noA_mk (C := 74) (f := "streets") KX (by k_is)
  have aT_houses := Hn.noA_mk (C := 74) (f := "houses") KX (by k_is)
  obtain ⟨fdT, FT⟩ := Hn.funX (x := "__init__") (qual := "Town.__init__") (st := Hn.sInitT) (f := 71) KX (by k_is) (by k_is) (by k_is)
  have gS := PySem.W.mg_of (n := "Street") (v := .ref 95) KX G (by k_is)
  have cS := Hn.cls_mk (C := 95) KX (by k_is) (by k_is) (by k_is) (by k_is)
  have mS := Hn.mkM (C := 95) (f := 92) KX (by k_is) (by k_is) (by k_is) (by k_is)
  have aS_name := Hn.noA_mk (C := 95) (f := "name") KX (by k_is)
  have aS_metres := Hn.noA_mk (C := 95) (f := "metres") KX (by k_is)
  have aS_gone := Hn.noA_mk (C := 95) (f := "gone") KX (by k_is)
  obtain ⟨fdS, FS⟩ := Hn.funX (x := "__init__") (qual := "Street.__init__") (st := Hn.sInitS) (f := 92) KX (by k_is) (by k_is) (by k_is)
  have gH := PySem.W.mg_of (n := "House") (v := .ref 116) KX G (by k_is)
  have cH := Hn.cls_mk (C := 116) KX (by k_is) (by k_is) (by k_is) (by k_is)
  have mH := Hn.mkM (C := 116) (f := 113) KX (by k_is) (by k_is) (by k_is) (by k_is)
  have aH_serial := Hn.noA_mk (C := 116) (f := "serial") KX (by k_is)
  have aH_street := Hn.noA_mk (C := 116) (f := "street") KX (by k_is)
  have aH_side := Hn.noA_mk (C := 116) (f := "side") KX (by k_is)
  have aH_metre := Hn.noA_mk (C := 116) (f := "metre") KX (by k_is)
  have aH_plate := Hn.noA_mk (C := 116) (f := "plate") KX (by k_is)
  have aH_stands := Hn.noA_mk (C := 116) (f := "stands") KX (by k_is)
  obtain ⟨fdH, FH⟩ := Hn.funX (x := "__init__") (qual := "House.__init__") (st := Hn.sInitH) (f := 113) KX (by k_is) (by k_is) (by k_is)
  obtain ⟨fdA, FA⟩ := Hn.funX (x := "answers") (qual := "answers") (st := Hn.sAns) (f := 418) KX (by k_is) (by k_is) (by k_is)
  have eA := PySem.W.mg_of (n := "answers") (v := .ref 418) KX G (by k_is)
  have gN := PySem.W.mg_of (n := "NO_PLATE") (v := .ref 15) KX G (by k_is)
  have gA := PySem.W.mg_of (n := "ARGUMENT_COUNTS") (v := .ref 411) KX G (by k_is)
  have sN := Hn.sqT_X (a := 15) (xs := [.int 0, .int 0]) KX (by k_is) (by decide) (.cons ⟨_, rfl⟩ (.cons ⟨_, rfl⟩ .nil))
  have sA := Hn.sqT_X (a := 411) (xs := Hn.argNs.map L2.V.int) KX (by k_is) (by decide) (.cons ⟨_, rfl⟩ (.cons ⟨_, rfl⟩ (.cons ⟨_, rfl⟩ (.cons ⟨_, rfl⟩ (.cons ⟨_, rfl⟩ (.cons ⟨_, rfl⟩ (.cons ⟨_, rfl⟩ (.cons ⟨_, rfl⟩ (.cons ⟨_, rfl⟩ (.cons ⟨_, rfl⟩ (.cons ⟨_, rfl⟩ (.cons ⟨_, rfl⟩ (.cons ⟨_, rfl⟩ (.cons ⟨_, rfl⟩ (.cons ⟨_, rfl⟩ (.cons ⟨_, rfl⟩ (.cons ⟨_, rfl⟩ (.cons ⟨_, rfl⟩ (.cons ⟨_, rfl⟩ (.cons ⟨_, rfl⟩ (.cons ⟨_, rfl⟩ (.cons ⟨_, rfl⟩ (.cons ⟨_, rfl⟩ (.cons ⟨_, rfl⟩ (.cons ⟨_, rfl⟩ (.cons ⟨_, rfl⟩ .nil))))))))))))))))))))))))))
  refine Hn.all_mk (K := _) (mg := mg) (CT := 74) (CS := 95) (CH := 116) (np := 15) (ac := 411) (fT := 71) (fS := 92) (fH := 113) (cO := 152) (cN := 375) (TB := 150) (fdT := fdT) (fdS := fdS) (fdH := fdH) ?TX hmg eA FA
  exact { cl := ⟨cT, cS, cH, Hn.all3 aT_begun aT_streets aT_houses, Hn.all3 aS_name aS_metres aS_gone, Hn.all6 aH_serial aH_street aH_side aH_metre aH_plate aH_stands⟩, gn := ⟨gN, sN⟩, gA := gA, hA := sA, gT := gT, mT := mT, FT := FT, gS := gS, mS := mS, FS := FS, gH := gH, mH := mH, FH := FH, hO := by kernel_rfl, hN := by kernel_rfl, ne := by decide, b_len := b_len, b_range := b_range, b_max := b_max, b_enumerate := b_enumerate, b_zip := b_zip, b_any := b_any, b_sorted := b_sorted, b_min := b_min, b_abs := b_abs, n_last_number := n_last_number, n_last_letter := n_last_letter, n_plates_a_number := n_plates_a_number, n_no_such := n_no_such, n_without_plate := n_without_plate, n_not_begun := n_not_begun, n_not_one_street := n_not_one_street, n_so_already := n_so_already, n_out_of_range := n_out_of_range, n_too_many := n_too_many, n_none_found := n_none_found, n_wrong_side := n_wrong_side, n_most_streets := n_most_streets, n_most_houses := n_most_houses, n_most_houses_of_side := n_most_houses_of_side, n_last_name := n_last_name, n_least_metres := n_least_metres, n_most_metres := n_most_metres, n_begin := n_begin, d_ord := d_ord, d_near := d_near, d_least := d_least, d_ofSide := d_ofSide, d_isPlate := d_isPlate, d_platesOf := d_platesOf, d_rankOf := d_rankOf, d_plateAt := d_plateAt, d_findS := d_findS, d_findH := d_findH, d_named := d_named, d_used := d_used, d_hos := d_hos, d_plat := d_plat, d_ref := d_ref, d_isName := d_isName, d_beg := d_beg, d_add := d_add, d_ren := d_ren, d_build := d_build, d_pull := d_pull, d_list := d_list, d_right := d_right, d_rise := d_rise, d_few := d_few, d_mend := d_mend, d_plac := d_plac, d_from := d_from, d_long := d_long, d_exch := d_exch, d_put := d_put, d_take := d_take, d_anew := d_anew, d_side := d_side, d_betw := d_betw, d_try_ := d_try_, d_fits := d_fits, d_join := d_join, d_full := d_full, d_hand := d_hand, d_cut := d_cut, d_find := d_find, d_opp := d_opp, d_next := d_next, d_clos := d_clos, d_walk := d_walk, d_count := d_count, d_free := d_free, d_strs := d_strs, d_look := d_look, d_bare := d_bare, d_state := d_state, d_ac := d_ac, d_makers := d_makers, d_make := d_make }
 case S =>
  intro K H xs a hO hwi hask hx
  cases hx with
  | cons h1 h2 =>
   cases h2
   cases h1 with
   | lst hs ha =>
    have e := L2.ints_dw a.1 _ ha
    subst e
    have q : ((Codec.inLen 0 2000 a.1 && a.1.all (Codec.inInt 0 4294967295)) && true) = true := hwi
    rw [Bool.and_eq_true, Bool.and_eq_true] at q
    refine ⟨_, a.1, rfl, Hn.fz_of hO hs, ⟨.inl (hO.1 150 (by simp)), .inl (hO.1 371 (by simp))⟩, hask, fun n hn => ?_, (Codec.inNat_iff.mp q.1.1).2, fun H' p hp => .lst (L2.SqL.of hp) (L2.dw_ints _)⟩
    have z := List.all_eq_true.mp q.1.2 n hn
    exact Codec.inInt_iff.mp z
