import PyProof.Rows.All
import Wide.All
import OpenK.AllK
import Wide.FinOn
import PyProof.EqAt
import PyProof.EqKinds
import PyProof.TupleCall
import KE.BitLaws
import KE.KSortKeyAny
import KE.KDictList
import KE.KLam
import KE.OsGo
import Open.SpecLaws
import KE.KNestM
import PySem.Challenge.RW_nearmany_s01_answers
set_option Elab.async false
set_option linter.all false
set_option maxRecDepth 100000
namespace L2
open PySem PySem.Spec PyProof.Rows
abbrev Key := Sum Int Str
def keyIs : Key -> Value -> Bool
 | .inl k, v => Value.isInt k v
 | .inr x, v => Value.isStrOf x v
def keyH (w : World) : Key -> Int
 | .inl k => hashInt k
 | .inr x => hashStr w x
theorem qaI : ∀ {k : Key} {v : Value}, keyIs k v = true -> (∃ i t, k = Sum.inl i /\ v = Value.int i t) \/ (∃ x t, k = Sum.inr x /\ v = Value.str x t)
 | .inl i, v, h => by
  obtain ⟨t, e⟩ := Value.isInt_shape (k := i) (v := v) h
  exact .inl ⟨i, t, rfl, e⟩
 | .inr x, v, h => by
  obtain ⟨t, e⟩ := Value.isStrOf_shape (x := x) (v := v) h
  exact .inr ⟨x, t, rfl, e⟩
theorem qdx (i : Int) (t : Tok) : keyIs (.inl i) (.int i t) = true := by simp [keyIs, Value.isInt]
theorem qhm (x : Str) (t : Tok) : keyIs (.inr x) (.str x t) = true := by simp [keyIs, Value.isStrOf]
theorem key_ll (a b : Int) : decide ((Sum.inl a : Key) = Sum.inl b) = (a == b) := by
 by_cases e : a = b
 ·subst e; simp
 ·have h : ¬ (Sum.inl a : Key) = Sum.inl b := fun q => e (Sum.inl.inj q)
  rw [decide_eq_false h]
  exact (beq_eq_false_iff_ne.mpr e).symm
theorem key_rr (a b : Str) : decide ((Sum.inr a : Key) = Sum.inr b) = decide (a = b) := by
 by_cases e : a = b
 ·subst e; simp
 ·have h : ¬ (Sum.inr a : Key) = Sum.inr b := fun q => e (Sum.inr.inj q)
  rw [decide_eq_false h, decide_eq_false e]
theorem key_lr (a : Int) (b : Str) : decide ((Sum.inl a : Key) = Sum.inr b) = false := decide_eq_false (fun q => nomatch q)
theorem key_rl (a : Str) (b : Int) : decide ((Sum.inr a : Key) = Sum.inl b) = false := decide_eq_false (fun q => nomatch q)
def mixKind (prog : Program) (w : World) : PySem.KeyKind prog w Key where
 is := keyIs
 hash := keyH w
 inj := fun v a b ha hb => by
  rcases qaI ha with ⟨i, t, rfl, rfl⟩ | ⟨x, t, rfl, rfl⟩
  ·rcases qaI hb with ⟨j, u, rfl, e⟩ | ⟨y, u, rfl, e⟩
   ·injection e with e1 _; rw [e1]
   ·exact nomatch e
  ·rcases qaI hb with ⟨j, u, rfl, e⟩ | ⟨y, u, rfl, e⟩
   ·exact nomatch e
   ·injection e with e1 _; rw [e1]
 byValue := fun k v h => by
  rcases qaI h with ⟨i, t, rfl, rfl⟩ | ⟨x, t, rfl, rfl⟩ <;> rfl
 pyHash := fun hv h => by
  rcases qaI hv with ⟨i, t, rfl, rfl⟩ | ⟨x, t, rfl, rfl⟩
  ·exact wpAny_pyHash_int h
  ·exact wpAny_pyHash_str h
 eqBool := fun hu hv h => by
  rcases qaI hu with ⟨i, t, rfl, rfl⟩ | ⟨x, t, rfl, rfl⟩
  ·rcases qaI hv with ⟨j, u, rfl, rfl⟩ | ⟨y, u, rfl, rfl⟩
   ·rw [key_ll] at h; exact wpAny_eqBool_int h
   ·rw [key_lr] at h; exact SeqAt.EqAt.int_str i t y u _ _ _ _ h
  ·rcases qaI hv with ⟨j, u, rfl, rfl⟩ | ⟨y, u, rfl, rfl⟩
   ·rw [key_rl] at h; exact SeqAt.EqAt.str_int x t j u _ _ _ _ h
   ·rw [key_rr] at h; exact wpAny_eqBool_str h
 «strs» := fun k x t v h => by
  rcases qaI h with ⟨i, u, rfl, e⟩ | ⟨y, u, rfl, e⟩
  ·exact nomatch e
  ·injection e with e1 _
   subst e1
   cases v <;> rfl
theorem qgm (prog : Program) (w : World) (k : Key) (v : Value) : (mixKind prog w).is k v = keyIs k v := rfl
theorem qe6 (prog : Program) (w : World) (i : Int) (t : Tok) : (mixKind prog w).is (.inl i) (.int i t) = true := qdx i t
theorem qfi (prog : Program) (w : World) (x : Str) (t : Tok) : (mixKind prog w).is (.inr x) (.str x t) = true := qhm x t
end L2
namespace L2
open PySem PySem.Spec PyProof.Rows
inductive V where
 | non | bl (b : Bool) | int (i : Int) | str (x : Str) | byt (b : Array UInt8) | flt (b : UInt64) | ref (a : Addr) | ty (n : String)
 deriving DecidableEq
def RelV : V -> Value -> Prop
 | .non, u => u = Value.none
 | .bl b, u => u = Value.bool b
 | .int i, u => ∃ t, u = Value.int i t
 | .str x, u => ∃ t, u = Value.str x t
 | .byt b, u => ∃ t, u = Value.bytes b t
 | .flt b, u => ∃ t, u = Value.float b t
 | .ref a, u => u = Value.ref a
 | .ty n, u => u = Value.type n
abbrev Vals : List V -> List Value -> Prop := Paired RelV
theorem Vals.length {xs : List V} {us : List Value} (r : Vals xs us) : xs.length = us.length := Paired.length r
theorem Vals.get : ∀ {xs : List V} {us : List Value} {i : Nat} {x : V}, Vals xs us -> xs[i]? = some x -> ∃ u, us[i]? = some u /\ RelV x u
 | _, _, _, _, .nil, e => by simp at e
 | _, _, 0, _, .cons r _, e => by simp at e; subst e; exact ⟨_, rfl, r⟩
 | _, _, i + 1, x, .cons _ t, e => by
  obtain ⟨u, h1, h2⟩ := Vals.get (i := i) (x := x) t (by simpa using e)
  exact ⟨u, by simpa using h1, h2⟩
theorem Vals.set {x : V} {u : Value} (r : RelV x u) : ∀ {xs : List V} {us : List Value} (i : Nat), Vals xs us -> Vals (xs.set i x) (us.set i u)
 | _, _, _, .nil => .nil
 | _, _, 0, .cons _ t => .cons r t
 | _, _, i + 1, .cons q t => .cons q (Vals.set r i t)
theorem Vals.append : ∀ {xs ys : List V} {us ws : List Value}, Vals xs us -> Vals ys ws -> Vals (xs ++ ys) (us ++ ws)
 | _, _, _, _, .nil, s => s
 | _, _, _, _, .cons r t, s => .cons r (Vals.append t s)
theorem Vals.take : ∀ {xs : List V} {us : List Value} (n : Nat), Vals xs us -> Vals (xs.take n) (us.take n)
 | _, _, 0, _ => .nil
 | _, _, _ + 1, .nil => .nil
 | _, _, n + 1, .cons r t => .cons r (Vals.take n t)
theorem Vals.drop : ∀ {xs : List V} {us : List Value} (n : Nat), Vals xs us -> Vals (xs.drop n) (us.drop n)
 | _, _, 0, r => r
 | _, _, _ + 1, .nil => .nil
 | _, _, n + 1, .cons _ t => Vals.drop n t
def RelO : Option V -> Option Value -> Prop
 | some v, some u => RelV v u
 | none, none => True
 | _, _ => False
def KV {κ : Type} : List (κ × V) -> List (κ × Value) -> Prop := Paired fun (p : κ × V) (q : κ × Value) => p.1 = q.1 /\ RelV p.2 q.2
def kV : Key -> V
 | .inl i => .int i
 | .inr x => .str x
inductive HO where
 | lst (xs : List V)
 | tup (xs : List V)
 | dK (kvs : List (Key × V)) | dT (kvs : List (List Key × V))
 | set (S : Int -> Bool) (n : Nat)
 | ins (C dx : Addr) (fs : List (Str × V))
 | own (x : Addr)
 | xd (fs : List (Str × V))
 | met (f x : Addr)
 | rng (lo hi : Int)
 | frz (o : Obj) (u : HO)
 | tbl (ps : Array Value)
 | ext (φ : Heap -> Prop)
abbrev Hp := Addr -> Option HO
def upd (H : Hp) (a : Addr) (o : HO) : Hp := fun b => if b = a then some o else H b
theorem qaf {H : Hp} {a : Addr} {o : HO} : upd H a o a = some o := by unfold upd; rw [if_pos rfl]
theorem qaq {H : Hp} {a b : Addr} {o : HO} (h : b ≠ a) : upd H a o b = H b := by unfold upd; rw [if_neg h]
theorem qaV {H : Hp} {a : Addr} {o u : HO} : upd (upd H a o) a u = upd H a u := by
 funext b; unfold upd; split <;> rfl
theorem qfd {H : Hp} {a b : Addr} {o u : HO} (h : H a = some o) (h' : H b = some u) (d : o ≠ u) : a ≠ b := by
 intro e; subst e; rw [h] at h'; exact d (Option.some.inj h')
theorem qat {H : Hp} {a b : Addr} {o : HO} (h : H a = some o) (h' : H b = none) : a ≠ b := by
 intro e; subst e; rw [h] at h'; cases h'
section
variable (P : Program) (w : World)
def ObjOk (H : Hp) (h : Heap) (a : Addr) : HO -> Prop
 | .lst xs => xs.length <= sizeLine /\ ∃ (its : List Value) (n : Nat), Vals xs its /\ h.get? a = some { cls := .type "list", data := .seq its.toArray n }
 | .tup xs => xs.length <= sizeLine /\ ∃ its : List Value, Vals xs its /\ IsTup h a its.toArray
 | .dK kvs => kvs.length <= sizeLine /\ (a == sysModules) = false /\ ∃ vs, KV kvs vs /\ h.DictOf (mixKind P w) a vs
 | .dT kvs => kvs.length <= sizeLine /\ (a == sysModules) = false /\ ∃ xs : List (List Key × Addr × Value),
   Paired (fun (p : List Key × V) (q : List Key × Addr × Value) => p.1 = q.1 /\ H q.2.1 = some (.tup (p.1.map kV)) /\ RelV p.2 q.2.2) kvs xs /\
   ∃ o es ep, h.get? a = some o /\ o.ExactDict /\ o.data = .dict es ep /\ es.toList = xs.map (entryOfKey (tupleKind (mixKind P w))) /\ (xs.map (·.1)).Nodup
 | .set S n => h.SetOf (intKind P w) a S n
 | .ins C dx fs => H dx = some (.own a) /\ fs.length <= 1000 /\ dx ≠ a /\ h.get? a = some (PySem.W.instObj C dx) /\
   ∃ mA, h.Ns1 dx mA /\ (∀ f, RelO (fs.lookup f) (mA f)) /\ PySem.Within mA (fs.map (·.1))
 | .own _ => ∃ o, h.get? a = some o
 | .xd fs => ∃ mA, h.Ns1 a mA /\ ∀ f, RelO (fs.lookup f) (mA f)
 | .rng lo hi => ∃ t u v, h.get? a = some { cls := .type "range", data := .fields #[.int lo t, .int hi u, .int 1 v] }
 | .frz o u => h.get? a = some o /\ ObjOk H h a u
 | .tbl ps => h.get? a = some { cls := .none, data := .fields ps }
 | .met f x => h.get? a = some (PySem.W.methodObj (.ref f) (.ref x))
 | .ext φ => φ h /\ (∃ o, h.get? a = some o) /\ ∀ h1 h2 : Heap, φ h1 -> (∀ o, h1.get? a = some o -> h2.get? a = some o) -> φ h2
def HOk (H : Hp) (h : Heap) : Prop := ∀ a o, H a = some o -> ObjOk P w H h a o
end
section
variable {P : Program} {w : World} {H H' : Hp} {h h' : Heap} {a : Addr} {o : HO}
theorem ObjOk.lt (x : ObjOk P w H h a o) : a < h.objs.size := by
 cases o with
 | lst xs => obtain ⟨_, _, _, _, e⟩ := x; exact Heap.lt_size e
 | tup xs => obtain ⟨_, _, _, p⟩ := x; exact p.lt
 | dK kvs => obtain ⟨_, _, _, _, o, _, _, e, _⟩ := x; exact Heap.lt_size e
 | dT kvs => obtain ⟨_, _, _, _, o, _, _, e, _⟩ := x; exact Heap.lt_size e
 | set S n => obtain ⟨o, _, _, _, e, _⟩ := x; exact Heap.lt_size e
 | ins C dx fs => obtain ⟨_, _, _, e, _⟩ := x; exact Heap.lt_size e
 | own y => obtain ⟨_, e⟩ := x; exact Heap.lt_size e
 | xd fs => obtain ⟨_, ⟨_, _, _, e, _⟩, _⟩ := x; exact Heap.lt_size e
 | rng lo hi => obtain ⟨_, _, _, e⟩ := x; exact Heap.lt_size e
 | frz ob u => obtain ⟨e, _⟩ := x; exact Heap.lt_size e
 | tbl ps => exact Heap.lt_size (show h.get? a = some _ from x)
 | met f y => exact Heap.lt_size (show h.get? a = some _ from x)
 | ext φ => obtain ⟨_, ⟨_, e⟩, _⟩ := x; exact Heap.lt_size e
theorem Paired.mapP {α β : Type} {F G : α -> β -> Prop} : ∀ {l₁ : List α} {l₂ : List β}, Paired F l₁ l₂ -> (∀ a b, F a b -> G a b) -> Paired G l₁ l₂
 | _, _, .nil, _ => .nil
 | _, _, .cons r t, f => .cons (f _ _ r) (Paired.mapP t f)
theorem ObjOk.stay (x : ObjOk P w H h a o) (k : ∀ b u, (b = a \/ H b = some (.own a)) -> h.get? b = some u -> h'.get? b = some u)
  (ho : ∀ b, H b = some (.own a) -> H' b = some (.own a)) (ht : ∀ b xs, H b = some (.tup xs) -> H' b = some (.tup xs)) : ObjOk P w H' h' a o := by
 induction o with
 | lst xs => obtain ⟨z, its, n, r, e⟩ := x; exact ⟨z, its, n, r, k _ _ (.inl rfl) e⟩
 | tup xs => obtain ⟨z, its, r, ob, e, c⟩ := x; exact ⟨z, its, r, ob, k _ _ (.inl rfl) e, c⟩
 | dK kvs => obtain ⟨z, y, vs, r, ob, es, ep, e, c⟩ := x; exact ⟨z, y, vs, r, ob, es, ep, k _ _ (.inl rfl) e, c⟩
 | dT kvs =>
  obtain ⟨z, y, xs, r, ob, es, ep, e, c⟩ := x
  exact ⟨z, y, xs, Paired.mapP r fun p q z => ⟨z.1, ht _ _ z.2.1, z.2.2⟩, ob, es, ep, k _ _ (.inl rfl) e, c⟩
 | set S n => obtain ⟨ob, es, ep, t, e, c⟩ := x; exact ⟨ob, es, ep, t, k _ _ (.inl rfl) e, c⟩
 | ins C dx fs =>
  obtain ⟨d, z, ne, e, mA, ⟨od, es, ep, e2, c⟩, r⟩ := x
  exact ⟨ho _ d, z, ne, k _ _ (.inl rfl) e, mA, ⟨od, es, ep, k _ _ (.inr d) e2, c⟩, r⟩
 | own y => obtain ⟨ob, e⟩ := x; exact ⟨ob, k _ _ (.inl rfl) e⟩
 | xd fs => obtain ⟨mA, ⟨od, es, ep, e, c⟩, r⟩ := x; exact ⟨mA, ⟨od, es, ep, k _ _ (.inl rfl) e, c⟩, r⟩
 | rng lo hi => obtain ⟨t, u, v, e⟩ := x; exact ⟨t, u, v, k _ _ (.inl rfl) e⟩
 | frz ob u ih => obtain ⟨e, q⟩ := x; exact ⟨k _ _ (.inl rfl) e, ih q⟩
 | tbl ps =>
  have e : h.get? a = some { cls := .none, data := .fields ps } := x
  show h'.get? a = some { cls := .none, data := .fields ps }
  exact k a _ (.inl rfl) e
 | met f y =>
  have e : h.get? a = some (PySem.W.methodObj (.ref f) (.ref y)) := x
  show h'.get? a = some (PySem.W.methodObj (.ref f) (.ref y))
  exact k a _ (.inl rfl) e
 | ext φ => obtain ⟨p, ⟨o, e⟩, st⟩ := x; exact ⟨st _ _ p fun o q => k _ _ (.inl rfl) q, ⟨o, k _ _ (.inl rfl) e⟩, st⟩
theorem HOk.lt (x : HOk P w H h) (e : H a = some o) : a < h.objs.size := (x a o e).lt
theorem HOk.fresh (x : HOk P w H h) (e : h.objs.size <= a) : H a = none := by
 cases q : H a with
 | none => rfl
 | some u => exact absurd (Nat.lt_of_lt_of_le (x.lt q) e) (Nat.lt_irrefl _)
theorem HOk.kept (x : HOk P w H h) (k : ∀ b u, h.get? b = some u -> h'.get? b = some u) : HOk P w H h' := fun a o e =>
 (x a o e).stay (fun b u _ q => k b u q) (fun _ q => q) fun _ _ q => q
theorem HOk.laid (x : HOk P w H h) (k : ∀ b u, h.get? b = some u -> h'.get? b = some u) (hp : h.objs.size <= a) (new : ObjOk P w (upd H a o) h' a o) : HOk P w (upd H a o) h' := fun b u e => by
 have hn := x.fresh hp
 by_cases hb : b = a
 ·subst hb; rw [qaf] at e; cases e; exact new
 ·rw [qaq hb] at e
  exact (x b u e).stay (fun c v _ q => k c v q) (fun c q => by rw [qaq (qat q hn)]; exact q) fun c xs q => by rw [qaq (qat q hn)]; exact q
end
def Rd (H : Hp) (a : Addr) (u : HO) : Prop := H a = some u \/ ∃ o, H a = some (.frz o u)
theorem Rd.ok {P : Program} {w : World} {H : Hp} {h : Heap} {a : Addr} {u : HO} (r : Rd H a u) (x : HOk P w H h) : ObjOk P w H h a u := by
 rcases r with r | ⟨o, r⟩
 ·exact x a u r
 ·obtain ⟨_, q⟩ := x a _ r
  exact q
def Mut : Option HO -> Prop
 | some (.lst _) => True
 | some (.dK _) => True
 | some (.dT _) => True
 | some (.set _ _) => True
 | some (.ins _ _ _) => True
 | some (.ext _) => True
 | _ => False
section
variable {P : Program} {w : World} {H : Hp} {h h' : Heap} {x e : Addr} {o' : HO}
theorem HOk.write (ok : HOk P w H h) (mu : Mut (H x)) (he : e = x \/ H e = some (.own x)) (k : ∀ b u, b ≠ e -> h.get? b = some u -> h'.get? b = some u) (heo : ∃ u, h'.get? e = some u)
  (new : ObjOk P w (upd H x o') h' x o') : HOk P w (upd H x o') h' := fun b u q => by
 have nown : ∀ c y, H c = some (.own y) -> c ≠ x := fun c y r z => by subst z; rw [r] at mu; exact mu
 have ntup : ∀ c xs, H c = some (.tup xs) -> c ≠ x := fun c xs r z => by subst z; rw [r] at mu; exact mu
 by_cases hb : b = x
 ·subst hb; rw [qaf] at q; cases q; exact new
 ·rw [qaq hb] at q
  by_cases hbe : b = e
  ·have q' : H b = some (.own x) := by
    rcases he with z | z
    ·exact absurd (hbe.trans z) hb
    ·rw [hbe]; exact z
   rw [q] at q'; cases q'
   obtain ⟨v, hv⟩ := heo
   exact ⟨v, by rw [hbe]; exact hv⟩
  ·refine (ok b u q).stay (fun c v hc r => k c v ?_ r) (fun c r => by rw [qaq (nown c b r)]; exact r) fun c xs r => by rw [qaq (ntup c xs r)]; exact r
   rcases hc with rfl | hc
   ·exact hbe
   ·rintro rfl
    rcases he with z | z
    ·exact nown c b hc z
    ·rw [hc] at z; cases z; exact hb rfl
end
structure Un (fs ex : List Addr) (H H' : Hp) (h h' : Heap) : Prop where
 keep : ∀ b o, h.get? b = some o -> H b = none -> b ∉ fs -> b ∉ ex -> h'.get? b = some o
 slot : ∀ b o, h.get? b = some o -> H b = none -> b ∈ fs -> b ∉ ex -> ∃ sl, h'.get? b = some { o with slots := sl }
 free : ∀ b o, h.get? b = some o -> H b = none -> b ∉ ex -> H' b = none
 there : ∀ b o, h.get? b = some o -> b ∉ ex -> ∃ o', h'.get? b = some o'
 tups : ∀ b xs, H b = some (.tup xs) -> H' b = some (.tup xs)
 frzs : ∀ b o u, H b = some (.frz o u) -> H' b = some (.frz o u)
 tbls : ∀ b ps, H b = some (.tbl ps) -> ∃ more, H' b = some (.tbl (ps ++ more))
section
variable {fs fs' ex ex' : List Addr} {H H1 H2 : Hp} {h h1 h2 h' : Heap} {a x e : Addr} {o : HO}
theorem Un.any (u : Un fs ex H H1 h h1) {b : Addr} {ob : Obj} (q : h.get? b = some ob) (n : H b = none) (hx : b ∉ ex) : ∃ sl, h1.get? b = some { ob with slots := sl } := by
 by_cases hb : b ∈ fs
 ·exact u.slot b ob q n hb hx
 ·exact ⟨ob.slots, u.keep b ob q n hb hx⟩
theorem Un.kept (k : ∀ b u, h.get? b = some u -> h'.get? b = some u) : Un fs ex H H h h' :=
 ⟨fun b ob q _ _ _ => k b ob q, fun b ob q _ _ _ => ⟨ob.slots, k b ob q⟩, fun _ _ _ n _ => n, fun b ob q _ => ⟨ob, k b ob q⟩, fun _ _ q => q, fun _ _ _ q => q, fun _ ps q => ⟨#[], by rw [q]; simp⟩⟩
theorem Un.refl : Un fs ex H H h h := Un.kept fun _ _ q => q
theorem Un.laid (k : ∀ b u, h.get? b = some u -> h'.get? b = some u) (hp : h.objs.size <= a) (hn : H a = none) : Un fs ex H (upd H a o) h h' where
 keep := fun b u q _ _ _ => k b u q
 slot := fun b u q _ _ _ => ⟨u.slots, k b u q⟩
 free := fun b u q n _ => by rw [qaq (Nat.ne_of_lt (Nat.lt_of_lt_of_le (Heap.lt_size q) hp))]; exact n
 there := fun b u q _ => ⟨u, k b u q⟩
 tups := fun b xs q => by rw [qaq (qat q hn)]; exact q
 frzs := fun b u xs q => by rw [qaq (qat q hn)]; exact q
 tbls := fun b ps q => ⟨#[], by rw [qaq (qat q hn), q]; simp⟩
theorem Un.write (mu : Mut (H x)) (he : e = x \/ H e = some (.own x)) (k : ∀ b u, b ≠ e -> h.get? b = some u -> h'.get? b = some u) (heo : ∃ u, h'.get? e = some u) : Un fs ex H (upd H x o) h h' := by
 have hx : ∀ b, H b = none -> b ≠ x := fun b n z => by subst z; rw [n] at mu; exact mu
 have hb : ∀ b, H b = none -> b ≠ e := fun b n z => by
  subst z
  rcases he with r | r
  ·exact hx b n r
  ·rw [n] at r; cases r
 have hm : ∀ b u, H b = some u -> ¬ Mut (some u) -> b ≠ x := fun b u q nm z => by subst z; rw [q] at mu; exact nm mu
 refine ⟨fun b u q n _ _ => k b u (hb b n) q, fun b u q n _ _ => ⟨u.slots, k b u (hb b n) q⟩, fun b u q n _ => by rw [qaq (hx b n)]; exact n, fun b u q _ => ?_,
  fun b xs q => by rw [qaq (hm b _ q fun z => z)]; exact q, fun b u xs q => by rw [qaq (hm b _ q fun z => z)]; exact q, fun b ps q => ⟨#[], by rw [qaq (hm b _ q fun z => z), q]; simp⟩⟩
 by_cases hbe : b = e
 ·subst hbe; exact heo
 ·exact ⟨u, k b u hbe q⟩
end
def trk (h : Heap) (H : Hp) : List Addr := (List.range h.objs.size).filter fun a => (H a).isSome
def hidT (h : Heap) (H : Hp) : Heap := PySem.W.hideAll h (trk h H)
theorem qhI (h : Heap) (H : Hp) : (hidT h H).objs.size = h.objs.size := PySem.W.hideAll_size _ _
theorem qh5 {h : Heap} {H : Hp} {b : Addr} {o : Obj} (e : h.get? b = some o) (n : H b = none) : (hidT h H).get? b = some o :=
 PySem.W.hideAll_get _ e fun hm => by
  have q : (H b).isSome = true := (List.mem_filter.mp hm).2
  rw [n] at q; simp at q
theorem qmu {h : Heap} {H : Hp} {b : Addr} {o : Obj} (e : (hidT h H).get? b = some o) : h.get? b = some o /\ H b = none := by
 have e' : h.get? b = some o := PySem.W.of_hideAll (trk h H) e
 refine ⟨e', ?_⟩
 cases q : H b with
 | none => rfl
 | some x =>
  have hm : b ∈ trk h H := List.mem_filter.mpr ⟨List.mem_range.mpr (Heap.lt_size e'), by simp [q]⟩
  have z : (hidT h H).get? b = none := PySem.W.hideAll_none (trk h H) hm
  rw [z] at e; cases e
end L2
namespace L2
open PySem PySem.Spec PyProof.Rows
structure Mod (K : PySem.W.Frag) (mg : Str -> Option Value) (base : Heap) : Prop where
 kin : K.In base
 glob : base.Ns mainGlobals mg
 blt : ∃ mb, base.Ns builtinsNs mb /\ ∀ x : Str, x ≠ "__name__" -> mb x = bootBuiltins x
 nolimit : base.NoLimit
structure Cx where
 prog : Program
 w : World
 K : PySem.W.Frag
 mg : Str -> Option Value
 base : Heap
 A : Around
 N : List Str
 s₀ : Shared
 H₀ : Hp
 env : Env
 outer : List Env
 stack : List Env
 ex : List Addr
 fn : Str -> Bool
 calm : Bool
 pn : List (Addr × Obj)
 xe : Value -> Shared -> Prop
def frs (l : List Env) : List Addr := l.filterMap (·.frame)
abbrev Cx.fs (X : Cx) : List Addr := frs X.outer
def Vis (sc : Scope) (x : Str) : Prop := sc.names.lookup x = some .local \/ sc.names.lookup x = some .cell \/ sc.names.lookup x = some .free
def Loc (sc : Scope) (x : Str) : Prop := sc.names.lookup x = some .local \/ sc.names.lookup x = some .cell
def Look (env : Env) (h : Heap) (m : Str -> Option Value) (x : Str) (u : Value) : Prop :=
 (env.kindOf x = some .local /\ m x = some u) \/ ((env.kindOf x = some .cell \/ env.kindOf x = some .free) /\ ∃ c, env.cells.lookup x = some c /\ h.IsCell c (some u))
structure Cx.Ok (X : Cx) : Prop where
 mod : Mod X.K X.mg X.base
 kind : X.env.scope.kind = .function
 glob : X.env.globals = mainGlobals
 blt : X.env.builtins = builtinsNs
 above : X.s₀.heap.objs.size <= X.env.locals
 inj : ∀ x y c, X.env.cells.lookup x = some c -> X.env.cells.lookup y = some c -> x = y
 has : ∀ x, (X.env.kindOf x = some .cell \/ X.env.kindOf x = some .free) -> ∃ c, X.env.cells.lookup x = some c
 cab : ∀ x c, X.fn x = true -> X.env.cells.lookup x = some c -> X.s₀.heap.objs.size <= c
 hd : X.calm = true -> X.A.handled = none
 frames : X.A.frames = some X.stack
 stk : X.stack = X.outer \/ (X.stack = X.env :: X.outer /\ X.env.frame = some X.env.locals)
 exf : ∀ b ∈ X.ex, b ≠ X.env.locals /\ ∀ x c, X.env.cells.lookup x = some c -> c ≠ b
 bs : ∀ b o, X.base.get? b = some o -> X.s₀.heap.get? b = some o /\ X.H₀ b = none
 bsz : X.base.objs.size <= X.s₀.heap.objs.size
 noex : ∀ b o, X.base.get? b = some o -> b ∉ X.ex
 exfs : ∀ b ∈ X.ex, b ∉ X.fs
 funs : X.s₀.heap.FunFrames X.base X.outer
 frf : ∀ b ∈ X.fs, X.H₀ b = none
structure Inv (X : Cx) (pins : List (Addr × Obj)) (σ : List (Option V)) (H : Hp) (s : Shared) : Prop where
 ok : X.Ok
 os : s.os = X.s₀.os
 bare : AllBare s.gens
 base : Un X.fs X.ex X.H₀ H X.s₀.heap s.heap
 loc : ∃ m, s.heap.Ns X.env.locals m /\ ∀ (i : Nat) (x : Str) (v : V), X.N[i]? = some x -> σ[i]? = some (some v) -> Vis X.env.scope x -> ∃ u, RelV v u /\ Look X.env s.heap m x u
 cell : ∀ x c, X.env.cells.lookup x = some c -> ∃ v, s.heap.IsCell c v
 free : H X.env.locals = none
 freeC : ∀ x c, X.env.cells.lookup x = some c -> H c = none
 pin : ∀ p ∈ X.pn ++ pins, s.heap.get? p.1 = some p.2 /\ H p.1 = none /\ p.1 ≠ X.env.locals /\ p.1 ∉ X.fs /\ ∀ v, p.2.data ≠ .cell v
 hok : HOk X.prog X.w H s.heap
 len : σ.length = X.N.length
section
variable {X : Cx} {pins : List (Addr × Obj)} {σ : List (Option V)} {H H' : Hp} {s : Shared} {h' : Heap}
theorem Cx.Ok.nofr (ok : X.Ok) {b : Addr} {o : Obj} (e : X.base.get? b = some o) : b ∉ X.fs := fun hb => by
 have := (ok.funs.mem hb).1
 rw [e] at this; cases this
theorem Inv.bs (I : Inv X pins σ H s) : ∀ b o, X.base.get? b = some o -> s.heap.get? b = some o /\ H b = none := fun b o e =>
 ⟨I.base.keep b o (I.ok.bs b o e).1 (I.ok.bs b o e).2 (I.ok.nofr e) (I.ok.noex b o e), I.base.free b o (I.ok.bs b o e).1 (I.ok.bs b o e).2 (I.ok.noex b o e)⟩
theorem Inv.bk (I : Inv X pins σ H s) : ∀ b o, X.base.get? b = some o -> s.heap.get? b = some o := fun b o e => (I.bs b o e).1
theorem Inv.mod (I : Inv X pins σ H s) : Mod X.K X.mg X.base := I.ok.mod
theorem Inv.kIn (I : Inv X pins σ H s) : X.K.In s.heap := I.ok.mod.kin.keeps I.bk
theorem Inv.nolimit (I : Inv X pins σ H s) : s.heap.NoLimit := I.ok.mod.nolimit.keeps I.bk
theorem Inv.fr (I : Inv X pins σ H s) : ∃ m, Fr X.base X.env.locals s.heap m :=
 let ⟨m, hn, _⟩ := I.loc
 ⟨m, hn, I.bk, Nat.le_trans I.ok.bsz I.ok.above⟩
theorem Inv.lt (I : Inv X pins σ H s) : X.env.locals < s.heap.objs.size := let ⟨_, hn, _⟩ := I.loc; hn.lt
theorem Inv.sz (I : Inv X pins σ H s) : X.s₀.heap.objs.size <= s.heap.objs.size := Nat.le_trans I.ok.above (Nat.le_of_lt I.lt)
theorem Inv.nofs (I : Inv X pins σ H s) {a : Addr} (h : s.heap.objs.size <= a) : a ∉ X.fs := fun hb => by
 obtain ⟨_, o, ho, _⟩ := I.ok.funs.mem hb
 exact absurd (Nat.lt_of_lt_of_le (Heap.lt_size ho) (Nat.le_trans I.sz h)) (Nat.lt_irrefl _)
theorem Inv.cne (I : Inv X pins σ H s) : ∀ x c, X.env.cells.lookup x = some c -> c ≠ X.env.locals := fun x c e z => by
 obtain ⟨v, o, ho, hd⟩ := I.cell x c e
 obtain ⟨m, ⟨o', es, ep, ho', hd', _⟩, _⟩ := I.loc
 rw [z, ho'] at ho; cases ho; rw [hd'] at hd; cases hd
theorem Inv.funs (I : Inv X pins σ H s) : s.heap.FunFrames X.base X.outer := by
 have all : ∀ (l : List Env), (∀ b ∈ frs l, b ∈ X.fs) -> X.s₀.heap.FunFrames X.base l -> s.heap.FunFrames X.base l := by
  intro l
  induction l with
  | nil => intro _ _; trivial
  | cons env r ih =>
   intro hs hl
   obtain ⟨hk, ⟨L, o, hf, hn, ho, hd⟩, hr⟩ := hl
   have hL : L ∈ X.fs := hs L (by unfold frs; rw [List.filterMap_cons, hf]; exact List.mem_cons_self)
   obtain ⟨sl, e⟩ := I.base.slot L o ho (I.ok.frf L hL) hL fun z => I.ok.exfs L z hL
   exact ⟨hk, ⟨L, _, hf, hn, e, hd⟩, ih (fun b hb => hs b (by unfold frs; rw [List.filterMap_cons, hf]; exact List.mem_cons_of_mem _ hb)) hr⟩
 exact all X.outer (fun _ hb => hb) I.ok.funs
theorem Inv.stack (I : Inv X pins σ H s) : s.heap.FunFrames X.base X.stack := by
 rcases I.ok.stk with e | ⟨e, hf⟩
 ·rw [e]; exact I.funs
 ·rw [e]
  obtain ⟨m, hn, _⟩ := I.loc
  refine .cons (by rw [I.ok.kind]; decide) hf hn ?_ I.funs
  exact Heap.get?_none_of_le (Nat.le_trans I.ok.bsz I.ok.above)
theorem Inv.stkSub (I : Inv X pins σ H s) : ∀ b ∈ frs X.stack, b ∈ X.env.locals :: X.fs := fun b hb => by
 rcases I.ok.stk with e | ⟨e, hf⟩
 ·rw [e] at hb; exact List.mem_cons_of_mem _ hb
 ·rw [e] at hb
  unfold frs at hb
  rw [List.filterMap_cons, hf] at hb
  exact hb
theorem Inv.stkFree (I : Inv X pins σ H s) : ∀ b ∈ frs X.stack, H b = none := fun b hb => by
 rcases List.mem_cons.mp (I.stkSub b hb) with e | hb
 ·rw [e]; exact I.free
 ·obtain ⟨_, o, ho, _⟩ := I.ok.funs.mem hb
  exact I.base.free b o ho (I.ok.frf b hb) fun z => I.ok.exfs b z hb
theorem Inv.step {g' : Array GenState} {t' : Nat} {d' : Drawn} {ch : List Addr} (I : Inv X pins σ H s)
  (hch : ∀ b ∈ ch, (b ∈ X.ex \/ X.s₀.heap.objs.size <= b) /\ b ≠ X.env.locals /\ (∀ x c, X.env.cells.lookup x = some c -> c ≠ b) /\ ∀ p ∈ X.pn ++ pins, p.1 ≠ b)
  (keep : ∀ b o, b ≠ X.env.locals -> b ∉ X.fs -> b ∉ ch -> s.heap.get? b = some o -> H b = none -> h'.get? b = some o)
  (slot : ∀ b o, b ≠ X.env.locals -> b ∈ X.fs -> b ∉ ch -> s.heap.get? b = some o -> H b = none -> ∃ sl, h'.get? b = some { o with slots := sl }) (free : ∀ b o, b ∉ ch -> s.heap.get? b = some o -> H b = none -> H' b = none)
  (there : ∀ b o, b ∉ ch -> s.heap.get? b = some o -> ∃ o', h'.get? b = some o')
  (tups : ∀ b xs, H b = some (.tup xs) -> H' b = some (.tup xs)) (frzs : ∀ b o u, H b = some (.frz o u) -> H' b = some (.frz o u)) (tbls : ∀ b ps, H b = some (.tbl ps) -> ∃ more, H' b = some (.tbl (ps ++ more)))
  (ns : ∀ m, s.heap.Ns X.env.locals m -> h'.Ns X.env.locals m) (hok : HOk X.prog X.w H' h') (hg : AllBare g') :
  Inv X pins σ H' { s with heap := h', gens := g', drawn := d', toks := t' } := by
 have neL : ∀ b o, X.s₀.heap.get? b = some o -> b ≠ X.env.locals := fun b o e => Nat.ne_of_lt (Nat.lt_of_lt_of_le (Heap.lt_size e) I.ok.above)
 have neC : ∀ b o, X.s₀.heap.get? b = some o -> b ∉ X.ex -> b ∉ ch := fun b o e hx hb => by
  rcases (hch b hb).1 with z | z
  ·exact hx z
  ·exact absurd (Nat.lt_of_lt_of_le (Heap.lt_size e) z) (Nat.lt_irrefl _)
 have cellK : ∀ x c, X.env.cells.lookup x = some c -> ∀ v, s.heap.IsCell c v -> h'.IsCell c v := fun x c e v ⟨o, ho, hd⟩ => by
  have nch : c ∉ ch := fun z => (hch c z).2.2.1 x c e rfl
  by_cases hc : c ∈ X.fs
  ·obtain ⟨sl, q⟩ := slot c o (I.cne x c e) hc nch ho (I.freeC x c e)
   exact ⟨_, q, hd⟩
  ·exact ⟨o, keep c o (I.cne x c e) hc nch ho (I.freeC x c e), hd⟩
 refine ⟨I.ok, I.os, hg, ⟨fun b o e n hb hx => ?_, fun b o e n hb hx => ?_, fun b o e n hx => ?_, fun b o e hx => ?_, fun b xs e => tups b xs (I.base.tups b xs e), fun b o xs e => frzs b o xs (I.base.frzs b o xs e), fun b ps e => ?_⟩, ?_, fun x c e => ?_, ?_, fun x c e => ?_, fun p hp => ?_, hok, I.len⟩
 ·exact keep b o (neL b o e) hb (neC b o e hx) (I.base.keep b o e n hb hx) (I.base.free b o e n hx)
 ·obtain ⟨sl, e1⟩ := I.base.slot b o e n hb hx
  obtain ⟨sl', e2⟩ := slot b _ (neL b o e) hb (neC b o e hx) e1 (I.base.free b o e n hx)
  exact ⟨sl', e2⟩
 ·obtain ⟨o', e1⟩ := I.base.there b o e hx
  exact free b o' (neC b o e hx) e1 (I.base.free b o e n hx)
 ·obtain ⟨o', e1⟩ := I.base.there b o e hx
  exact there b o' (neC b o e hx) e1
 ·obtain ⟨m1, e1⟩ := I.base.tbls b ps e
  obtain ⟨m2, e2⟩ := tbls b _ e1
  exact ⟨m1 ++ m2, by rw [e2, Array.append_assoc]⟩
 ·obtain ⟨m, hn, hl⟩ := I.loc
  refine ⟨m, ns m hn, fun i x v e1 e2 e3 => ?_⟩
  obtain ⟨u, r, l⟩ := hl i x v e1 e2 e3
  refine ⟨u, r, ?_⟩
  rcases l with l | ⟨k, c, e, z⟩
  ·exact .inl l
  ·exact .inr ⟨k, c, e, cellK x c e _ z⟩
 ·obtain ⟨v, z⟩ := I.cell x c e
  exact ⟨v, cellK x c e v z⟩
 ·obtain ⟨m, ⟨o, _, _, ho, _⟩, _⟩ := I.loc
  exact free _ o (fun z => (hch _ z).2.1 rfl) ho I.free
 ·obtain ⟨v, o, ho, hd⟩ := I.cell x c e
  exact free c o (fun z => (hch c z).2.2.1 x c e rfl) ho (I.freeC x c e)
 ·obtain ⟨e, n, ne, nf, d⟩ := I.pin p hp
  have nch : p.1 ∉ ch := fun z => (hch p.1 z).2.2.2 p hp rfl
  exact ⟨keep p.1 p.2 ne nf nch e n, free p.1 p.2 nch e n, ne, nf, d⟩
theorem Inv.un {t' : Nat} (I : Inv X pins σ H s) (u : Un X.fs [] H H' s.heap h') (hok : HOk X.prog X.w H' h') : Inv X pins σ H' { s with heap := h', toks := t' } := by
 obtain ⟨m, ⟨o, es, ep, ho, r⟩, _⟩ := id I.loc
 obtain ⟨sl, hL⟩ := u.any ho I.free (by simp)
 exact I.step (g' := s.gens) (d' := s.drawn) (ch := []) (fun _ z => nomatch z) (fun b o _ hb _ e n => u.keep b o e n hb (by simp)) (fun b o _ hb _ e n => u.slot b o e n hb (by simp)) (fun b o _ e n => u.free b o e n (by simp)) (fun b o _ e => u.there b o e (by simp)) u.tups u.frzs u.tbls (fun m' hm => by
  obtain ⟨o', es', ep', ho', r'⟩ := hm
  rw [ho] at ho'; cases ho'
  exact ⟨_, es', ep', hL, r'⟩) hok I.bare
theorem Inv.call {g' : Array GenState} {t' : Nat} {d' : Drawn} {ch : List Addr} (I : Inv X pins σ H s) (u : Un (frs X.stack) ch H H' s.heap h') (hok : HOk X.prog X.w H' h') (hg : AllBare g')
  (hch : ∀ b ∈ ch, (b ∈ X.ex \/ X.s₀.heap.objs.size <= b) /\ b ≠ X.env.locals /\ (∀ x c, X.env.cells.lookup x = some c -> c ≠ b) /\ ∀ p ∈ X.pn ++ pins, p.1 ≠ b) :
  Inv X pins σ H' { s with heap := h', gens := g', drawn := d', toks := t' } := by
 obtain ⟨m, ⟨o, es, ep, ho, r⟩, _⟩ := id I.loc
 obtain ⟨sl, hL⟩ := u.any ho I.free fun z => (hch _ z).2.1 rfl
 exact I.step (ch := ch) hch (fun b o hL hb hc e n => u.keep b o e n (fun z => (List.mem_cons.mp (I.stkSub b z)).elim hL hb) hc) (fun b o _ _ hc e n => u.any e n hc) (fun b o hc e n => u.free b o e n hc) (fun b o hc e => u.there b o e hc) u.tups u.frzs u.tbls (fun m' hm => by
  obtain ⟨o', es', ep', ho', r'⟩ := hm
  rw [ho] at ho'; cases ho'
  exact ⟨_, es', ep', hL, r'⟩) hok hg
theorem Inv.turned {t' : Nat} {it : Addr} (I : Inv X pins σ H s) (k : ∀ b o, b ≠ it -> s.heap.get? b = some o -> h'.get? b = some o) (hn : H it = none) (hL : it ≠ X.env.locals)
  (h1 : it ∈ X.ex \/ X.s₀.heap.objs.size <= it) (h2 : ∀ x c, X.env.cells.lookup x = some c -> c ≠ it) (h3 : ∀ p ∈ X.pn ++ pins, p.1 ≠ it) : Inv X pins σ H { s with heap := h', toks := t' } := by
 have nit : ∀ b u, H b = some u -> b ≠ it := fun b u e z => by rw [z, hn] at e; cases e
 refine I.step (g' := s.gens) (d' := s.drawn) (ch := [it]) (fun b hb => ?_) (fun b o _ _ hc e _ => k b o (fun z => hc (by simp [z])) e) (fun b o _ _ hc e _ => ⟨o.slots, k b o (fun z => hc (by simp [z])) e⟩) (fun _ _ _ _ n => n)
  (fun b o hc e => ⟨o, k b o (fun z => hc (by simp [z])) e⟩) (fun _ _ e => e) (fun _ _ _ e => e) (fun b ps e => ⟨#[], by rw [e]; simp⟩) (fun m hm => ?_) (fun b u e => ?_) I.bare
 ·have e : b = it := by simpa using hb
  subst e
  exact ⟨h1, hL, h2, h3⟩
 ·obtain ⟨o, es, ep, ho, r⟩ := hm
  exact ⟨o, es, ep, k _ o (Ne.symm hL) ho, r⟩
 ·refine (I.hok b u e).stay (fun c v hc q => k c v ?_ q) (fun _ q => q) fun _ _ q => q
  rcases hc with z | z
  ·rw [z]; exact nit b u e
  ·exact nit c _ z
theorem Inv.tok (I : Inv X pins σ H s) (t : Nat) : Inv X pins σ H { s with toks := t } := I.un (h' := s.heap) (t' := t) Un.refl I.hok
theorem Inv.kept {t' : Nat} (I : Inv X pins σ H s) (k : ∀ b u, s.heap.get? b = some u -> h'.get? b = some u) : Inv X pins σ H { s with heap := h', toks := t' } := I.un (Un.kept k) (I.hok.kept k)
theorem Inv.laid {a : Addr} {o : HO} {t' : Nat} (I : Inv X pins σ H s) (k : ∀ b u, s.heap.get? b = some u -> h'.get? b = some u) (hp : s.heap.objs.size <= a) (new : ObjOk X.prog X.w (upd H a o) h' a o) :
  Inv X pins σ (upd H a o) { s with heap := h', toks := t' } := I.un (Un.laid k hp (I.hok.fresh hp)) (I.hok.laid k hp new)
theorem Inv.write {x e : Addr} {o : HO} {t' : Nat} (I : Inv X pins σ H s) (mu : Mut (H x)) (he : e = x \/ H e = some (.own x)) (k : ∀ b u, b ≠ e -> s.heap.get? b = some u -> h'.get? b = some u) (heo : ∃ u, h'.get? e = some u)
  (new : ObjOk X.prog X.w (upd H x o) h' x o) : Inv X pins σ (upd H x o) { s with heap := h', toks := t' } := I.un (Un.write mu he k heo) (I.hok.write mu he k heo new)
theorem Inv.weak {σ' : List (Option V)} (I : Inv X pins σ H s) (hl : σ'.length = σ.length) (w : ∀ (i : Nat) v, σ'[i]? = some (some v) -> σ[i]? = some (some v)) : Inv X pins σ' H s :=
 ⟨I.ok, I.os, I.bare, I.base, let ⟨m, hn, hl'⟩ := I.loc; ⟨m, hn, fun i x v e1 e2 e3 => hl' i x v e1 (w i v e2) e3⟩, I.cell, I.free, I.freeC, I.pin, I.hok, hl.trans I.len⟩
theorem Inv.pins_of {pins' : List (Addr × Obj)} (I : Inv X pins σ H s) (h : ∀ p ∈ pins', s.heap.get? p.1 = some p.2 /\ H p.1 = none /\ p.1 ≠ X.env.locals /\ p.1 ∉ X.fs /\ ∀ v, p.2.data ≠ .cell v) : Inv X pins' σ H s :=
 ⟨I.ok, I.os, I.bare, I.base, I.loc, I.cell, I.free, I.freeC, fun p hp => (List.mem_append.mp hp).elim (fun z => I.pin p (List.mem_append_left _ z)) (h p), I.hok, I.len⟩
theorem qee {N : List Str} (hN : N.Nodup) {i j : Nat} {x : Str} (a : N[i]? = some x) (b : N[j]? = some x) : i = j := by
 obtain ⟨h1, e1⟩ := List.getElem?_eq_some_iff.mp a
 obtain ⟨h2, e2⟩ := List.getElem?_eq_some_iff.mp b
 exact (List.getElem_inj hN).mp (e1.trans e2.symm)
theorem qhA {M : Model} {A : Around} {E : Value -> Shared -> Prop} {i : Nat} {x : Str} {v : V} {u : Value} {Q : Unit -> Shared -> Prop} (I : Inv X pins σ H s) (hN : X.N.Nodup) (hi : X.N[i]? = some x) (hx : Loc X.env.scope x) (r : RelV v u)
  (h : ∀ s', Inv X pins (σ.set i (some v)) H s' -> (∃ a, Heap.SameBut a s.heap s'.heap /\ (a = X.env.locals \/ X.env.cells.lookup x = some a)) -> Q () s') (hf : X.fn x = true \/ X.env.scope.names.lookup x = some .local := by first | exact .inl rfl | exact .inr rfl | assumption) : wpAny M A (storeName X.env x u) Q E s := by
 obtain ⟨m, hn, hl⟩ := id I.loc
 have hcls : (X.env.scope.kind == .class || (X.env.scope.kind == .module && X.env.locals != X.env.globals)) = false := by rw [I.ok.kind]; rfl
 have hiσ : i < σ.length := by rw [I.len]; exact (List.getElem?_eq_some_iff.mp hi).1
 have cne := I.cne
 have tracked : ∀ {a : Addr} {h' : Heap}, (∃ o, s.heap.get? a = some o /\ H a = none) -> Heap.SameBut a s.heap h' -> HOk X.prog X.w H h' := fun {a h'} ha hs b ob e => by
  obtain ⟨_, _, hfree⟩ := ha
  refine (I.hok b ob e).stay (fun c w' hc q => (hs.2 c ?_).trans q) (fun _ q => q) fun _ _ q => q
  rintro rfl
  rcases hc with rfl | hc
  ·rw [hfree] at e; cases e
  ·rw [hfree] at hc; cases hc
 rcases hx with hk | hk
 ·refine wpAny_storeName_local hk hn (fun h' hn' hs => ?_) hcls
  obtain ⟨oL, _, _, hoL, _⟩ := id hn
  refine h _ ⟨I.ok, I.os, I.bare, ⟨fun b o e n hb hx => ?_, fun b o e n hb hx => ?_, I.base.free, fun b o e hx => ?_, I.base.tups, I.base.frzs, I.base.tbls⟩, ⟨_, hn', fun j y v' e1 e2 e3 => ?_⟩, fun y c e => ?_, I.free, I.freeC, fun p hp => ?_, tracked ⟨oL, hoL, I.free⟩ hs, by simpa using I.len⟩ ⟨_, hs, .inl rfl⟩
  ·exact (hs.2 b (Nat.ne_of_lt (Nat.lt_of_lt_of_le (Heap.lt_size e) I.ok.above))).trans (I.base.keep b o e n hb hx)
  ·obtain ⟨sl, e1⟩ := I.base.slot b o e n hb hx
   exact ⟨sl, (hs.2 b (Nat.ne_of_lt (Nat.lt_of_lt_of_le (Heap.lt_size e) I.ok.above))).trans e1⟩
  ·obtain ⟨o', e1⟩ := I.base.there b o e hx
   exact ⟨o', (hs.2 b (Nat.ne_of_lt (Nat.lt_of_lt_of_le (Heap.lt_size e) I.ok.above))).trans e1⟩
  ·by_cases hj : j = i
   ·subst hj
    rw [hi] at e1; cases e1
    rw [List.getElem?_set_self hiσ] at e2
    cases e2
    exact ⟨u, r, .inl ⟨hk, by simp⟩⟩
   ·rw [List.getElem?_set_ne (Ne.symm hj)] at e2
    obtain ⟨u', r', q⟩ := hl j y v' e1 e2 e3
    refine ⟨u', r', ?_⟩
    rcases q with ⟨k, e⟩ | ⟨k, c, e, z⟩
    ·refine .inl ⟨k, ?_⟩
     have : y ≠ x := fun e => hj (qee hN e1 (e ▸ hi))
     simp [this, e]
    ·exact .inr ⟨k, c, e, z.sameBut hs (cne y c e)⟩
  ·obtain ⟨w', z⟩ := I.cell y c e
   exact ⟨w', z.sameBut hs (cne y c e)⟩
  ·obtain ⟨e, n, ne, nf, d⟩ := I.pin p hp
   exact ⟨(hs.2 p.1 ne).trans e, n, ne, nf, d⟩
 ·have hfn : X.fn x = true := by
   rcases hf with z | z
   ·exact z
   ·rw [z] at hk; cases hk
  obtain ⟨c, hc⟩ := I.ok.has x (.inl hk)
  obtain ⟨w', z⟩ := I.cell x c hc
  refine wpAny_storeName_cell I.ok.kind hk hc z (fun h' hc' hs => ?_)
  obtain ⟨oc, hoc, hocd⟩ := id z
  refine h { s with heap := h' } ⟨I.ok, I.os, I.bare, ⟨fun b o e n hb hx => ?_, fun b o e n hb hx => ?_, I.base.free, fun b o e hx => ?_, I.base.tups, I.base.frzs, I.base.tbls⟩, ⟨m, hn.sameBut hs (Ne.symm (cne x c hc)), fun j y v' e1 e2 e3 => ?_⟩, fun y c' e => ?_, I.free, I.freeC, fun p hp => ?_, tracked ⟨oc, hoc, I.freeC x c hc⟩ hs, by simpa using I.len⟩ ⟨c, hs, .inr hc⟩
  ·exact (hs.2 b (Nat.ne_of_lt (Nat.lt_of_lt_of_le (Heap.lt_size e) (I.ok.cab x c hfn hc)))).trans (I.base.keep b o e n hb hx)
  ·obtain ⟨sl, e1⟩ := I.base.slot b o e n hb hx
   exact ⟨sl, (hs.2 b (Nat.ne_of_lt (Nat.lt_of_lt_of_le (Heap.lt_size e) (I.ok.cab x c hfn hc)))).trans e1⟩
  ·obtain ⟨o', e1⟩ := I.base.there b o e hx
   exact ⟨o', (hs.2 b (Nat.ne_of_lt (Nat.lt_of_lt_of_le (Heap.lt_size e) (I.ok.cab x c hfn hc)))).trans e1⟩
  ·by_cases hj : j = i
   ·subst hj
    rw [hi] at e1; cases e1
    rw [List.getElem?_set_self hiσ] at e2
    cases e2
    exact ⟨u, r, .inr ⟨.inl hk, c, hc, hc'⟩⟩
   ·rw [List.getElem?_set_ne (Ne.symm hj)] at e2
    obtain ⟨u', r', q⟩ := hl j y v' e1 e2 e3
    refine ⟨u', r', ?_⟩
    rcases q with q | ⟨k, c', e, z'⟩
    ·exact .inl q
    ·refine .inr ⟨k, c', e, z'.sameBut hs ?_⟩
     rintro rfl
     exact hj (qee hN e1 (I.ok.inj _ _ _ e hc ▸ hi))
  ·by_cases hcc : c' = c
   ·subst hcc; exact ⟨_, hc'⟩
   ·obtain ⟨w2, z2⟩ := I.cell y c' e
    exact ⟨w2, z2.sameBut hs hcc⟩
  ·obtain ⟨e, n, ne, nf, d⟩ := I.pin p hp
   refine ⟨(hs.2 p.1 ?_).trans e, n, ne, nf, d⟩
   intro q
   rw [q, hoc] at e
   have q' : oc = p.2 := Option.some.inj e
   exact d w' (by rw [<- q']; exact hocd)
theorem qfQ {M : Model} {A : Around} {E : Value -> Shared -> Prop} {i : Nat} {x : Str} {v : V} {u : Value} {Q : Unit -> Shared -> Prop} (I : Inv X pins σ H s) (hN : X.N.Nodup) (hi : X.N[i]? = some x) (hx : Loc X.env.scope x) (r : RelV v u)
  (h : ∀ s', Inv X pins (σ.set i (some v)) H s' -> Q () s') (hf : X.fn x = true \/ X.env.scope.names.lookup x = some .local := by first | exact .inl rfl | exact .inr rfl | assumption) : wpAny M A (storeName X.env x u) Q E s :=
 qhA I hN hi hx r (fun s' I' _ => h s' I') hf
theorem Inv.call' {s' : Shared} {ch : List Addr} (I : Inv X pins σ H s) (ho : s'.os = s.os) (u : Un (frs X.stack) ch H H' s.heap s'.heap) (hok : HOk X.prog X.w H' s'.heap) (hg : AllBare s'.gens)
  (hch : ∀ b ∈ ch, (b ∈ X.ex \/ X.s₀.heap.objs.size <= b) /\ b ≠ X.env.locals /\ (∀ x c, X.env.cells.lookup x = some c -> c ≠ b) /\ ∀ p ∈ X.pn ++ pins, p.1 ≠ b) : Inv X pins σ H' s' := by
 obtain ⟨h', g', d', t', o'⟩ := s'
 have e : o' = s.os := ho
 subst e
 exact I.call (g' := g') (t' := t') (d' := d') u hok hg hch
end
abbrev XK := Value -> Option Addr -> Hp -> Prop
abbrev St := List (Option V)
abbrev VK := V -> Hp -> Prop
abbrev TE := St -> Hp -> VK -> Prop
abbrev TT := St -> Hp -> (Bool -> Hp -> Prop) -> Prop
abbrev TA := St -> Hp -> (List V -> Hp -> Prop) -> Prop
structure Ends where
 nx : St -> Hp -> Prop
 rt : VK
 bk : St -> Hp -> Prop := fun _ _ => False
 ct : St -> Hp -> Prop := fun _ _ => False
abbrev TS := Ends -> St -> Hp -> Prop
def EP (X : Cx) (pins : List (Addr × Obj)) (σ : St) (Q : VK) (u : Value) (s' : Shared) : Prop := ∃ v H', Inv X pins σ H' s' /\ RelV v u /\ Q v H'
def TP (X : Cx) (pins : List (Addr × Obj)) (σ : St) (Q : Bool -> Hp -> Prop) (b : Bool) (s' : Shared) : Prop := ∃ H', Inv X pins σ H' s' /\ Q b H'
def AP (X : Cx) (pins : List (Addr × Obj)) (σ : St) (Q : List V -> Hp -> Prop) (us : List Value) (s' : Shared) : Prop := ∃ vs H', Inv X pins σ H' s' /\ Vals vs us /\ Q vs H'
def SP (X : Cx) (pins : List (Addr × Obj)) (D : Ends) (f : Flow) (s' : Shared) : Prop :=
 match f with
 | .next => ∃ σ' H', Inv X pins σ' H' s' /\ D.nx σ' H'
 | .brk => ∃ σ' H', Inv X pins σ' H' s' /\ D.bk σ' H'
 | .cont => ∃ σ' H', Inv X pins σ' H' s' /\ D.ct σ' H'
 | .ret u => ∃ v σ' H', Inv X pins σ' H' s' /\ RelV v u /\ D.rt v H'
def PE (X : Cx) (e : Expr) (t : TE) : Prop :=
 ∀ (pins : List (Addr × Obj)) (s : Shared) (σ : St) (H : Hp) (Q : VK), Inv X pins σ H s -> t σ H Q -> wpAny (model X.prog X.w) X.A (eval e X.env) (EP X pins σ Q) X.xe s
def PT (X : Cx) (e : Expr) (t : TT) : Prop :=
 ∀ (pins : List (Addr × Obj)) (s : Shared) (σ : St) (H : Hp) (Q : Bool -> Hp -> Prop), Inv X pins σ H s -> t σ H Q -> wpAny (model X.prog X.w) X.A (isTrue e X.env (eval e X.env)) (TP X pins σ Q) X.xe s
def PW (X : Cx) (e : Expr) (t : TT) : Prop :=
 ∀ (whole : Sem Value) (pins : List (Addr × Obj)) (s : Shared) (σ : St) (H : Hp) (Q : Bool -> Hp -> Prop), Inv X pins σ H s -> t σ H Q -> wpAny (model X.prog X.w) X.A (isTrue e X.env whole) (TP X pins σ Q) X.xe s
theorem PW.pt {X : Cx} {e : Expr} {t : TT} (h : PW X e t) : PT X e t := h _
def PA (X : Cx) (es : List Expr) (t : TA) : Prop :=
 ∀ (pos : Pos) (pins : List (Addr × Obj)) (s : Shared) (σ : St) (H : Hp) (Q : List V -> Hp -> Prop), Inv X pins σ H s -> t σ H Q -> wpAny (model X.prog X.w) X.A (spliced (backTo pos (starEach es X.env))) (AP X pins σ Q) X.xe s
def PS (X : Cx) (st : Stmt) (t : TS) : Prop :=
 ∀ (pins : List (Addr × Obj)) (s : Shared) (σ : St) (H : Hp) (D : Ends), Inv X pins σ H s -> t D σ H -> wpAny (model X.prog X.w) X.A (exec st X.env) (SP X pins D) X.xe s
def PSs (X : Cx) (st : List Stmt) (t : TS) : Prop :=
 ∀ (pins : List (Addr × Obj)) (s : Shared) (σ : St) (H : Hp) (D : Ends), Inv X pins σ H s -> t D σ H -> wpAny (model X.prog X.w) X.A (execs st X.env) (SP X pins D) X.xe s
theorem thn {α : Type} {t : Sem α} {Q Q' : α -> Shared -> Prop} {M : Model} {A : Around} {E : Value -> Shared -> Prop} {s : Shared} (h : wpAny M A t Q E s) (hQ : ∀ a s, Q a s -> Q' a s) : wpAny M A t Q' E s := wpAny_mono h hQ fun _ _ x => x
end L2
namespace L2
open PySem PySem.Spec PyProof.Rows
section
variable {X : Cx}
theorem bin {a b : Expr} {ta tb : TE} (ha : PE X a ta) (hb : PE X b tb) {pins : List (Addr × Obj)} {s : Shared} {σ : St} {H : Hp} {R : V -> V -> Hp -> Prop} (I : Inv X pins σ H s) (h : ta σ H fun x H1 => tb σ H1 fun y H2 => R x y H2)
  {α : Type} {Q : α -> Shared -> Prop} {f : Value -> Value -> Sem α}
  (hf : ∀ v u s2 x y H2, Inv X pins σ H2 s2 -> RelV x v -> RelV y u -> R x y H2 -> wpAny (model X.prog X.w) X.A (f v u) Q X.xe s2) :
  wpAny (model X.prog X.w) X.A (eval a X.env) (fun v s₁ => wpAny (model X.prog X.w) X.A (eval b X.env) (fun u s₂ => wpAny (model X.prog X.w) X.A (f v u) Q X.xe s₂) X.xe s₁) X.xe s := by
 refine thn (ha pins s σ H _ I h) fun v s1 ⟨x, H1, I1, r1, q1⟩ => ?_
 refine thn (hb pins s1 σ H1 _ I1 q1) fun u s2 ⟨y, H2, I2, r2, q2⟩ => ?_
 exact hf v u s2 x y H2 I2 r1 r2 q2
def tVar (i : Nat) : TE := fun σ H Q => ∃ v, σ[i]? = some (some v) /\ Q v H
def tC (v : V) : TE := fun _ H Q => Q v H
theorem pe_var {i : Nat} {x : Str} {pos : Pos} (hN : X.N[i]? = some x) (hv : Vis X.env.scope x) (hd : (x == ("__debug__" : Str)) = false := by decide) (hcd : (x == ("__classdict__" : Str)) = false := by decide) : PE X (.Name x pos) (tVar i) := by
 intro pins s σ H Q I h
 obtain ⟨v, e, h⟩ := h
 obtain ⟨m, hn, hl⟩ := I.loc
 obtain ⟨u, r, l⟩ := hl i x v hN e hv
 have fin : EP X pins σ Q u s := ⟨v, H, I, r, h⟩
 rcases l with ⟨hk, hm⟩ | ⟨hk, c, hc, hcell⟩
 ·exact wpAny_Name (wpAny_loadName_local I.ok.kind hk hn hm fin) hd
 ·rcases hk with hk | hk
  ·exact wpAny_Name (wpAny_loadName_cell I.ok.kind hk hc hcell fin) hd
  ·exact wpAny_Name (wpAny_loadName_free I.ok.kind hk hc hcell fin hcd) hd
theorem qan {i j pos} : PE X (.Constant (.int i) j pos) (tC (.int i)) := fun _ _ _ H _ I h => wpAny_Constant_int ⟨.int i, H, I.tok _, ⟨_, rfl⟩, h⟩
theorem qcY {b j pos} : PE X (.Constant (.bool b) j pos) (tC (.bl b)) := fun _ _ _ H _ I h => Constant_bool ⟨.bl b, H, I, rfl, h⟩
theorem qbt {j pos} : PE X (.Constant .none j pos) (tC .non) := fun _ _ _ H _ I h => Constant_none ⟨.non, H, I, rfl, h⟩
def Gl (X : Cx) (x : Str) : Prop := X.env.kindOf x = some .globalImplicit
theorem qdR {E : Value -> Shared -> Prop} {pins : List (Addr × Obj)} {s : Shared} {σ : St} {H : Hp} {x : Str} {u : Value} {pos : Pos} {Q : Value -> Shared -> Prop} (I : Inv X pins σ H s) (hg : Gl X x) (hm : X.mg x = some u) (h : Q u s)
  (hd : (x == ("__debug__" : Str)) = false := by decide) : wpAny (model X.prog X.w) X.A (eval (.Name x pos) X.env) Q E s :=
 Calls.Name_function_global I.ok.kind hg (Calls.loadGlobal_global (by rw [I.ok.glob]; exact I.mod.glob.keeps I.bk) hm h) hd
theorem qfJ {E : Value -> Shared -> Prop} {pins : List (Addr × Obj)} {s : Shared} {σ : St} {H : Hp} {x : Str} {u : Value} {pos : Pos} {Q : Value -> Shared -> Prop} (I : Inv X pins σ H s) (hg : Gl X x) (hm : X.mg x = none) (hv : bootBuiltins x = some u) (h : Q u s)
  (hn : x ≠ "__name__" := by decide) (hd : (x == ("__debug__" : Str)) = false := by decide) : wpAny (model X.prog X.w) X.A (eval (.Name x pos) X.env) Q E s := by
 obtain ⟨mb, h1, h2⟩ := I.mod.blt
 exact Calls.Name_function_global I.ok.kind hg (Calls.loadGlobal_builtin (by rw [I.ok.glob]; exact I.mod.glob.keeps I.bk) hm (by rw [I.ok.blt]; exact h1.keeps I.bk) ((h2 x hn).trans hv) h) hd
theorem qha {x : Str} {v : V} {u : Value} {pos : Pos} (hg : Gl X x) (hm : X.mg x = some u) (r : RelV v u) (hd : (x == ("__debug__" : Str)) = false := by decide) : PE X (.Name x pos) (tC v) :=
 fun _ _ _ H _ I h => qdR I hg hm ⟨v, H, I, r, h⟩ hd
variable {a b : Expr} {ta tb : TE} {pos : Pos}
def PC (X : Cx) (op : CmpOp) (a b : Expr) (t : TE) : Prop :=
 ∀ (pins : List (Addr × Obj)) (s : Shared) (σ : St) (H : Hp) (Q : VK), Inv X pins σ H s -> t σ H Q ->
  wpAny (model X.prog X.w) X.A (eval a X.env) (fun v s₁ => wpAny (model X.prog X.w) X.A (eval b X.env) (fun u s₂ => wpAny (model X.prog X.w) X.A (compareOp op v u) (EP X pins σ Q) X.xe s₂) X.xe s₁) X.xe s
theorem nobehind (b : Expr) {op : CmpOp} (h : op ≠ .In) (h2 : op ≠ .NotIn) : behindInMarks op b = false := by
 have e1 : (op == CmpOp.In) = false := by cases op <;> first | rfl | exact absurd rfl h
 have e2 : (op == CmpOp.NotIn) = false := by cases op <;> first | rfl | exact absurd rfl h2
 cases b <;> simp [behindInMarks, e1, e2]
def tIsN (ta : TE) : TE := fun σ H Q => ta σ H fun x H1 => Q (.bl (decide (x = .non))) H1
def tNotN (ta : TE) : TE := fun σ H Q => ta σ H fun x H1 => Q (.bl (!decide (x = .non))) H1
theorem RelV.none_iff {x : V} {v : Value} (r : RelV x v) : (v == Value.none) = decide (x = .non) := by
 cases x with
 | non => cases r; rfl
 | bl _ => cases r; rfl
 | int _ => obtain ⟨t, rfl⟩ := r; rfl
 | str _ => obtain ⟨t, rfl⟩ := r; rfl
 | byt _ => obtain ⟨t, rfl⟩ := r; rfl
 | flt _ => obtain ⟨t, rfl⟩ := r; rfl
 | ref _ => cases r; rfl
 | ty _ => cases r; rfl
theorem qcf {j pos'} (ha : PE X a ta) : PC X .Is a (.Constant .none j pos') (tIsN ta) := by
 intro pins s σ H Q I h
 refine thn (ha pins s σ H _ I h) fun v s1 ⟨x, H1, I1, r1, q1⟩ => ?_
 exact Constant_none (is_none_gen ⟨.bl _, H1, I1, by rw [r1.none_iff]; rfl, q1⟩)
theorem qd0 {j pos'} (ha : PE X a ta) : PC X .IsNot a (.Constant .none j pos') (tNotN ta) := by
 intro pins s σ H Q I h
 refine thn (ha pins s σ H _ I h) fun v s1 ⟨x, H1, I1, r1, q1⟩ => ?_
 exact Constant_none (isnot_none_gen ⟨.bl _, H1, I1, by rw [r1.none_iff]; rfl, q1⟩)
def tB (t : TE) : TT := fun σ H Q => t σ H fun x H1 => ∃ c, x = .bl c /\ Q c H1
theorem qbf {op : CmpOp} {t : TE} (h : PC X op a b t) (h1 : behindInMarks op b = false := by first | exact nobehind _ (by decide) (by decide) | rfl) : PT X (.Compare a [op] [b] pos) (tB t) := by
 intro pins s σ H Q I hw
 refine wpAny_isTrue_Compare1 (thn (h pins s σ H _ I hw) fun v s1 h1 => thn h1 fun u s2 h2 => thn h2 fun c s3 ⟨x, H1, I1, r1, q1⟩ => ?_) h1
 obtain ⟨d, rfl, q⟩ := q1
 cases r1
 exact wpAny_truthy_bool ⟨H1, I1, q⟩
theorem qbC {e : Expr} {t : TE} (h : PE X e t) (he : ∀ whole, isTrue e X.env whole = (do let v <- whole; standAt e.pos; holding [v] (truthy v)) := by intro _; rfl) : PT X e (tB t) := by
 intro pins s σ H Q I hw
 refine isTrue_plain (thn (h pins s σ H _ I hw) fun v s1 ⟨x, H1, I1, r1, q1⟩ => ?_) (he _)
 obtain ⟨d, rfl, q⟩ := q1
 cases r1
 exact wpAny_truthy_bool ⟨H1, I1, q⟩
variable {tA tB' : TT} {rest : List Expr}
def tAnd (t u : TT) : TT := fun σ H Q => t σ H fun c H1 => if c = true then u σ H1 Q else Q false H1
def tOr (t u : TT) : TT := fun σ H Q => t σ H fun c H1 => if c = true then Q true H1 else u σ H1 Q
def tNot (t : TT) : TT := fun σ H Q => t σ H fun c H1 => Q (!c) H1
theorem qfA (ha : PT X a tA) : PW X (.BoolOp .And [a] pos) tA := by
 intro wh pins s σ H Q I h
 refine isTrue_and (thn (ha pins s σ H Q I h) fun c s1 e => ?_)
 cases c with
 | true => exact isTrue_and_nil e
 | false => exact e
theorem qbI (ha : PT X a tA) : PW X (.BoolOp .Or [a] pos) tA := by
 intro wh pins s σ H Q I h
 refine isTrue_or (thn (ha pins s σ H Q I h) fun c s1 e => ?_)
 cases c with
 | false => exact isTrue_or_nil e
 | true => exact e
theorem qhs (ha : PT X a tA) (hb : PW X (.BoolOp .And (b :: rest) pos) tB') : PW X (.BoolOp .And (a :: b :: rest) pos) (tAnd tA tB') := by
 intro wh pins s σ H Q I h
 refine isTrue_and (thn (ha pins s σ H _ I h) fun c s1 ⟨H1, I1, q1⟩ => ?_)
 cases c with
 | true => exact hb wh pins s1 σ H1 Q I1 q1
 | false => exact ⟨H1, I1, q1⟩
theorem qck (ha : PT X a tA) (hb : PW X (.BoolOp .Or (b :: rest) pos) tB') : PW X (.BoolOp .Or (a :: b :: rest) pos) (tOr tA tB') := by
 intro wh pins s σ H Q I h
 refine isTrue_or (thn (ha pins s σ H _ I h) fun c s1 ⟨H1, I1, q1⟩ => ?_)
 cases c with
 | true => exact ⟨H1, I1, q1⟩
 | false => exact hb wh pins s1 σ H1 Q I1 q1
theorem qeC (ha : PT X a tA) : PT X (.UnaryOp .Not a pos) (tNot tA) := by
 intro pins s σ H Q I h
 exact isTrue_not (ha pins s σ H (fun c H1 => Q (!c) H1) I h)
def tAndV (ta tb : TE) : TE := fun σ H Q => ta σ H fun x H1 => ∃ c, x = .bl c /\ if c = true then tb σ H1 Q else Q (.bl false) H1
theorem qjl {op} {t : TE} (h : PE X a t) : PE X (.BoolOp op [a] pos) t := fun pins s σ H Q I hw => BoolOp_one (h pins s σ H Q I hw)
theorem qjZ (ha : PE X a ta) (hb : PE X (.BoolOp .And (b :: rest) pos) tb) : PE X (.BoolOp .And (a :: b :: rest) pos) (tAndV ta tb) := by
 intro pins s σ H Q I h
 refine BoolOp_and (thn (ha pins s σ H _ I h) fun v s1 ⟨x, H1, I1, r1, q1⟩ => ?_)
 obtain ⟨c, rfl, q1⟩ := q1
 cases r1
 refine wpAny_truthy_bool ?_
 cases c with
 | true => exact hb pins s1 σ H1 Q I1 q1
 | false => exact ⟨.bl false, H1, I1, rfl, q1⟩
def tIf (t : TT) (ta tb : TE) : TE := fun σ H Q => t σ H fun c H1 => if c = true then ta σ H1 Q else tb σ H1 Q
theorem qii {c : Expr} (hc : PT X c tA) (ha : PE X a ta) (hb : PE X b tb) : PE X (.IfExp c a b pos) (tIf tA ta tb) := by
 intro pins s σ H Q I h
 refine wpAny_IfExp (thn (hc pins s σ H _ I h) fun d s1 ⟨H1, I1, q1⟩ => ?_)
 cases d with
 | true => exact ha pins s1 σ H1 Q I1 q1
 | false => exact hb pins s1 σ H1 Q I1 q1
end
end L2
namespace L2
open PySem PySem.Spec PyProof.Rows
def SqL (K : PySem.W.Frag) (H : Hp) (a : Addr) (xs : List V) : Prop :=
 Rd H a (.lst xs) \/
  ∃ (o : Obj) (its : Array Value) (n : Nat), K.lookup a = some o /\ o.cls = .type "list" /\ o.dict = none /\ o.data = .seq its n /\ its.size <= sizeLine /\ Vals xs its.toList
def SqT (K : PySem.W.Frag) (H : Hp) (a : Addr) (xs : List V) : Prop :=
 Rd H a (.tup xs) \/
  ∃ (o : Obj) (its : Array Value) (n : Nat), K.lookup a = some o /\ o.cls = .type "tuple" /\ o.data = .seq its n /\ its.size <= sizeLine /\ Vals xs its.toList
def absV : Value -> Option V
 | .none => some .non
 | .bool b => some (.bl b)
 | .int i _ => some (.int i)
 | .str x _ => some (.str x)
 | .bytes b _ => some (.byt b)
 | .float b _ => some (.flt b)
 | .ref a => some (.ref a)
 | .type n => some (.ty n)
 | _ => none
theorem RelV.abs {x : V} {u : Value} (r : RelV x u) : absV u = some x := by
 cases x with
 | non => cases r; rfl
 | bl _ => cases r; rfl
 | int _ => obtain ⟨t, rfl⟩ := r; rfl
 | str _ => obtain ⟨t, rfl⟩ := r; rfl
 | byt _ => obtain ⟨t, rfl⟩ := r; rfl
 | flt _ => obtain ⟨t, rfl⟩ := r; rfl
 | ref _ => cases r; rfl
 | ty _ => cases r; rfl
theorem RelV.inj {x y : V} {u : Value} (r : RelV x u) (q : RelV y u) : x = y := Option.some.inj (r.abs.symm.trans q.abs)
theorem Vals.inj : ∀ {xs ys : List V} {us : List Value}, Vals xs us -> Vals ys us -> xs = ys
 | _, _, _, .nil, .nil => rfl
 | _, _, _, .cons r t, .cons r' t' => by rw [r.inj r', Vals.inj t t']
section
variable {X : Cx} {pins : List (Addr × Obj)} {σ : St} {H : Hp} {s : Shared} {a : Addr} {xs ys : List V}
theorem SqL.of {K : PySem.W.Frag} (h : H a = some (.lst xs)) : SqL K H a xs := .inl (.inl h)
theorem SqT.of {K : PySem.W.Frag} (h : H a = some (.tup xs)) : SqT K H a xs := .inl (.inl h)
theorem Inv.list (I : Inv X pins σ H s) (h : SqL X.K H a xs) : ∃ its : List Value, Vals xs its /\ PlainL s.heap a its.toArray /\ xs.length <= sizeLine := by
 rcases h with h | ⟨o, its, n, hk, hc, hd, hs, hz, r⟩
 ·obtain ⟨z, its, n, r, e⟩ := h.ok I.hok
  exact ⟨its, r, ⟨_, n, e, rfl, rfl, rfl⟩, z⟩
 ·refine ⟨its.toList, r, ⟨o, n, I.kIn a o hk, hc, hd, by simpa using hs⟩, ?_⟩
  have e := r.length
  simp only [Array.length_toList] at e
  omega
theorem Inv.tuple (I : Inv X pins σ H s) (h : SqT X.K H a xs) : ∃ its : List Value, Vals xs its /\ IsTup s.heap a its.toArray /\ xs.length <= sizeLine := by
 rcases h with h | ⟨o, its, n, hk, hc, hs, hz, r⟩
 ·obtain ⟨z, its, r, p⟩ := h.ok I.hok
  exact ⟨its, r, p, z⟩
 ·refine ⟨its.toList, r, ⟨o, I.kIn a o hk, hc, n, by simpa using hs⟩, ?_⟩
  have e := r.length
  simp only [Array.length_toList] at e
  omega
theorem Inv.list_inj (I : Inv X pins σ H s) (h : SqL X.K H a xs) (h' : SqL X.K H a ys) : xs = ys := by
 obtain ⟨its, r, ⟨o, n, e, _, _, d⟩, _⟩ := I.list h
 obtain ⟨its', r', ⟨o', n', e', _, _, d'⟩, _⟩ := I.list h'
 rw [e] at e'; cases e'
 rw [d] at d'
 injection d' with d1 _
 have : its = its' := by simpa using congrArg Array.toList d1
 subst this
 exact r.inj r'
end
abbrev Cx.wish (X : Cx) (E : Value -> Shared -> Prop) : Cx := { X with xe := E }
abbrev Cx.nox (X : Cx) : Cx := X.wish fun _ _ => False
theorem Cx.Ok.wish {X : Cx} (ok : X.Ok) (E : Value -> Shared -> Prop) : (X.wish E).Ok :=
 ⟨ok.mod, ok.kind, ok.glob, ok.blt, ok.above, ok.inj, ok.has, ok.cab, ok.hd, ok.frames, ok.stk, ok.exf, ok.bs, ok.bsz, ok.noex, ok.exfs, ok.funs, ok.frf⟩
theorem Cx.Ok.unwish {X : Cx} {E : Value -> Shared -> Prop} (ok : (X.wish E).Ok) : X.Ok :=
 ⟨ok.mod, ok.kind, ok.glob, ok.blt, ok.above, ok.inj, ok.has, ok.cab, ok.hd, ok.frames, ok.stk, ok.exf, ok.bs, ok.bsz, ok.noex, ok.exfs, ok.funs, ok.frf⟩
section
variable {X : Cx} {pins : List (Addr × Obj)} {σ : St} {H : Hp} {s : Shared} {E : Value -> Shared -> Prop}
theorem Inv.wish (I : Inv X pins σ H s) (E : Value -> Shared -> Prop) : Inv (X.wish E) pins σ H s := ⟨I.ok.wish E, I.os, I.bare, I.base, I.loc, I.cell, I.free, I.freeC, I.pin, I.hok, I.len⟩
theorem Inv.unwish (I : Inv (X.wish E) pins σ H s) : Inv X pins σ H s := ⟨I.ok.unwish, I.os, I.bare, I.base, I.loc, I.cell, I.free, I.freeC, I.pin, I.hok, I.len⟩
theorem SP.unwish {D : Ends} {f : Flow} {s' : Shared} (h : SP (X.wish E) pins D f s') : SP X pins D f s' := by
 cases f with
 | next => obtain ⟨σ', H', I, q⟩ := h; exact ⟨σ', H', I.unwish, q⟩
 | brk => obtain ⟨σ', H', I, q⟩ := h; exact ⟨σ', H', I.unwish, q⟩
 | cont => obtain ⟨σ', H', I, q⟩ := h; exact ⟨σ', H', I.unwish, q⟩
 | ret u => obtain ⟨v, σ', H', I, r, q⟩ := h; exact ⟨v, σ', H', I.unwish, r, q⟩
theorem PSs.nox {st : List Stmt} {t : TS} (h : PSs X.nox st t) : PSs X st t := fun pins s σ H D I hw =>
 wpAny_mono (h pins s σ H D (I.wish _) hw) (fun _ _ q => q.unwish) fun _ _ z => False.elim z
end
section
variable {X : Cx} {st : Stmt} {rest : List Stmt} {t u : TS} {e : Expr} {te : TE} {pos : Pos}
def tNext : TS := fun D σ H => D.nx σ H
def tSeq (t u : TS) : TS := fun D σ H => t { D with nx := u D } σ H
theorem qao : PSs X [] tNext := fun _ _ σ H _ I h => wpAny_execs_nil ⟨σ, H, I, h⟩
theorem qab (h1 : PS X st t) (h2 : PSs X rest u) : PSs X (st :: rest) (tSeq t u) := by
 intro pins s σ H D I h
 refine wpAny_execs_cons (thn (h1 pins s σ H { D with nx := u D } I h) fun f s1 q => ?_)
 cases f with
 | next =>
  obtain ⟨σ', H', I', q⟩ := q
  exact h2 pins s1 σ' H' D I' q
 | ret v => exact q
 | brk => exact q
 | cont => exact q
theorem qac (h1 : PS X st t) : PSs X [st] t := by
 intro pins s σ H D I h
 refine wpAny_execs_cons (thn (h1 pins s σ H D I h) fun f s1 q => ?_)
 cases f with
 | next => exact wpAny_execs_nil q
 | ret v => exact q
 | brk => exact q
 | cont => exact q
theorem Inv.quiet {pins : List (Addr × Obj)} {σ : St} {H : Hp} {s : Shared} (I : Inv X pins σ H s) : interactive X.env = false := by simp [interactive, I.ok.kind]
def tDrop (te : TE) : TS := fun D σ H => te σ H fun _ H1 => D.nx σ H1
theorem qap (he : PE X e te) (hs : swapsWith e none pos.line X.env = pure false := by rfl) : PS X (.Expr e pos) (tDrop te) := by
 intro pins s σ H D I h
 exact wpAny_Expr_any (thn (he pins s σ H _ I h) fun v s1 ⟨x, H1, I1, r1, q1⟩ => ⟨σ, H1, I1, q1⟩) I.quiet hs
def tRet (te : TE) : TS := fun D σ H => te σ H D.rt
theorem qag (he : PE X e te) : PS X (.Return (some e) pos) (tRet te) := by
 intro pins s σ H D I h
 exact wpAny_Return_some (thn (he pins s σ H _ I h) fun v s1 ⟨x, H1, I1, r1, q1⟩ => ⟨x, σ, H1, I1, r1, q1⟩)
def tRetN : TS := fun D _ H => D.rt .non H
theorem qcD : PS X (.Return none pos) tRetN := fun _ _ σ H _ I h => wpAny_Return_none ⟨.non, σ, H, I, rfl, h⟩
def tIfS (c : TT) (t u : TS) : TS := fun D σ H => c σ H fun b H1 => if b = true then t D σ H1 else u D σ H1
theorem qaC {c : Expr} {a b : List Stmt} {tc : TT} (hc : PT X c tc) (ha : PSs X a t) (hb : PSs X b u) : PS X (.If c a b pos) (tIfS tc t u) := by
 intro pins s σ H D I h
 refine wpAny_If (thn (hc pins s σ H _ I h) fun d s1 ⟨H1, I1, q1⟩ => ?_)
 cases d with
 | true => exact ha pins s1 σ H1 D I1 q1
 | false => exact hb pins s1 σ H1 D I1 q1
end
abbrev TG := V -> St -> Hp -> (St -> Hp -> Prop) -> Prop
def PG (X : Cx) (target : Expr) (t : TG) : Prop :=
 ∀ (pins : List (Addr × Obj)) (s : Shared) (σ : St) (H : Hp) (v : V) (u : Value) (Q : St -> Hp -> Prop), Inv X pins σ H s -> RelV v u -> t v σ H Q ->
  wpAny (model X.prog X.w) X.A (assign target X.env u) (fun _ s' => ∃ σ' H', Inv X pins σ' H' s' /\ Q σ' H') X.xe s
section
variable {X : Cx} {pos : Pos}
def gName (i : Nat) : TG := fun v σ H Q => Q (σ.set i (some v)) H
theorem qaN {i : Nat} {x : Str} (hN : X.N.Nodup) (hi : X.N[i]? = some x) (hx : Loc X.env.scope x) (hf : X.fn x = true \/ X.env.scope.names.lookup x = some .local := by first | exact .inl rfl | exact .inr rfl | assumption) : PG X (.Name x pos) (gName i) := by
 intro pins s σ H v u Q I r h
 exact wpAny_assign_Name (qfQ I hN hi hx r (fun s' I' => ⟨_, H, I', h⟩) hf)
def tAsg (te : TE) (g : TG) : TS := fun D σ H => te σ H fun x H1 => g x σ H1 D.nx
theorem qax {i : Nat} {x : Str} {e : Expr} {te : TE} {pos' : Pos} (hN : X.N.Nodup) (hi : X.N[i]? = some x) (hx : Loc X.env.scope x) (he : PE X e te) (hs : swapsWith e (some (.Name x pos')) pos.line X.env = pure false := by rfl) (hf : X.fn x = true \/ X.env.scope.names.lookup x = some .local := by first | exact .inl rfl | exact .inr rfl | assumption) :
  PS X (.Assign [.Name x pos'] e pos) (tAsg te (gName i)) := by
 intro pins s σ H D I h
 refine wpAny_Assign_Name (thn (he pins s σ H _ I h) fun v s1 ⟨y, H1, I1, r1, q1⟩ => ?_) hs
 exact qfQ I1 hN hi hx r1 (fun s2 I2 => ⟨_, H1, I2, q1⟩) hf
end
section
variable {X : Cx} {pos : Pos}
def tWhile (c : TT) (tb : TS) : TS := fun D σ H => ∃ W : Nat -> St -> Hp -> Prop, (∃ m, W m σ H) /\ ∀ m σ H, W m σ H ->
 c σ H fun b H1 => if b = true then ∃ N : St -> Hp -> Prop, (∀ σ' H', N σ' H' -> ∃ m', m' < m /\ W m' σ' H') /\ tb { D with nx := N, ct := N, bk := D.nx } σ H1 else D.nx σ H1
theorem qd3 {c : Expr} {body : List Stmt} {tc : TT} {tb : TS} (hp : PassesOwn (model X.prog X.w) X.A X.env X.xe) (hc : PT X c tc) (hb : PSs X body tb) : PS X (.While c body [] pos) (tWhile tc tb) := by
 intro pins s σ H D I h
 obtain ⟨W, ⟨m0, w0⟩, turn⟩ := h
 refine wpAny_While (codeAny_whileLoop (fun n s' => ∃ σ' H', Inv X pins σ' H' s' /\ W n σ' H') ?_ m0 ⟨σ, H, I, w0⟩)
 rintro n s1 ⟨σ1, H1, I1, w1⟩
 refine wpAny_passesOwn hp (thn (hc pins s1 σ1 H1 _ I1 (turn n σ1 H1 w1)) fun b s2 ⟨H2, I2, q2⟩ => ?_)
 cases b with
 | true =>
  obtain ⟨N, hN, q2⟩ := q2
  rw [if_pos rfl]
  refine wpAny_passesOwn hp (thn (hb pins s2 σ1 H2 _ I2 q2) fun f s3 q3 => ?_)
  cases f with
  | next =>
   obtain ⟨σ3, H3, I3, n3⟩ := q3
   obtain ⟨m', hm, w3⟩ := hN σ3 H3 n3
   exact ⟨m', hm, σ3, H3, I3, w3⟩
  | cont =>
   obtain ⟨σ3, H3, I3, n3⟩ := q3
   obtain ⟨m', hm, w3⟩ := hN σ3 H3 n3
   exact ⟨m', hm, σ3, H3, I3, w3⟩
  | brk => exact q3
  | ret v => exact q3
 | false =>
  rw [if_neg Bool.false_ne_true]
  exact wpAny_execs_nil ⟨σ1, H2, I2, q2⟩
end
structure It where
 go : Nat -> Hp -> Prop
 yld : Nat -> Hp -> V -> Hp -> Prop
 stop : Nat -> Hp -> Prop
def FpOk (X : Cx) (pins : List (Addr × Obj)) (H : Hp) (b : Addr) : Prop :=
 H b = none /\ b ≠ X.env.locals /\ b ∉ X.fs /\ (b ∈ X.ex \/ X.s₀.heap.objs.size <= b) /\ (∀ x c, X.env.cells.lookup x = some c -> c ≠ b) /\ ∀ p ∈ X.pn ++ pins, p.1 ≠ b
theorem Inv.fpOk {X : Cx} {pins : List (Addr × Obj)} {σ : St} {H H' : Hp} {s : Shared} {b : Addr} (I : Inv X pins σ H s) (hb : s.heap.objs.size <= b) (hn : H' b = none) : FpOk X pins H' b := by
 refine ⟨hn, Nat.ne_of_gt (Nat.lt_of_lt_of_le I.lt hb), I.nofs hb, .inr (Nat.le_trans I.sz hb), fun x c e z => ?_, fun p hp z => ?_⟩
 ·obtain ⟨v, q⟩ := I.cell x c e
  exact absurd (Nat.lt_of_lt_of_le q.lt (by rw [z]; exact hb)) (Nat.lt_irrefl _)
 ·exact absurd (Nat.lt_of_lt_of_le (Heap.lt_size (I.pin p hp).1) (by rw [z]; exact hb)) (Nat.lt_irrefl _)
structure Turn (P : Program) (w : World) (K : PySem.W.Frag) (tg : Expr) (J : It) (fp : List Addr) (it : Addr) (tn : Nat -> Heap -> Prop) : Prop where
 mem : it ∈ fp
 obj : ∀ i h, tn i h -> ∀ b ∈ fp, ∃ o, h.get? b = some o /\ ∀ v, o.data ≠ .cell v
 keep : ∀ i h h', tn i h -> (∀ b ∈ fp, ∀ o, h.get? b = some o -> h'.get? b = some o) -> tn i h'
 item : ∀ (X : Cx), X.prog = P -> X.w = w -> X.K = K -> X.calm = true -> ∀ (i : Nat) (pins : List (Addr × Obj)) (s : Shared) (σ : St) (H : Hp) (E : Value -> Shared -> Prop), Inv X pins σ H s -> (∀ b ∈ fp, FpOk X pins H b) -> tn i s.heap -> J.go i H ->
  wpAny (model P w) X.A (pyNext (.ref it)) (fun r s1 => ∃ u, r = some u /\
   wpAny (model P w) X.A (letOwnedTupleGo tg (.ref it) u) (fun _ s2 => ∃ x H', Inv X pins σ H' s2 /\ RelV x u /\ J.yld i H x H' /\ tn (i + 1) s2.heap /\ ∀ b ∈ fp, H' b = none) E s1) E s
 done : ∀ (X : Cx), X.prog = P -> X.w = w -> X.K = K -> X.calm = true -> ∀ (i : Nat) (pins : List (Addr × Obj)) (s : Shared) (σ : St) (H : Hp) (E : Value -> Shared -> Prop), Inv X pins σ H s -> (∀ b ∈ fp, FpOk X pins H b) -> tn i s.heap -> J.stop i H ->
  wpAny (model P w) X.A (pyNext (.ref it)) (fun r s1 => r = none /\ Inv X pins σ H s1) E s
 self : ∀ (A : Around) (i : Nat) (s : Shared) (Q : Value -> Shared -> Prop) (E : Value -> Shared -> Prop), tn i s.heap -> Q (.ref it) s -> wpAny (model P w) A (pyIter (.ref it)) Q E s
abbrev TI := St -> Hp -> (It -> Hp -> Prop) -> Prop
def PIE (X : Cx) (pins : List (Addr × Obj)) (σ : St) (tg : Expr) (R : It -> Hp -> Prop) (itv : Value) (s2 : Shared) : Prop :=
 ∃ (it : Addr) (fp : List Addr) (tn : Nat -> Heap -> Prop) (J : It) (H' : Hp), itv = .ref it /\ Inv X pins σ H' s2 /\ Turn X.prog X.w X.K tg J fp it tn /\ tn 0 s2.heap /\ (∀ b ∈ fp, FpOk X pins H' b) /\ R J H'
def PI (X : Cx) (tg iter : Expr) (wi : TI) : Prop :=
 ∀ (pins : List (Addr × Obj)) (s : Shared) (σ : St) (H : Hp) (R : It -> Hp -> Prop), Inv X pins σ H s -> wi σ H R ->
  wpAny (model X.prog X.w) X.A (eval iter X.env) (fun v s1 => wpAny (model X.prog X.w) X.A (pyIter v) (PIE X pins σ tg R) X.xe s1) X.xe s
theorem go_of {M : Model} {A : Around} {E : Value -> Shared -> Prop} {s : Shared} {tg : Expr} {it : Addr} {u : Value} {o : Obj} {n : String} {vs : Array Value} {Q : Unit -> Shared -> Prop} (ho : s.heap.get? it = some o) (hc : o.cls = .type n) (hd : o.data = .fields vs)
  (hn : ["enumerate", "zip", "dict_itemiterator", "dict_reverseitemiterator", "odict_iterator", "itertools.zip_longest", "itertools.pairwise"].contains n = false) (hQ : Q () s) : wpAny M A (letOwnedTupleGo tg (.ref it) u) Q E s := by
 unfold letOwnedTupleGo
 cases tg <;> first
  | exact wpAny_pure hQ
  | (cases u <;> first
    | exact wpAny_pure hQ
    | (refine wpAny_bind (wpAny_load ho ?_)
       rw [hc, hd]
       show wpAny M A (if (["enumerate", "zip", "dict_itemiterator", "dict_reverseitemiterator", "odict_iterator", "itertools.zip_longest", "itertools.pairwise"].contains n && vs[0]? == some (rawInt _)) = true then _ else _) Q E s
       rw [if_neg (by intro h; rw [hn, Bool.false_and] at h; cases h)]
       exact wpAny_pure hQ))
def Itl (K : PySem.W.Frag) (a : Addr) : It :=
 ⟨fun i H => ∃ xs x, SqL K H a xs /\ xs[i]? = some x, fun i H x H' => H' = H /\ ∀ xs, SqL K H a xs -> xs[i]? = some x, fun i H => ∃ xs, SqL K H a xs /\ xs.length <= i⟩
def Itr (lo : Int) (n : Nat) : It := ⟨fun i _ => i < n, fun i H x H' => H' = H /\ x = .int (lo + i), fun i _ => n <= i⟩
theorem qg3 {P : Program} {w : World} {K : PySem.W.Frag} {tg : Expr} (a it : Addr) : Turn P w K tg (Itl K a) [it] it (fun i h => h.IsListIter it a i) where
 mem := by simp
 obj := fun i h st b hb => by
  have e : b = it := by simpa using hb
  subst e
  obtain ⟨o, e, c, d⟩ := st
  exact ⟨o, e, fun v z => by rw [d] at z; cases z⟩
 keep := fun i h h' st k => st.at fun o e => k it (by simp) o e
 item := by
  intro X hP hw hK hc i pins s σ H E I hf st hg
  subst hP hw hK
  obtain ⟨xs, x, hq, hx⟩ := hg
  obtain ⟨its, rv, p, hz⟩ := I.list hq
  obtain ⟨u, hu, ru⟩ := rv.get hx
  obtain ⟨f0, f1, f2, f3, f4, f5⟩ := hf it (by simp)
  refine wpAny_pyNext_list_item st p.isList (x := u) (by simpa using hu) fun h' st' sb => ?_
  have I1 : Inv X pins σ H { s with heap := h' } := I.turned (t' := s.toks) (fun b o hb e => (sb.2 b hb).trans e) f0 f1 f3 f4 f5
  obtain ⟨o, e, c, d⟩ := id st'
  exact ⟨u, rfl, go_of (s := { s with heap := h' }) e c d (by decide) ⟨x, H, I1, ru, ⟨rfl, fun ys hy => by rw [I.list_inj hy hq]; exact hx⟩, st', fun b hb => (hf b hb).1⟩⟩
 done := by
  intro X hP hw hK hc i pins s σ H E I hf st hg
  subst hP hw hK
  obtain ⟨xs, hq, hx⟩ := hg
  obtain ⟨its, rv, p, hz⟩ := I.list hq
  obtain ⟨f0, f1, f2, f3, f4, f5⟩ := hf it (by simp)
  have hl := rv.length
  exact wpAny_pyNext_list_end (I.ok.hd hc) st p.isList (by simp; omega) fun h' eb => ⟨rfl, I.turned (t' := s.toks) (fun b o hb e => eb b o hb e) f0 f1 f3 f4 f5⟩
 self := fun _ _ _ _ _ st h => wpAny_pyIter_listiter st h
theorem qgi {P : Program} {w : World} {K : PySem.W.Frag} {tg : Expr} (it : Addr) (lo : Int) (n : Nat) : Turn P w K tg (Itr lo n) [it] it (fun i h => IsRangeIter h it (lo + (i : Nat) * 1) ((n : Int) - (i : Nat)) 1) where
 mem := by simp
 obj := fun i h st b hb => by
  have e : b = it := by simpa using hb
  subst e
  exact ⟨_, st, fun v z => by
   have z' : Data.fields _ = Data.cell v := z
   cases z'⟩
 keep := fun i h h' st k => k it (by simp) _ st
 item := by
  intro X hP hw hK hc i pins s σ H E I hf st hg
  subst hP hw hK
  obtain ⟨f0, f1, f2, f3, f4, f5⟩ := hf it (by simp)
  have W := Walks.range (prog := X.prog) (w := X.w) (I.ok.hd hc) it lo 1 n
  refine W.item i s _ _ hg st fun v h' tk hv st' kk => ?_
  obtain ⟨t, rfl⟩ := hv
  have I1 : Inv X pins σ H { s with heap := h', toks := tk } := I.turned (fun b o hb e => kk b o (by simpa using hb) e) f0 f1 f3 f4 f5
  refine ⟨_, rfl, go_of (s := { s with heap := h', toks := tk }) (n := "range_iterator") st' rfl rfl (by decide) ⟨.int (lo + i), H, I1, ⟨t, ?_⟩, ⟨rfl, rfl⟩, st', fun b hb => (hf b hb).1⟩⟩
  rw [Int.mul_one]
 done := by
  intro X hP hw hK hc i pins s σ H E I hf st hg
  subst hP hw hK
  obtain ⟨f0, f1, f2, f3, f4, f5⟩ := hf it (by simp)
  exact wpAny_pyNext_range_end (I.ok.hd hc) st (by have : n <= i := hg; omega) fun h' eb => ⟨rfl, I.turned (t' := s.toks) (fun b o hb e => eb b o hb e) f0 f1 f3 f4 f5⟩
 self := fun _ _ _ _ _ st h => wpAny_pyIter_rangeiter st h
end L2
namespace L2
open PySem PySem.Spec PyProof.Rows
section
variable {X : Cx} {tg : Expr}
def iList (K : PySem.W.Frag) (tl : TE) : TI := fun σ H R => tl σ H fun x H1 => ∃ a, x = .ref a /\ (∃ xs, SqL K H1 a xs) /\ R (Itl K a) H1
theorem qaU {l : Expr} {tl : TE} (hl : PE X l tl) : PI X tg l (iList X.K tl) := by
 intro pins s σ H R I h
 refine thn (hl pins s σ H _ I h) fun v s1 ⟨x, H1, I1, r1, q1⟩ => ?_
 obtain ⟨a, e, ⟨xs, hq⟩, q⟩ := q1
 subst e
 cases r1
 obtain ⟨its, rv, p, hz⟩ := I1.list hq
 refine wpAny_pyIter_list p.isList ?_
 refine ⟨s1.heap.objs.size, [s1.heap.objs.size], _, _, H1, rfl, I1.kept (t' := s1.toks) fun b o e => Heap.get?_push_of_some _ e, qg3 a _, ⟨_, Heap.get?_push_size _ rfl, rfl, rfl⟩, fun b hb => ?_, q⟩
 have e : b = s1.heap.objs.size := by simpa using hb
 subst e
 exact I1.fpOk (Nat.le_refl _) (I1.hok.fresh (Nat.le_refl _))
theorem qiu {pins : List (Addr × Obj)} {σ : St} {H : Hp} {s : Shared} {R : It -> Hp -> Prop} {E : Value -> Shared -> Prop} {lo hi : Int} {t u v : Tok} {tk : Nat} (I : Inv X pins σ H s) (h1 : -(2 ^ 62) <= lo) (h2 : lo < 2 ^ 62) (h3 : -(2 ^ 62) <= hi) (h4 : hi < 2 ^ 62)
  (q : R (Itr lo (hi - lo).toNat) H) : wpAny (model X.prog X.w) X.A (pyIter (.ref s.heap.objs.size)) (PIE X pins σ tg R) E { s with heap := s.heap.push { cls := .type "range", data := .fields #[.int lo t, .int hi u, .int 1 v] }, toks := tk } := by
 refine wpAny_pyIter_range (IsRange.new ..) (small_one h1 h2 h3 h4) ?_
 have I1 : Inv X pins σ H { s with heap := s.heap.push { cls := .type "range", data := .fields #[.int lo t, .int hi u, .int 1 v] }, toks := tk } := I.kept fun b o e => Heap.get?_push_of_some _ e
 refine ⟨(s.heap.push { cls := .type "range", data := .fields #[.int lo t, .int hi u, .int 1 v] }).objs.size, [(s.heap.push { cls := .type "range", data := .fields #[.int lo t, .int hi u, .int 1 v] }).objs.size], _, _, H, rfl,
  I1.kept (t' := tk) fun b o e => Heap.get?_push_of_some _ e, qgi _ lo (hi - lo).toNat, ?_, fun b hb => ?_, q⟩
 ·have e1 : lo + ((0 : Nat) : Int) * 1 = lo := by simp
  have e2 : (((hi - lo).toNat : Nat) : Int) - ((0 : Nat) : Int) = Builtin.Range.rangeSize lo hi 1 := by rw [rangeSize_one]; split <;> omega
  show IsRangeIter _ _ (lo + ((0 : Nat) : Int) * 1) ((((hi - lo).toNat : Nat) : Int) - ((0 : Nat) : Int)) 1
  rw [e1, e2]
  exact Heap.get?_push_size _ rfl
 ·have e : b = (s.heap.push { cls := .type "range", data := .fields #[.int lo t, .int hi u, .int 1 v] }).objs.size := by simpa using hb
  subst e
  exact I1.fpOk (Nat.le_refl _) (I1.hok.fresh (Nat.le_refl _))
def iRng1 (ta : TA) : TI := fun σ H R => ta σ H fun vs H1 => ∃ j : Int, vs = [.int j] /\ -(2 ^ 62) <= j /\ j < 2 ^ 62 /\ R (Itr 0 j.toNat) H1
theorem qe2 {a : Expr} {ta : TA} {p pos : Pos} (hg : Gl X "range") (hm : X.mg "range" = none) (ha : PA X [a] ta) (hs : starEach [a] X.env = [(false, eval a X.env)] := by rfl) : PI X tg (.Call (.Name "range" p) [a] [] pos) (iRng1 ta) := by
 intro pins s σ H R I h
 refine Call_ (qfJ I hg hm boot_range (PyProof.Rows.callWith_type1 (thn (ha pos pins s σ H _ I h) fun us s1 ⟨vs, H1, I1, r1, q1⟩ => ?_) hs rfl))
 obtain ⟨j, e, q1, q2, q⟩ := q1
 subst e
 cases r1 with
 | cons r rr =>
  cases rr
  obtain ⟨t, rfl⟩ := r
  exact call_range_1 (qiu I1 (by omega) (by omega) q1 q2 (by simpa using q))
def tFor (wi : TI) (g : TG) (tb : TS) : TS := fun D σ H => wi σ H fun J H1 => ∃ W : Nat -> Nat -> St -> Hp -> Prop, (∃ m, W 0 m σ H1) /\ ∀ i m σ H, W i m σ H ->
 (J.stop i H /\ D.nx σ H) \/ (J.go i H /\ ∃ N : St -> Hp -> Prop, (∀ σ' H', N σ' H' -> ∃ m', m' < m /\ W (i + 1) m' σ' H') /\ ∀ x H', J.yld i H x H' -> g x σ H' fun σ2 H2 => tb { D with nx := N, ct := N, bk := D.nx } σ2 H2)
def pinsAt (fp : List Addr) (h : Heap) : List (Addr × Obj) := fp.filterMap fun b => (h.get? b).map fun o => (b, o)
theorem qcL {fp : List Addr} {h : Heap} {b : Addr} {o : Obj} (hb : b ∈ fp) (e : h.get? b = some o) : (b, o) ∈ pinsAt fp h := List.mem_filterMap.mpr ⟨b, hb, by rw [e]; rfl⟩
theorem qhF {fp : List Addr} {h : Heap} {p : Addr × Obj} (hp : p ∈ pinsAt fp h) : p.1 ∈ fp /\ h.get? p.1 = some p.2 := by
 obtain ⟨b, hb, e⟩ := List.mem_filterMap.mp hp
 cases q : h.get? b with
 | none => rw [q] at e; cases e
 | some o =>
  rw [q] at e
  have e' : (b, o) = p := Option.some.inj e
  subst e'
  exact ⟨hb, q⟩
theorem Inv.pinned {pins : List (Addr × Obj)} {σ : St} {H : Hp} {s : Shared} {fp : List Addr} (I : Inv X pins σ H s) (hf : ∀ b ∈ fp, FpOk X pins H b) (ho : ∀ b ∈ fp, ∃ o, s.heap.get? b = some o /\ ∀ v, o.data ≠ .cell v) : Inv X (pins ++ pinsAt fp s.heap) σ H s :=
 I.pins_of fun p hp => (List.mem_append.mp hp).elim (fun z => I.pin p (List.mem_append_right _ z)) fun z => by
  obtain ⟨hb, e⟩ := qhF z
  obtain ⟨f0, f1, f2, _⟩ := hf p.1 hb
  obtain ⟨o, e', d⟩ := ho p.1 hb
  rw [e] at e'; cases e'
  exact ⟨e, f0, f1, f2, d⟩
theorem Inv.unpinned {pins pl : List (Addr × Obj)} {σ : St} {H : Hp} {s : Shared} (I : Inv X (pins ++ pl) σ H s) : Inv X pins σ H s := I.pins_of fun p hp => I.pin p (List.mem_append_right _ (List.mem_append_left _ hp))
theorem qbW {iter : Expr} {body : List Stmt} {wi : TI} {g : TG} {tb : TS} {pos : Pos} (hp : PassesOwn (model X.prog X.w) X.A X.env X.xe) (hc : X.calm = true) (hi : PI X tg iter wi) (hg : PG X tg g) (hb : PSs X body tb)
  (hs : ∀ x, foldedSetIterable iter X.env x = pure x := by intro _; rfl) : PS X (.For tg iter body [] pos) (tFor wi g tb) := by
 intro pins s σ H D I h
 refine wpAny_For (thn (hi pins s σ H _ I h) fun v s1 h1 => thn h1 fun itv s2 h2 => ?_) hs
 obtain ⟨it, fp, tn, J, H2, e, I2, T, st2, f2, W, ⟨m0, w0⟩, turn⟩ := h2
 subst e
 have stat : ∀ {H' : Hp}, (∀ b ∈ fp, H' b = none) -> ∀ b ∈ fp, FpOk X pins H' b := fun hn b hb => ⟨hn b hb, (f2 b hb).2⟩
 refine codeAny_forLoop_any (fun n s' => ∃ i σ' H', Inv X pins σ' H' s' /\ tn i s'.heap /\ (∀ b ∈ fp, H' b = none) /\ W i n σ' H') ?_ m0 ⟨0, σ, H2, I2, st2, fun b hb => (f2 b hb).1, w0⟩
 rintro n s3 ⟨i, σ3, H3, I3, st3, fr3, w3⟩
 rcases turn i n σ3 H3 w3 with ⟨stop, qn⟩ | ⟨go, N, hN, step⟩
 ·refine wpAny_passesOwn hp (thn (T.done X rfl rfl rfl hc i pins s3 σ3 H3 X.xe I3 (stat fr3) st3 stop) fun r s4 ⟨hr, I4⟩ => ?_)
  subst hr
  exact wpAny_execs_nil ⟨σ3, H3, I4, qn⟩
 ·refine wpAny_passesOwn hp (thn (T.item X rfl rfl rfl hc i pins s3 σ3 H3 X.xe I3 (stat fr3) st3 go) fun r s4 ⟨u, hr, h4⟩ => ?_)
  subst hr
  refine wpAny_passesOwn hp (thn h4 fun _ s5 ⟨x, H5, I5, r5, y5, st5, fr5⟩ => ?_)
  have I5' := I5.pinned (stat fr5) (T.obj _ _ st5)
  refine wpAny_passesOwn hp (thn (hg _ s5 σ3 H5 x u _ I5' r5 (step x H5 y5)) fun _ s6 ⟨σ6, H6, I6, q6⟩ => ?_)
  refine wpAny_passesOwn hp (thn (hb _ s6 σ6 H6 _ I6 q6) fun f s7 q7 => ?_)
  have again : ∀ {σ7 : St} {H7 : Hp}, Inv X (pins ++ pinsAt fp s5.heap) σ7 H7 s7 -> N σ7 H7 -> ∃ m, m < n /\ ∃ i σ' H', Inv X pins σ' H' s7 /\ tn i s7.heap /\ (∀ b ∈ fp, H' b = none) /\ W i m σ' H' := fun {σ7 H7} I7 n7 => by
   obtain ⟨m', hm, w7⟩ := hN σ7 H7 n7
   refine ⟨m', hm, i + 1, σ7, H7, I7.unpinned, T.keep _ _ _ st5 fun b hb o e => (I7.pin (b, o) (List.mem_append_right _ (List.mem_append_right _ (qcL hb e)))).1, fun b hb => ?_, w7⟩
   obtain ⟨o, e, d⟩ := T.obj _ _ st5 b hb
   exact (I7.pin (b, o) (List.mem_append_right _ (List.mem_append_right _ (qcL hb e)))).2.1
  cases f with
  | next => obtain ⟨σ7, H7, I7, n7⟩ := q7; exact again I7 n7
  | cont => obtain ⟨σ7, H7, I7, n7⟩ := q7; exact again I7 n7
  | brk => obtain ⟨σ7, H7, I7, q7⟩ := q7; exact ⟨σ7, H7, I7.unpinned, q7⟩
  | ret v => obtain ⟨x7, σ7, H7, I7, r7, q7⟩ := q7; exact ⟨x7, σ7, H7, I7.unpinned, r7, q7⟩
end
theorem qaY {K : PySem.W.Frag} {a : Addr} {xs : List V} {g : TG} {tb : TS} {D : Ends} {σ : St} {H : Hp} (Pv : Nat -> St -> Hp -> Prop) (h0 : Pv 0 σ H) (hl : ∀ i σ H, i <= xs.length -> Pv i σ H -> SqL K H a xs)
  (hs : ∀ i x σ H, xs[i]? = some x -> Pv i σ H -> g x σ H fun σ2 H2 => tb { D with nx := Pv (i + 1), ct := Pv (i + 1), bk := D.nx } σ2 H2) (hd : ∀ σ H, Pv xs.length σ H -> D.nx σ H) :
  ∃ W : Nat -> Nat -> St -> Hp -> Prop, (∃ m, W 0 m σ H) /\ ∀ i m σ H, W i m σ H ->
   ((Itl K a).stop i H /\ D.nx σ H) \/ ((Itl K a).go i H /\ ∃ N : St -> Hp -> Prop, (∀ σ' H', N σ' H' -> ∃ m', m' < m /\ W (i + 1) m' σ' H') /\ ∀ x H', (Itl K a).yld i H x H' -> g x σ H' fun σ2 H2 => tb { D with nx := N, ct := N, bk := D.nx } σ2 H2) := by
 refine ⟨fun i m σ H => m = xs.length - i /\ i <= xs.length /\ Pv i σ H, ⟨xs.length, by simp, Nat.zero_le _, h0⟩, ?_⟩
 rintro i m σ H ⟨rfl, hi, p⟩
 have q := hl i σ H hi p
 by_cases hlt : i < xs.length
 ·refine .inr ⟨⟨xs, xs[i], q, by simp [hlt]⟩, Pv (i + 1), fun σ' H' p' => ⟨xs.length - (i + 1), by omega, rfl, hlt, p'⟩, fun x H' y => ?_⟩
  obtain ⟨e, y⟩ := y
  subst e
  exact hs i x σ _ (y xs q) p
 ·have e : i = xs.length := by omega
  subst e
  exact .inl ⟨⟨xs, q, Nat.le_refl _⟩, hd σ H p⟩
theorem for_range {lo : Int} {n : Nat} {g : TG} {tb : TS} {D : Ends} {σ : St} {H : Hp} (Pv : Nat -> St -> Hp -> Prop) (h0 : Pv 0 σ H)
  (hs : ∀ i σ H, i < n -> Pv i σ H -> g (.int (lo + i)) σ H fun σ2 H2 => tb { D with nx := Pv (i + 1), ct := Pv (i + 1), bk := D.nx } σ2 H2) (hd : ∀ σ H, Pv n σ H -> D.nx σ H) :
  ∃ W : Nat -> Nat -> St -> Hp -> Prop, (∃ m, W 0 m σ H) /\ ∀ i m σ H, W i m σ H ->
   ((Itr lo n).stop i H /\ D.nx σ H) \/ ((Itr lo n).go i H /\ ∃ N : St -> Hp -> Prop, (∀ σ' H', N σ' H' -> ∃ m', m' < m /\ W (i + 1) m' σ' H') /\ ∀ x H', (Itr lo n).yld i H x H' -> g x σ H' fun σ2 H2 => tb { D with nx := N, ct := N, bk := D.nx } σ2 H2) := by
 refine ⟨fun i m σ H => m = n - i /\ i <= n /\ Pv i σ H, ⟨n, by simp, Nat.zero_le _, h0⟩, ?_⟩
 rintro i m σ H ⟨rfl, hi, p⟩
 by_cases hlt : i < n
 ·refine .inr ⟨hlt, Pv (i + 1), fun σ' H' p' => ⟨n - (i + 1), by omega, rfl, hlt, p'⟩, fun x H' y => ?_⟩
  obtain ⟨e, y⟩ := y
  subst e y
  exact hs i σ _ hlt p
 ·have e : i = n := by omega
  subst e
  exact .inl ⟨Nat.le_refl _, hd σ H p⟩
end L2
namespace L2
open PySem PySem.Spec PyProof.Rows
abbrev R2 := V -> V -> Hp -> VK -> Prop
def OpR (X : Cx) (f : Value -> Value -> Sem Value) (r : R2) : Prop :=
 ∀ (pins : List (Addr × Obj)) (s : Shared) (σ : St) (H : Hp) (x y : V) (v u : Value) (Q : VK), Inv X pins σ H s -> RelV x v -> RelV y u -> r x y H Q ->
  wpAny (model X.prog X.w) X.A (f v u) (EP X pins σ Q) X.xe s
def UnR (X : Cx) (f : Value -> Sem Value) (r : V -> Hp -> VK -> Prop) : Prop :=
 ∀ (pins : List (Addr × Obj)) (s : Shared) (σ : St) (H : Hp) (x : V) (v : Value) (Q : VK), Inv X pins σ H s -> RelV x v -> r x H Q ->
  wpAny (model X.prog X.w) X.A (f v) (EP X pins σ Q) X.xe s
def CallR (X : Cx) (f : Value) (r : List V -> Hp -> VK -> Prop) : Prop :=
 ∀ (pins : List (Addr × Obj)) (s : Shared) (σ : St) (H : Hp) (xs : List V) (us : List Value) (Q : VK), Inv X pins σ H s -> Vals xs us -> r xs H Q ->
  wpAny (model X.prog X.w) X.A (call f us) (EP X pins σ Q) X.xe s
def tOp (r : R2) (ta tb : TE) : TE := fun σ H Q => ta σ H fun x H1 => tb σ H1 fun y H2 => r x y H2 Q
def tUn (r : V -> Hp -> VK -> Prop) (ta : TE) : TE := fun σ H Q => ta σ H fun x H1 => r x H1 Q
def rI (C : Int -> Int -> Prop) (g : Int -> Int -> V) : R2 := fun x y H Q => ∃ i j, x = .int i /\ y = .int j /\ C i j /\ Q (g i j) H
def rI0 (g : Int -> Int -> V) : R2 := fun x y H Q => ∃ i j, x = .int i /\ y = .int j /\ Q (g i j) H
def rU (g : Int -> V) : V -> Hp -> VK -> Prop := fun x H Q => ∃ i, x = .int i /\ Q (g i) H
section
variable {X : Cx} {a b c : Expr} {ta tb tc : TE} {pos : Pos}
theorem binT (ha : PE X a ta) (hb : PE X b tb) {pins : List (Addr × Obj)} {s : Shared} {σ : St} {H : Hp} {R : V -> V -> Hp -> Prop} (I : Inv X pins σ H s)
  (h : ta σ H fun x H1 => tb σ H1 fun y H2 => R x y H2) {Q : Value -> Shared -> Prop} {f : Value -> Value -> Sem Value}
  (hf : ∀ v u s2 x y H2, Inv X pins σ H2 s2 -> RelV x v -> RelV y u -> R x y H2 -> wpAny (model X.prog X.w) X.A (f v u) Q X.xe s2) :
  wpAny (model X.prog X.w) X.A (eval a X.env) (fun v s₁ => wpAny (model X.prog X.w) X.A (eval b X.env) (fun u s₂ => wpAny (model X.prog X.w) X.A (f v u) Q X.xe s₂) X.xe s₁) X.xe s := by
 refine thn (ha pins s σ H _ I h) fun v s1 ⟨x, H1, I1, r1, q1⟩ => ?_
 refine thn (hb pins s1 σ H1 _ I1 q1) fun u s2 ⟨y, H2, I2, r2, q2⟩ => ?_
 exact hf v u s2 x y H2 I2 r1 r2 q2
theorem qaK {op : Operator} {r : R2} (ho : OpR X (binaryOp op) r) (ha : PE X a ta) (hb : PE X b tb) : PE X (.BinOp a op b pos) (tOp r ta tb) := by
 intro pins s σ H Q I h
 exact wpAny_BinOp (binT ha hb I h fun v u s2 x y H2 I2 rx ry q => ho pins s2 σ H2 x y v u Q I2 rx ry q)
theorem qbX {op : UnaryOp} {r : V -> Hp -> VK -> Prop} (ho : UnR X (unaryOp op) r) (ha : PE X a ta) : PE X (.UnaryOp op a pos) (tUn r ta) := by
 intro pins s σ H Q I h
 exact UnaryOp_ (thn (ha pins s σ H _ I h) fun v s1 ⟨x, H1, I1, r1, q1⟩ => ho pins s1 σ H1 x v Q I1 r1 q1)
theorem opI {f : Value -> Value -> Sem Value} {C : Int -> Int -> Prop} {g : Int -> Int -> Int}
  (rule : ∀ (i j : Int) (t u : Tok) (s : Shared) (Q : Value -> Shared -> Prop) (E : Value -> Shared -> Prop), C i j -> Q (.int (g i j) s.toks) { s with toks := s.toks + 1 } -> wpAny (model X.prog X.w) X.A (f (.int i t) (.int j u)) Q E s) :
  OpR X f (rI C fun i j => .int (g i j)) := by
 intro pins s σ H x y v u Q I rx ry h
 obtain ⟨i, j, rfl, rfl, hc, q⟩ := h
 obtain ⟨t, rfl⟩ := rx
 obtain ⟨t', rfl⟩ := ry
 exact rule i j t t' s _ _ hc ⟨.int (g i j), H, I.tok _, ⟨_, rfl⟩, q⟩
theorem opI0 {f : Value -> Value -> Sem Value} {g : Int -> Int -> Int}
  (rule : ∀ (i j : Int) (t u : Tok) (s : Shared) (Q : Value -> Shared -> Prop) (E : Value -> Shared -> Prop), Q (.int (g i j) s.toks) { s with toks := s.toks + 1 } -> wpAny (model X.prog X.w) X.A (f (.int i t) (.int j u)) Q E s) :
  OpR X f (rI0 fun i j => .int (g i j)) := by
 intro pins s σ H x y v u Q I rx ry h
 obtain ⟨i, j, rfl, rfl, q⟩ := h
 obtain ⟨t, rfl⟩ := rx
 obtain ⟨t', rfl⟩ := ry
 exact rule i j t t' s _ _ ⟨.int (g i j), H, I.tok _, ⟨_, rfl⟩, q⟩
theorem opB0 {f : Value -> Value -> Sem Value} {g : Int -> Int -> Bool}
  (rule : ∀ (i j : Int) (t u : Tok) (s : Shared) (Q : Value -> Shared -> Prop) (E : Value -> Shared -> Prop), Q (.bool (g i j)) s -> wpAny (model X.prog X.w) X.A (f (.int i t) (.int j u)) Q E s) :
  OpR X f (rI0 fun i j => .bl (g i j)) := by
 intro pins s σ H x y v u Q I rx ry h
 obtain ⟨i, j, rfl, rfl, q⟩ := h
 obtain ⟨t, rfl⟩ := rx
 obtain ⟨t', rfl⟩ := ry
 exact rule i j t t' s _ _ ⟨.bl (g i j), H, I, rfl, q⟩
def CDiv (i j : Int) : Prop := 0 < j /\ j < 1073741824
def CMul (i j : Int) : Prop := (-(2 ^ 64) < i /\ i < 2 ^ 64) \/ (-(2 ^ 64) < j /\ j < 2 ^ 64)
theorem CMul.ok {i j : Int} (h : CMul i j) : IntMulOk i j := by
 rcases h with ⟨h1, h2⟩ | ⟨h1, h2⟩
 ·exact .of_left (intBits_le_64 h1 h2)
 ·exact .of_right (intBits_le_64 h1 h2)
theorem qgq (k : Nat) : (0 : Int) <= 2 ^ k := by
 rw [two_pow_cast]
 exact Int.natCast_nonneg _
theorem qce : OpR X (binaryOp .Add) (rI0 fun i j => .int (i + j)) := opI0 fun _ _ _ _ _ _ _ q => add_int q
theorem qjQ : OpR X (binaryOp .Sub) (rI0 fun i j => .int (i - j)) := opI0 fun _ _ _ _ _ _ _ q => sub_int q
theorem qeI : OpR X (binaryOp .Mult) (rI CMul fun i j => .int (i * j)) := opI fun _ _ _ _ _ _ _ hc q => mul_int q hc.ok
theorem ql5 : OpR X (binaryOp .FloorDiv) (rI CDiv fun i j => .int (i / j)) := opI fun i j _ _ _ _ _ hc q => by
 have h1 : (0 : Int) < j := hc.1
 have h2 : j < 1073741824 := hc.2
 exact floordiv_int (by omega) (by rw [Int.fdiv_eq_ediv_of_nonneg i (by omega)]; exact q) (.inl (PyProof.noPylong_small (by omega)))
theorem qfM : OpR X (binaryOp .Mod) (rI (fun _ j => 0 < j) fun i j => .int (i % j)) := opI fun i j _ _ _ _ _ hc q => by
 have h1 : (0 : Int) < j := hc
 exact mod_int' (by omega) (by rw [Int.fmod_eq_emod_of_nonneg i (by omega)]; exact q)
theorem qhl : OpR X (binaryOp .RShift) (rI (fun _ j => 0 <= j) fun i j => .int (i / 2 ^ j.toNat)) := opI fun i j _ _ _ _ _ hc q =>
 rshift_int hc (by rw [Int.fdiv_eq_ediv_of_nonneg i (qgq _)]; exact q)
theorem qf4 : OpR X (binaryOp .BitXor) (rI0 fun i j => .int (Builtin.bitXor i j)) := opI0 fun _ _ _ _ _ _ _ q => xor_int q
theorem unI {f : Value -> Sem Value} {g : Int -> Int}
  (rule : ∀ (i : Int) (t : Tok) (s : Shared) (Q : Value -> Shared -> Prop) (E : Value -> Shared -> Prop), Q (.int (g i) s.toks) { s with toks := s.toks + 1 } -> wpAny (model X.prog X.w) X.A (f (.int i t)) Q E s) :
  UnR X f (rU fun i => .int (g i)) := by
 intro pins s σ H x v Q I rx h
 obtain ⟨i, rfl, q⟩ := h
 obtain ⟨t, rfl⟩ := rx
 exact rule i t s _ _ ⟨.int (g i), H, I.tok _, ⟨_, rfl⟩, q⟩
theorem qbi : UnR X (unaryOp .USub) (rU fun i => .int (-i)) := unI fun _ _ _ _ _ q => neg_int q
end
def scal : V -> V -> Bool
 | .non, .non => true | .non, .int _ => true | .int _, .non => true | .non, .bl _ => true | .bl _, .non => true | .non, .str _ => true | .str _, .non => true
 | .int _, .int _ => true | .bl _, .bl _ => true | .str _, .str _ => true | .byt _, .byt _ => true
 | .int _, .str _ => true | .str _, .int _ => true | .bl _, .str _ => true | .str _, .bl _ => true
 | _, _ => false
def rEq : R2 := fun x y H Q => scal x y = true /\ Q (.bl (decide (x = y))) H
def rNe : R2 := fun x y H Q => scal x y = true /\ Q (.bl (!decide (x = y))) H
theorem qhw {i j : Int} : decide (V.int i = V.int j) = (i == j) := by
 rw [Bool.eq_iff_iff]
 simp
theorem qkm {i j : Bool} : decide (V.bl i = V.bl j) = (i == j) := by
 rw [Bool.eq_iff_iff]
 simp
theorem qgX {i j : Str} : decide (V.str i = V.str j) = (i == j) := by
 rw [Bool.eq_iff_iff]
 simp
theorem qhb {i j : Array UInt8} : decide (V.byt i = V.byt j) = (i.toList == j.toList) := by
 rw [Bool.eq_iff_iff]
 cases i
 cases j
 simp
section
variable {X : Cx} {a b c : Expr} {ta tb tc : TE} {pos : Pos}
theorem qaH {pins : List (Addr × Obj)} {σ : St} {H : Hp} {s : Shared} {Q : VK} {k k' : Bool} (I : Inv X pins σ H s) (q : Q (.bl k) H) (e : k = k') : EP X pins σ Q (.bool k') s := by
 subst e
 exact ⟨.bl k, H, I, rfl, q⟩
theorem qbN : OpR X (compareOp .Eq) rEq := by
 intro pins s σ H x y v u Q I rx ry h
 obtain ⟨hs, q⟩ := h
 cases x with
 | non =>
  cases rx
  cases y with
  | non => cases ry; exact PySem.EqNone.eq_none_none (qaH I q (by simp))
  | bl j => cases ry; exact PySem.EqNone.eq_none_bool (qaH I q (by simp))
  | int j => obtain ⟨t', rfl⟩ := ry; exact PySem.EqNone.eq_none_int (qaH I q (by simp))
  | str j => obtain ⟨t', rfl⟩ := ry; exact PySem.EqNone.eq_none_str (qaH I q (by simp))
  | _ => exact absurd (show false = true from hs) Bool.false_ne_true
 | bl i =>
  cases rx
  cases y with
  | non => cases ry; exact PySem.EqNone.eq_bool_none (qaH I q (by simp))
  | bl j => cases ry; exact eq_bool (qaH I q qkm)
  | str j => obtain ⟨t', rfl⟩ := ry; exact PySem.EqMixed.eq_bool_str (qaH I q (by simp))
  | _ => exact absurd (show false = true from hs) Bool.false_ne_true
 | int i =>
  obtain ⟨t, rfl⟩ := rx
  cases y with
  | non => cases ry; exact PySem.EqNone.eq_int_none (qaH I q (by simp))
  | int j => obtain ⟨t', rfl⟩ := ry; exact eq_int (qaH I q qhw)
  | str j => obtain ⟨t', rfl⟩ := ry; exact PySem.EqMixed.eq_int_str (qaH I q (by simp))
  | _ => exact absurd (show false = true from hs) Bool.false_ne_true
 | str i =>
  obtain ⟨t, rfl⟩ := rx
  cases y with
  | non => cases ry; exact PySem.EqNone.eq_str_none (qaH I q (by simp))
  | bl j => cases ry; exact PySem.EqMixed.eq_str_bool (qaH I q (by simp))
  | int j => obtain ⟨t', rfl⟩ := ry; exact PySem.EqMixed.eq_str_int (qaH I q (by simp))
  | str j => obtain ⟨t', rfl⟩ := ry; exact eq_str (qaH I q qgX)
  | _ => exact absurd (show false = true from hs) Bool.false_ne_true
 | byt i =>
  obtain ⟨t, rfl⟩ := rx
  cases y with
  | byt j => obtain ⟨t', rfl⟩ := ry; exact PySem.W.eq_bytes (qaH I q qhb)
  | _ => exact absurd (show false = true from hs) Bool.false_ne_true
 | _ => cases y <;> exact absurd (show false = true from hs) Bool.false_ne_true
theorem qdA : OpR X (compareOp .NotEq) rNe := by
 intro pins s σ H x y v u Q I rx ry h
 obtain ⟨hs, q⟩ := h
 cases x with
 | non =>
  cases rx
  cases y with
  | non => cases ry; exact PySem.EqNone.ne_none_none (qaH I q (by simp))
  | bl j => cases ry; exact PySem.EqNone.ne_none_bool (qaH I q (by simp))
  | int j => obtain ⟨t', rfl⟩ := ry; exact PySem.EqNone.ne_none_int (qaH I q (by simp))
  | str j => obtain ⟨t', rfl⟩ := ry; exact PySem.EqNone.ne_none_str (qaH I q (by simp))
  | _ => exact absurd (show false = true from hs) Bool.false_ne_true
 | bl i =>
  cases rx
  cases y with
  | non => cases ry; exact PySem.EqNone.ne_bool_none (qaH I q (by simp))
  | bl j => cases ry; exact ne_bool (qaH I q (congrArg not qkm))
  | str j => obtain ⟨t', rfl⟩ := ry; exact PySem.EqMixed.ne_bool_str (qaH I q (by simp))
  | _ => exact absurd (show false = true from hs) Bool.false_ne_true
 | int i =>
  obtain ⟨t, rfl⟩ := rx
  cases y with
  | non => cases ry; exact PySem.EqNone.ne_int_none (qaH I q (by simp))
  | int j => obtain ⟨t', rfl⟩ := ry; exact ne_int (qaH I q (congrArg not qhw))
  | str j => obtain ⟨t', rfl⟩ := ry; exact PySem.EqMixed.ne_int_str (qaH I q (by simp))
  | _ => exact absurd (show false = true from hs) Bool.false_ne_true
 | str i =>
  obtain ⟨t, rfl⟩ := rx
  cases y with
  | non => cases ry; exact PySem.EqNone.ne_str_none (qaH I q (by simp))
  | bl j => cases ry; exact PySem.EqMixed.ne_str_bool (qaH I q (by simp))
  | int j => obtain ⟨t', rfl⟩ := ry; exact PySem.EqMixed.ne_str_int (qaH I q (by simp))
  | str j => obtain ⟨t', rfl⟩ := ry; exact ne_str (qaH I q (congrArg not qgX))
  | _ => exact absurd (show false = true from hs) Bool.false_ne_true
 | byt i =>
  obtain ⟨t, rfl⟩ := rx
  cases y with
  | byt j => obtain ⟨t', rfl⟩ := ry; exact PySem.W.ne_bytes (qaH I q (congrArg not qhb))
  | _ => exact absurd (show false = true from hs) Bool.false_ne_true
 | _ => cases y <;> exact absurd (show false = true from hs) Bool.false_ne_true
theorem qdP : OpR X (compareOp .Lt) (rI0 fun i j => .bl (decide (i < j))) := opB0 fun _ _ _ _ _ _ _ q => lt_int q
theorem qkx : OpR X (compareOp .LtE) (rI0 fun i j => .bl (decide (i <= j))) := opB0 fun _ _ _ _ _ _ _ q => le_int q
theorem qeP : OpR X (compareOp .Gt) (rI0 fun i j => .bl (decide (j < i))) := opB0 fun _ _ _ _ _ _ _ q => gt_int q
theorem qea : OpR X (compareOp .GtE) (rI0 fun i j => .bl (decide (j <= i))) := opB0 fun _ _ _ _ _ _ _ q => ge_int q
theorem nomark (b : Expr) {op : CmpOp} (h : op ≠ .In := by decide) (h2 : op ≠ .NotIn := by decide) : behindInMarks op b = false := by
 have e1 : (op == CmpOp.In) = false := by cases op <;> first | rfl | exact absurd rfl h
 have e2 : (op == CmpOp.NotIn) = false := by cases op <;> first | rfl | exact absurd rfl h2
 cases b <;> simp [behindInMarks, e1, e2]
theorem qbs {op : CmpOp} {r : R2} (ho : OpR X (compareOp op) r) (ha : PE X a ta) (hb : PE X b tb) (hm : behindInMarks op b = false) : PE X (.Compare a [op] [b] pos) (tOp r ta tb) := by
 intro pins s σ H Q I h
 exact wpAny_Compare1 (binT ha hb I h fun v u s2 x y H2 I2 rx ry q => ho pins s2 σ H2 x y v u Q I2 rx ry q) hm
def tTest (t : TE) : TT := fun σ H Q => t σ H fun x H' => ∃ k, x = .bl k /\ Q k H'
theorem qar {op : CmpOp} {r : R2} (ho : OpR X (compareOp op) r) (ha : PE X a ta) (hb : PE X b tb) (hm : behindInMarks op b = false) : PT X (.Compare a [op] [b] pos) (tTest (tOp r ta tb)) := by
 intro pins s σ H Q I h
 refine wpAny_isTrue_Compare1 (thn (ha pins s σ H _ I h) fun v s1 ⟨x, H1, I1, r1, q1⟩ => thn (hb pins s1 σ H1 _ I1 q1) fun u s2 ⟨y, H2, I2, r2, q2⟩ =>
  thn (ho pins s2 σ H2 x y v u _ I2 r1 r2 q2) fun c s3 ⟨z, H3, I3, r3, k, e, q3⟩ => ?_) hm
 subst e
 cases r3
 exact wpAny_truthy_bool ⟨H3, I3, q3⟩
theorem line63 : (sizeLine : Nat) < 2 ^ 63 := by rw [sizeLine_eq]; decide
theorem vals1 {x : V} {us : List Value} (r : Vals [x] us) : ∃ u, us = [u] /\ RelV x u := by
 cases r with
 | cons r1 r2 => cases r2; exact ⟨_, rfl, r1⟩
end
end L2
namespace L2
open PySem PySem.Spec PyProof.Rows
structure ObjM (h : Heap) (x dx C : Addr) (mA : Str -> Option Value) : Prop where
 obj : h.get? x = some (PySem.W.instObj C dx)
 ns : h.Ns1 dx mA
 ne : dx ≠ x
theorem qhi {h : Heap} {dx : Addr} {mA : Str -> Option Value} (n : h.Ns1 dx mA) : ∃ od, h.get? dx = some od /\ ∀ name, PySem.W.lookIn name od = some (mA name) := by
 obtain ⟨o, es, ep, ho, hd, hk, _, hm⟩ := n
 refine ⟨o, ho, fun name => ?_⟩
 have e := hm name
 unfold nsFind findBy at e
 rw [<- Array.find?_toList] at e
 unfold PySem.W.lookIn
 rw [hd]
 dsimp only
 split
 ·rename_i y q
  rw [q] at e
  exact congrArg some e
 ·rename_i q
  rw [q] at e
  have a : es.toList.any (·.refKey) = false := by
   rw [List.any_eq_false]
   intro y hy
   obtain ⟨z, t, hkey⟩ := hk y (Array.mem_toList_iff.mp hy)
   simp [DictEntry.refKey, hkey]
  have a' : ¬ es.toList.any (·.refKey) = true := by rw [a]; exact Bool.false_ne_true
  rw [if_neg a']
  exact congrArg some e
theorem ObjM.look {h : Heap} {x dx C : Addr} {mA : Str -> Option Value} (I : ObjM h x dx C mA) : ∃ od, PySem.W.InstAt h x (PySem.W.instObj C dx) C (some od) /\ ∀ name, PySem.W.lookIn name od = some (mA name) :=
 let ⟨od, ho, hl⟩ := qhi I.ns
 ⟨od, ⟨I.obj, rfl, rfl, ho⟩, hl⟩
section
variable {prog : Program} {w : World} {A : Around} {E : Value -> Shared -> Prop} {s : Shared} {K : PySem.W.Frag} {x dx C f : Addr} {mA : Str -> Option Value} {name : Str} {v : Value}
theorem qfh {expr : Bool} {Q : Value -> Shared -> Prop} (X : K.In s.heap) (I : ObjM s.heap x dx C mA) (hg : PySem.W.plainGet K C name = true) (hh : PySem.W.hasDictIn K C = true)
  (ha : PySem.W.findIn K (.ref C) name = some none) (hv : mA name = some v) (hv' : PySem.W.handedIn v = true) (h : Q v { s with toks := s.toks + 1 }) :
  wpAny (model prog w) A (getAttr (.ref x) name expr) Q E s := by
 obtain ⟨od, J, hl⟩ := I.look
 exact PySem.W.get_value X J (PySem.W.plainGet_of hg).1 (PySem.W.findObj_own hh ha rfl (by rw [hl, hv])) hv' h
theorem qia {pl : Sem Bool} {Q : Value × List Value -> Shared -> Prop} (X : K.In s.heap) (I : ObjM s.heap x dx C mA) (hg : PySem.W.plainGet K C name = true)
  (hf : PySem.W.findIn K (.ref C) name = some (some (.ref f))) (ht : PySem.W.isFn K (.ref f) = true) (hv : mA name = none) (h : Q (.ref f, [.ref x]) s) :
  wpAny (model prog w) A (getMethod (.ref x) name pl) Q E s := by
 obtain ⟨od, J, hl⟩ := I.look
 exact PySem.W.method_fn X J (PySem.W.plainGet_of hg).1 (PySem.W.plainGet_of hg).2 hf (beq_iff_eq.mp ht) (by show (PySem.W.lookIn name od).map (·.isSome) = some false; rw [hl, hv]; rfl) h
theorem qk5 {ns : List Str} {Q : Unit -> Shared -> Prop} (X : K.In s.heap) (I : ObjM s.heap x dx C mA)
  (hs : PySem.W.findIn K (.ref C) "__setattr__" = some (some (.builtin "object.__setattr__"))) (hp : PySem.W.plainOver K C = true) (ht : PySem.W.takerIn K C name = some none) (hh : PySem.W.hasDictIn K C = true)
  (hw : PySem.Within mA ns) (hsz : ns.length <= sizeLine)
  (h : ∀ h', ObjM h' x dx C (fun y => if y = name then some v else mA y) -> Heap.SameBut dx s.heap h' -> Q () { s with heap := h', toks := s.toks + 2 }) :
  wpAny (model prog w) A (setAttr (.ref x) name v) Q E s := by
 obtain ⟨od, J, hl⟩ := I.look
 refine PySem.W.set_plain X J hs (PySem.W.osa_open (s := { s with toks := s.toks + 1 }) (r := none) X J hp ht fun b => ?_)
 obtain ⟨cd, hc, hd'⟩ := PySem.W.any_some hh
 have hx : s.heap.get? x = some ⟨.ref C, some dx, .plain, #[]⟩ := I.obj
 refine wpAny_bind (wpAny_pure (wpAny_bind (wpAny_bind (wpAny_loadPart hx (wpAny_bind (PySem.W.Looks.here (s := { s with toks := s.toks + 1 }) (PySem.W.looks_clsIn X hc) ?_))))))
 rw [hd']
 refine wpAny_pure (a := some dx) (wpAny_bind (wpAny_pure (wpAny_bind ?_)))
 refine wpAny_nsSet1 (s := { s with toks := s.toks + 1 }) I.ns fun h' hn2 hs2 => ?_
 obtain ⟨oD, esD, epD, hoD, hdD, hcD⟩ := hn2.count (PySem.Within.cons name v hw)
 refine wpAny_bind (wpAny_lookBehind hoD (by rw [hdD]; exact pastItsLine_dict (Nat.le_trans hcD (by rw [List.length_cons]; omega))) ?_)
 exact wpAny_pure (h _ ⟨(hs2.2 _ (Ne.symm I.ne)).trans I.obj, hn2, I.ne⟩ hs2)
theorem qh6 {R : Result -> Shared -> Prop} {vs : List Value} {kw : List (Str × Value)} (X : K.In s.heap) (hm : PySem.W.makesIn K C = true)
  (hi : PySem.W.findIn K (.ref C) "__init__" = some (some (.ref f))) (hf : PySem.W.typeIn K (.ref f) = some (.type "function"))
  (h : codeAny (model prog w) (A.under (.builtin "type.__call__" ⟨.ref C :: vs, kw⟩)) (.call (.ref f) ⟨.ref (s.heap.objs.size + 1) :: vs, kw⟩) (PySem.W.InitBack (s.heap.objs.size + 1) R)
   { s with heap := (s.heap.push PySem.W.emptyDict).push (PySem.W.instObj C s.heap.objs.size) }) :
  codeAny (model prog w) A (.call (.ref C) ⟨vs, kw⟩) R s := by
 obtain ⟨hh, g, d, t, os⟩ := s
 exact PySem.W.make_core (PySem.W.makes_of X hm) (PySem.W.looks_findIn X hi) (fun self => PySem.W.bind_fn X self hf) (.inl rfl) h
end
def putF (f : Str) (v : V) : List (Str × V) -> List (Str × V)
 | [] => [(f, v)]
 | (g, x) :: r => if g = f then (g, v) :: r else (g, x) :: putF f v r
theorem qdo (f g : Str) (v : V) : ∀ fs : List (Str × V), (putF f v fs).lookup g = if g = f then some v else fs.lookup g
 | [] => by
  show List.lookup g [(f, v)] = _
  by_cases h : g = f
  ·have hb : (g == f) = true := beq_iff_eq.mpr h
   simp only [List.lookup, hb, if_pos h]
  ·have hb : (g == f) = false := beq_eq_false_iff_ne.mpr h
   simp only [List.lookup, hb, if_neg h]
 | (k, x) :: r => by
  have ih := qdo f g v r
  rw [show putF f v ((k, x) :: r) = (if k = f then (k, v) :: r else (k, x) :: putF f v r) from rfl]
  by_cases hk : k = f
  ·rw [if_pos hk]
   by_cases h : g = k
   ·have hb : (g == k) = true := beq_iff_eq.mpr h
    simp only [List.lookup, hb, if_pos (h.trans hk)]
   ·have hb : (g == k) = false := beq_eq_false_iff_ne.mpr h
    simp only [List.lookup, hb, if_neg (fun e : g = f => h (e.trans hk.symm))]
  ·rw [if_neg hk]
   by_cases h : g = k
   ·have hb : (g == k) = true := beq_iff_eq.mpr h
    simp only [List.lookup, hb, if_neg (fun e : g = f => hk (h.symm.trans e))]
   ·have hb : (g == k) = false := beq_eq_false_iff_ne.mpr h
    simp only [List.lookup, hb]
    exact ih
theorem qdc (f : Str) (v : V) : ∀ fs : List (Str × V), f ∈ (putF f v fs).map (·.1) /\ ∀ g, g ∈ fs.map (·.1) -> g ∈ (putF f v fs).map (·.1)
 | [] => ⟨by simp [putF], fun g h => by simp at h⟩
 | (k, x) :: r => by
  obtain ⟨i1, i2⟩ := qdc f v r
  rw [show putF f v ((k, x) :: r) = (if k = f then (k, v) :: r else (k, x) :: putF f v r) from rfl]
  by_cases hk : k = f
  ·rw [if_pos hk]
   subst hk
   exact ⟨by simp, fun g h => by simpa using h⟩
  ·rw [if_neg hk]
   refine ⟨?_, fun g h => ?_⟩
   ·rw [List.map_cons]
    exact List.mem_cons_of_mem _ i1
   ·rw [List.map_cons] at h ⊢
    rcases List.mem_cons.mp h with e | e
    ·exact List.mem_cons.mpr (.inl e)
    ·exact List.mem_cons_of_mem _ (i2 g e)
theorem qdB (f : Str) (v : V) : ∀ fs : List (Str × V), (putF f v fs).length <= fs.length + 1
 | [] => by simp [putF]
 | (k, x) :: r => by
  have ih := qdB f v r
  rw [show putF f v ((k, x) :: r) = (if k = f then (k, v) :: r else (k, x) :: putF f v r) from rfl]
  by_cases hk : k = f
  ·rw [if_pos hk, List.length_cons, List.length_cons]; omega
  ·rw [if_neg hk, List.length_cons, List.length_cons]; omega
theorem RelO.some_of {v : V} {o : Option Value} (r : RelO (some v) o) : ∃ u, o = some u /\ RelV v u := by
 cases o with
 | none => exact (show False from r).elim
 | some u => exact ⟨u, rfl, r⟩
theorem RelO.none_of {o : Option Value} (r : RelO none o) : o = none := by
 cases o with
 | none => rfl
 | some u => exact (show False from r).elim
theorem qhy {v : V} {u : Value} (r : RelV v u) : PySem.W.handedIn u = true := by
 cases v with
 | non => cases (show u = Value.none from r); rfl
 | bl b => cases (show u = Value.bool b from r); rfl
 | int i => obtain ⟨t, e⟩ := (show ∃ t, u = Value.int i t from r); cases e; rfl
 | str x => obtain ⟨t, e⟩ := (show ∃ t, u = Value.str x t from r); cases e; rfl
 | byt b => obtain ⟨t, e⟩ := (show ∃ t, u = Value.bytes b t from r); cases e; rfl
 | flt b => obtain ⟨t, e⟩ := (show ∃ t, u = Value.float b t from r); cases e; rfl
 | ref a => cases (show u = Value.ref a from r); rfl
 | ty n => cases (show u = Value.type n from r); rfl
section
variable {P : Program} {w : World} {H H' : Hp} {h h' : Heap} {a C dx : Addr} {fs fs' : List (Str × V)}
theorem qfp (hok : HOk P w H h) (e : H a = some (.ins C dx fs)) : ∃ mA, ObjM h a dx C mA /\ (∀ f, RelO (fs.lookup f) (mA f)) /\ PySem.Within mA (fs.map (·.1)) /\ fs.length <= 1000 /\ H dx = some (.own a) := by
 obtain ⟨d, z, ne, ob, mA, n, r, q⟩ := (show ObjOk P w H h a (.ins C dx fs) from hok a _ e)
 exact ⟨mA, ⟨ob, n, ne⟩, r, q, z, d⟩
end
structure Cls (K : PySem.W.Frag) (C : Addr) : Prop where
 pg : PySem.W.plainGet K C Str.empty = true
 hd : PySem.W.hasDictIn K C = true
 po : PySem.W.plainOver K C = true
 sa : PySem.W.findIn K (.ref C) "__setattr__" = some (some (.builtin "object.__setattr__"))
theorem Cls.get {K : PySem.W.Frag} {C : Addr} (c : Cls K C) (f : Str) : PySem.W.plainGet K C f = true := c.pg
def NoAttr (K : PySem.W.Frag) (C : Addr) (f : Str) : Prop := PySem.W.findIn K (.ref C) f = some none
theorem NoAttr.taker {K : PySem.W.Frag} {C : Addr} {f : Str} (n : NoAttr K C f) : PySem.W.takerIn K C f = some none := by
 unfold PySem.W.takerIn
 rw [show PySem.W.findIn K (.ref C) f = some none from n]
 rfl
structure Meth (K : PySem.W.Frag) (C : Addr) (m : Str) (f : Addr) : Prop where
 at_ : PySem.W.findIn K (.ref C) m = some (some (.ref f))
 fn : PySem.W.isFn K (.ref f) = true
 kp : PySem.W.keepIn K (.ref f) = true
section
variable {X : Cx} {pins : List (Addr × Obj)} {σ : St} {H : Hp} {s : Shared} {a C dx : Addr} {fs : List (Str × V)} {f : Str} {v : V} {A : Around} {E : Value -> Shared -> Prop}
theorem qga {b : Bool} {Q : Value -> Shared -> Prop} (I : Inv X pins σ H s) (e : H a = some (.ins C dx fs)) (c : Cls X.K C) (n : NoAttr X.K C f) (l : fs.lookup f = some v)
  (h : ∀ u s', Inv X pins σ H s' -> RelV v u -> Q u s') : wpAny (model X.prog X.w) A (getAttr (.ref a) f b) Q E s := by
 obtain ⟨mA, O, r, _, _, _⟩ := qfp I.hok e
 obtain ⟨u, hu, ru⟩ := RelO.some_of (v := v) (o := mA f) (by rw [<- l]; exact r f)
 exact qfh I.kIn O (c.get f) c.hd n hu (qhy ru) (h u _ (I.tok _) ru)
theorem qcF {m : Str} {g : Addr} {pl : Sem Bool} {Q : Value × List Value -> Shared -> Prop} (I : Inv X pins σ H s) (e : H a = some (.ins C dx fs)) (c : Cls X.K C) (k : Meth X.K C m g) (l : fs.lookup m = none)
  (h : Q (.ref g, [.ref a]) s) : wpAny (model X.prog X.w) A (getMethod (.ref a) m pl) Q E s := by
 obtain ⟨mA, O, r, _, _, _⟩ := qfp I.hok e
 have hn : mA m = none := RelO.none_of (by rw [<- l]; exact r m)
 exact qia I.kIn O (c.get m) k.at_ k.fn hn h
theorem qf8 {y : V} {u : Value} {Q : Unit -> Shared -> Prop} (I : Inv X pins σ H s) (e : H a = some (.ins C dx fs)) (c : Cls X.K C) (n : NoAttr X.K C f) (hl : fs.length < 1000) (ry : RelV y u)
  (h : ∀ s', Inv X pins σ (upd H a (.ins C dx (putF f y fs))) s' -> Q () s') : wpAny (model X.prog X.w) A (setAttr (.ref a) f u) Q E s := by
 obtain ⟨mA, O, r, wi, _, ho⟩ := qfp I.hok e
 have hz : (fs.map (·.1)).length <= sizeLine := by rw [List.length_map, sizeLine_eq]; omega
 refine qk5 I.kIn O c.sa c.po n.taker c.hd wi hz fun h' O' sb => h _ ?_
 have hd : ∃ o, h'.get? dx = some o := let ⟨o, _, _, e', _⟩ := O'.ns; ⟨o, e'⟩
 refine I.write (x := a) (e := dx) (by rw [e]; exact True.intro) (.inr ho) (fun b q hb z => (sb.2 b hb).trans z) hd ?_
 refine ⟨by rw [qaq O.ne]; exact ho, ?_, O.ne, O'.obj, _, O'.ns, fun g => ?_, fun g hg => ?_⟩
 ·have := qdB f y fs; omega
 ·show RelO ((putF f y fs).lookup g) (if g = f then some u else mA g)
  rw [qdo]
  by_cases q : g = f
  ·rw [if_pos q, if_pos q]; exact ry
  ·rw [if_neg q, if_neg q]; exact r g
 ·by_cases q : g = f
  ·rw [q]; exact (qdc f y fs).1
  ·refine (qdc f y fs).2 g (wi g fun z => hg ?_)
   show (if g = f then some u else mA g) = none
   rw [if_neg q]; exact z
theorem Inv.made (I : Inv X pins σ H s) : Inv X pins σ (upd (upd H s.heap.objs.size (.own (s.heap.objs.size + 1))) (s.heap.objs.size + 1) (.ins C s.heap.objs.size []))
  { s with heap := (s.heap.push PySem.W.emptyDict).push (PySem.W.instObj C s.heap.objs.size) } := by
 have e1 : (s.heap.push PySem.W.emptyDict).get? s.heap.objs.size = some PySem.W.emptyDict := Heap.get?_push_size s.heap rfl
 have e2 : ((s.heap.push PySem.W.emptyDict).push (PySem.W.instObj C s.heap.objs.size)).get? (s.heap.objs.size + 1) = some (PySem.W.instObj C s.heap.objs.size) := by
  have := Heap.get?_push_size (s.heap.push PySem.W.emptyDict) (o := PySem.W.instObj C s.heap.objs.size) rfl
  rwa [Heap.size_push] at this
 have e3 : (s.heap.push PySem.W.emptyDict).Ns s.heap.objs.size (fun _ => none) := ⟨PySem.W.emptyDict, #[], _, e1, rfl, (fun e he => absurd he (by simp)), fun _ => rfl⟩
 have I1 := I.laid (a := s.heap.objs.size) (o := .own (s.heap.objs.size + 1)) (h' := s.heap.push PySem.W.emptyDict) (t' := s.toks) (fun b u q => Heap.get?_push_of_some _ q) (Nat.le_refl _) ⟨_, e1⟩
 refine I1.laid (a := s.heap.objs.size + 1) (o := .ins C s.heap.objs.size []) (t' := s.toks) (fun b u q => Heap.get?_push_of_some _ q) (Nat.le_of_eq (Heap.size_push _ _)) ?_
 have ne : s.heap.objs.size ≠ s.heap.objs.size + 1 := Nat.ne_of_lt (Nat.lt_succ_self _)
 refine ⟨by rw [qaq ne, qaf], Nat.zero_le _, ne, e2, fun _ => none, (Heap.Ns1.of_empty e3).at fun o q => Heap.get?_push_of_some _ q, fun _ => True.intro, fun y hy => absurd rfl hy⟩
theorem qfz {prog : Program} {w : World} {env : Env} {e : Expr} {f : Str} {pos : Pos} {s : Shared} {Q : Value -> Shared -> Prop} (hb : attributeBase e f env (eval e env) = eval e env)
  (h : wpAny (model prog w) A (eval e env) (fun o s₁ => wpAny (model prog w) A (getAttr o f true) Q E s₁) E s) : wpAny (model prog w) A (eval (.Attribute e f pos) env) Q E s :=
 Attribute_any_ h (by rw [arm_eval_Attribute, hb])
end
def tFld (K : PySem.W.Frag) (ta : TE) (f : Str) : TE := fun σ H Q => ta σ H fun x H1 => ∃ a C dx fs v, x = .ref a /\ H1 a = some (.ins C dx fs) /\ Cls K C /\ NoAttr K C f /\ fs.lookup f = some v /\ Q v H1
def sFld (K : PySem.W.Frag) (ta tv : TE) (f : Str) : TS := fun D σ H => tv σ H fun y H1 => ta σ H1 fun x H2 => ∃ a C dx fs, x = .ref a /\ H2 a = some (.ins C dx fs) /\ Cls K C /\ NoAttr K C f /\ fs.length < 1000 /\
 D.nx σ (upd H2 a (.ins C dx (putF f y fs)))
section
variable {X : Cx} {o e value : Expr} {f : Str} {pos pos' tpos : Pos} {ta tv : TE}
theorem qae (he : PE X e ta) (hb : attributeBase e f X.env (eval e X.env) = eval e X.env) : PE X (.Attribute e f pos) (tFld X.K ta f) := by
 intro pins s σ H Q I h
 refine qfz hb (thn (he pins s σ H _ I h) fun u s1 ⟨x, H1, I1, rx, a, C, dx, fs, v, ex, ea, c, n, l, q⟩ => ?_)
 subst ex
 obtain rfl : u = Value.ref a := rx
 exact qga I1 ea c n l fun u' s2 I2 ru => ⟨v, H1, I2, ru, q⟩
theorem qau (ha : PE X o ta) (hv : PE X value tv) (hs : swapsWith value (some (.Attribute o f pos')) pos.line X.env = pure false) : PS X (.Assign [.Attribute o f pos'] value pos) (sFld X.K ta tv f) := by
 intro pins s σ H D I h
 refine plainObj_wpAny_Assign_Attribute (thn (hv pins s σ H _ I h) fun u s1 ⟨y, H1, I1, ry, q⟩ => thn (ha pins s1 σ H1 _ I1 q) fun ov s2 ⟨x, H2, I2, rx, a, C, dx, fs, ex, ea, c, n, l, q2⟩ => ?_) hs
 subst ex
 obtain rfl : ov = Value.ref a := rx
 exact qf8 I2 ea c n l ry fun s3 I3 => ⟨σ, _, I3, q2⟩
theorem qkM {pl : Sem Bool} {m : Str} {apos : Pos} {args : List Expr} {pins : List (Addr × Obj)} {s : Shared} {σ : St} {H : Hp} {Q : Value -> Shared -> Prop} {te : TE} (he : PE X e te) (I : Inv X pins σ H s)
  (h : te σ H fun x H1 => ∃ a C dx fs g, x = .ref a /\ H1 a = some (.ins C dx fs) /\ Cls X.K C /\ Meth X.K C m g /\ fs.lookup m = none /\
   ∀ s1, Inv X pins σ H1 s1 -> wpAny (model X.prog X.w) X.A (callWith pos (.ref g) [.ref a] (backTo pos (starEach args X.env)) (backToKw pos (keywordEach [] X.env))) Q X.xe s1)
  (ht : eval (.Call (.Attribute e m apos) args [] pos) X.env = (do
   let ov <- eval e X.env
   standAt apos.atName
   let (f, first) <- holding [ov] (getMethod ov m pl)
   callWith pos f first (backTo pos (starEach args X.env)) (backToKw pos (keywordEach [] X.env)))) :
  wpAny (model X.prog X.w) X.A (eval (.Call (.Attribute e m apos) args [] pos) X.env) Q X.xe s := by
 refine PySem.W.methodCall_KW (pl := pl) (thn (he pins s σ H _ I h) fun u s1 ⟨x, H1, I1, rx, a, C, dx, fs, g, ex, ea, c, k, l, q⟩ => ?_) ht
 subst ex
 obtain rfl : u = Value.ref a := rx
 exact qcF I1 ea c k l (q s1 I1)
end
end L2
namespace L2
open PySem PySem.Spec PyProof.Rows
structure Room (k : Nat) (A : Around) : Prop where
 hd : A.handled = none
 dp : A.depth + 3 * k + 5 < recursionLimit
 un : A.units + 16 * k + 200 < cLine
theorem Room.mono {j k : Nat} {A : Around} (r : Room k A) (h : j <= k) : Room j A := ⟨r.hd, by have := r.dp; omega, by have := r.un; omega⟩
theorem Room.deeper {k : Nat} {A : Around} (r : Room (k + 1) A) (env : Env) : Room k (A.deeper env) :=
 ⟨r.hd, by have := r.dp; show A.depth + 1 + 3 * k + 5 < _; omega, by have := r.un; show A.units + 3 + 16 * k + 200 < _; omega⟩
theorem qgh {A : Around} {C : Addr} {us : List Value} {kw : List (Str × Value)} : (A.under (.builtin "type.__call__" ⟨.ref C :: us, kw⟩)).depth = A.depth + 1 := by
 first | rfl | simp [Around.under, Code.weight, Code.isCreation, Code.isGuard, Code.isCaller, Code.frames, Code.isFrame, guardIds]
theorem qgg {A : Around} {C : Addr} {us : List Value} {kw : List (Str × Value)} : (A.under (.builtin "type.__call__" ⟨.ref C :: us, kw⟩)).units = A.units + 1 := by
 first | rfl | simp [Around.under, Code.cUnits, Code.frames, Code.isFrame]
theorem Room.make {k : Nat} {A : Around} (r : Room (k + 1) A) (C : Addr) (us : List Value) (kw : List (Str × Value)) : Room k (A.under (.builtin "type.__call__" ⟨.ref C :: us, kw⟩)) :=
 ⟨r.hd, by have := r.dp; rw [qgh]; omega, by have := r.un; rw [qgg]; omega⟩
theorem Room.depth {k : Nat} {A : Around} (r : Room k A) : A.depth < recursionLimit := by have := r.dp; omega
theorem Room.units {k : Nat} {A : Around} (r : Room k A) : A.units + 64 < cLine := by have := r.un; omega
def tNil : TA := fun _ H Q => Q [] H
def tCons (ta : TE) (tr : TA) : TA := fun σ H Q => ta σ H fun x H1 => tr σ H1 fun xs H2 => Q (x :: xs) H2
section
variable {X : Cx} {e : Expr} {es : List Expr} {te : TE} {t : TA} {pos : Pos}
theorem qad : PA X [] tNil := fun _ _ _ _ H Q I h => Calls.spliced_nil ⟨[], H, I, .nil, h⟩
theorem qaa (ha : PE X e te) (hr : PA X es t) (hs : starEach (e :: es) X.env = (false, eval e X.env) :: starEach es X.env := by rfl) : PA X (e :: es) (tCons te t) := by
 intro pos pins s σ H Q I h
 rw [hs]
 show wpAny _ _ (spliced ((false, eval e X.env) :: backTo pos (starEach es X.env))) _ _ s
 refine Calls.spliced_cons (thn (ha pins s σ H _ I h) fun u s1 ⟨x, H1, I1, r1, q1⟩ => ?_)
 exact thn (hr pos pins s1 σ H1 _ I1 q1) fun us s2 ⟨xs, H2, I2, r2, q2⟩ => ⟨x :: xs, H2, I2, .cons r1 r2, q2⟩
def tTup (t : TA) : TE := fun σ H Q => t σ H fun xs H1 => xs.length <= sizeLine /\ ∀ p, H1 p = none -> Q (.ref p) (upd H1 p (.tup xs))
def tLst (t : TA) : TE := fun σ H Q => t σ H fun xs H1 => xs.length <= sizeLine /\ ∀ p, H1 p = none -> Q (.ref p) (upd H1 p (.lst xs))
theorem qiP {x1} (h : PA X es t) : PE X (.Tuple es x1 pos) (tTup t) := by
 intro pins s σ H Q I hq
 refine wpAny_Tuple_spliced (thn (h pos pins s σ H _ I hq) fun us s1 ⟨xs, H1, I1, r, z, q⟩ => ⟨by rw [<- r.length]; exact z, ?_⟩)
 have hf : H1 s1.heap.objs.size = none := I1.hok.fresh (Nat.le_refl _)
 refine ⟨.ref s1.heap.objs.size, upd H1 s1.heap.objs.size (.tup xs), I1.laid (t' := s1.toks) (fun b u e => Heap.get?_push_of_some _ e) (Nat.le_refl _) ?_, rfl, q _ hf⟩
 exact ⟨z, us, r, ⟨_, Heap.get?_push_size _ rfl, rfl, _, rfl⟩⟩
theorem qaB (h : PA X es t) : PE X (.List es pos) (tLst t) := by
 intro pins s σ H Q I hq
 refine wpAny_List_spliced (thn (h pos pins s σ H _ I hq) fun us s1 ⟨xs, H1, I1, r, z, q⟩ => ⟨by rw [<- r.length]; exact z, ?_⟩)
 have hf : H1 s1.heap.objs.size = none := I1.hok.fresh (Nat.le_refl _)
 refine ⟨.ref s1.heap.objs.size, upd H1 s1.heap.objs.size (.lst xs), I1.laid (t' := s1.toks) (fun b u e => Heap.get?_push_of_some _ e) (Nat.le_refl _) ?_, rfl, q _ hf⟩
 exact ⟨z, us, 0, r, Heap.get?_push_size _ rfl⟩
end
abbrev Sp := List V -> Hp -> VK -> XK -> Prop
abbrev CXT := List Env -> Hp -> Shared -> XK -> Value -> Shared -> Prop
structure Env0 (P : Program) (w : World) (K : PySem.W.Frag) (mg : Str -> Option Value) (base : Heap) (A : Around) (outer : List Env) (s : Shared) (H : Hp) : Prop where
 frames : A.frames = some outer
 mod : Mod K mg base
 bs : ∀ b o, base.get? b = some o -> s.heap.get? b = some o /\ H b = none
 bsz : base.objs.size <= s.heap.objs.size
 funs : s.heap.FunFrames base outer
 frf : ∀ b ∈ frs outer, H b = none
 hok : HOk P w H s.heap
 bare : AllBare s.gens
def CE (outer : List Env) (P : Program) (w : World) (H : Hp) (s : Shared) (Q : VK) (u : Value) (s' : Shared) : Prop :=
 ∃ v H', s'.os = s.os /\ AllBare s'.gens /\ Un (frs outer) [] H H' s.heap s'.heap /\ HOk P w H' s'.heap /\ RelV v u /\ Q v H'
def CR (CX : CXT) (outer : List Env) (P : Program) (w : World) (H : Hp) (s : Shared) (Q : VK) (E : XK) (r : Result) (s' : Shared) : Prop :=
 match r with
 | .ok (.ret u) => CE outer P w H s Q u s'
 | .ok _ => False
 | .error e => CX outer H s E e s'
structure FnOk (P : Program) (w : World) (K : PySem.W.Frag) (mg : Str -> Option Value) (base : Heap) (CX : CXT) (k : Nat) (f : Addr) (fd : FuncData) (ps : List Str) (sp : Sp) : Prop where
 len : ∀ vs H Q E, sp vs H Q E -> vs.length = ps.length
 run : ∀ (A : Around) (outer : List Env) (s : Shared) (H : Hp) (args : Args) (us : List Value) (vs : List V) (Q : VK) (E : XK), Room k A -> Env0 P w K mg base A outer s H -> BindsTo s fd args (ps.zip us) -> Vals vs us -> sp vs H Q E ->
  codeAny (model P w) A (.call (.ref f) args) (CR CX outer P w H s Q E) s
theorem Env0.make {P : Program} {w : World} {K : PySem.W.Frag} {mg : Str -> Option Value} {base : Heap} {A : Around} {outer : List Env} {s : Shared} {H : Hp} (e : Env0 P w K mg base A outer s H) (C : Addr) (us : List Value) (kw : List (Str × Value)) :
  Env0 P w K mg base (A.under (.builtin "type.__call__" ⟨.ref C :: us, kw⟩)) outer s H := ⟨by first | exact e.frames | (simpa [Around.under, Code.envs, Code.isFrame, pushEnvs] using e.frames), e.mod, e.bs, e.bsz, e.funs, e.frf, e.hok, e.bare⟩
section
variable {X : Cx} {pins : List (Addr × Obj)} {σ : St} {H : Hp} {s s' : Shared}
theorem Inv.env0 (I : Inv X pins σ H s) : Env0 X.prog X.w X.K X.mg X.base X.A X.stack s H :=
 ⟨I.ok.frames, I.ok.mod, I.bs, Nat.le_trans I.ok.bsz I.sz, I.stack, I.stkFree, I.hok, I.bare⟩
theorem Inv.after {Q : VK} {u : Value} (I : Inv X pins σ H s) (h : CE X.stack X.prog X.w H s Q u s') : EP X pins σ Q u s' := by
 obtain ⟨v, H', os, bare, un, hok, r, q⟩ := h
 obtain ⟨hh, g, d, t, os'⟩ := s'
 obtain rfl : os' = s.os := os
 exact ⟨v, H', I.call (h' := hh) (g' := g) (d' := d) (t' := t) (ch := []) un hok bare (fun b z => absurd z (by simp)), r, q⟩
end
def tCall (sp : Sp) (dvs : List V) (E : XK) (t : TA) : TE := fun σ H Q => t σ H fun vs H1 => sp (vs ++ dvs) H1 Q E
def tMeth (C : Addr) (m : Str) (sp : Sp) (dvs : List V) (E : XK) (ta : TE) (t : TA) : TE := fun σ H Q => ta σ H fun x H1 => ∃ a dx fs, x = .ref a /\ H1 a = some (.ins C dx fs) /\ fs.lookup m = none /\
 t σ H1 fun vs H2 => sp (x :: (vs ++ dvs)) H2 Q E
def tMake (C : Addr) (sp : Sp) (dvs : List V) (E : XK) (t : TA) : TE := fun σ H Q => t σ H fun vs H1 => ∀ x dx, H1 x = none -> H1 dx = none -> dx ≠ x ->
 sp (.ref x :: (vs ++ dvs)) (upd (upd H1 dx (.own x)) x (.ins C dx [])) (fun v H2 => v = .non /\ Q (.ref x) H2) E
def Binds (K : PySem.W.Frag) (fd : FuncData) (ps : List Str) (ds : List Value) : Prop :=
 ∀ (s : Shared) (us : List Value), K.In s.heap -> (us ++ ds).length = ps.length -> BindsTo s fd ⟨us, []⟩ (ps.zip (us ++ ds))
theorem Binds.all {K : PySem.W.Frag} {fd : FuncData} {ps : List Str} (h : ∀ us : List Value, us.length = ps.length -> bindArgs fd ⟨us, []⟩ = pure (ps.zip us)) : Binds K fd ps [] := fun s us _ hl => by
 rw [List.append_nil] at hl ⊢
 exact .of_eq (h us hl)
def Passes (CX : CXT) (X : Cx) (E : XK) : Prop := ∀ (pins : List (Addr × Obj)) (σ : St) (H : Hp) (s : Shared) (e : Value) (s' : Shared), Inv X pins σ H s -> CX X.stack H s E e s' -> X.xe e s'
section
variable {X : Cx} {CX : CXT} {k : Nat} {f C : Addr} {fd : FuncData} {ps : List Str} {sp : Sp} {dvs : List V} {ds : List Value} {E : XK} {x m : Str} {p pos apos : Pos} {e o : Expr} {es : List Expr} {ta : TE} {t : TA}
theorem qfW {pins : List (Addr × Obj)} {σ : St} {H : Hp} {s : Shared} {Q : VK} {us : List Value} {vs : List V} (F : FnOk X.prog X.w X.K X.mg X.base CX k f fd ps sp) (hr : Room k X.A) (hb : Binds X.K fd ps ds) (hd : Vals dvs ds) (hx : Passes CX X E)
  (I : Inv X pins σ H s) (r : Vals vs us) (h : sp (vs ++ dvs) H Q E) : wpAny (model X.prog X.w) X.A (call (.ref f) us) (EP X pins σ Q) X.xe s := by
 have r2 : Vals (vs ++ dvs) (us ++ ds) := r.append hd
 have hl : (us ++ ds).length = ps.length := by rw [<- r2.length]; exact F.len _ _ _ _ h
 refine wpAny_call (codeAny_mono (F.run X.A X.stack s H ⟨us, []⟩ (us ++ ds) (vs ++ dvs) Q E hr I.env0 (hb s us I.kIn hl) r2 h) fun r s' hq => ?_)
 cases r with
 | error e => exact hx pins σ H s e s' I hq
 | ok fl =>
  cases fl with
  | ret u => exact I.after hq
  | next => exact False.elim hq
  | brk => exact False.elim hq
  | cont => exact False.elim hq
theorem qaw (F : FnOk X.prog X.w X.K X.mg X.base CX k f fd ps sp) (hr : Room k X.A) (hg : Gl X x) (hm : X.mg x = some (.ref f)) (hk : PySem.W.keepIn X.K (.ref f) = true) (hb : Binds X.K fd ps ds) (hd : Vals dvs ds) (hx : Passes CX X E)
  (ha : PA X (e :: es) t) (hdb : (x == ("__debug__" : Str)) = false := by decide) (he : starEach (e :: es) X.env = (false, eval e X.env) :: starEach es X.env := by rfl) (hpl : (backTo pos (starEach es X.env)).any (·.1) = false := by rfl) :
  PE X (.Call (.Name x p) (e :: es) [] pos) (tCall sp dvs E t) := by
 intro pins s σ H Q I h
 refine wpAny_Call_Name_kw (qdR I hg hm ?_ hdb)
 refine PySem.W.callWith_K (h₀ := X.base) I.ok.mod.kin hk (thn (ha pos pins s σ H _ I h) fun us s1 ⟨vs, H1, I1, r, q⟩ => ⟨I1.kIn, ?_⟩) he hpl
 exact qfW F hr hb hd hx I1 r q
theorem qak {pl : Sem Bool} (he : PE X o ta) (c : Cls X.K C) (hm : Meth X.K C m f) (F : FnOk X.prog X.w X.K X.mg X.base CX k f fd ps sp) (hr : Room k X.A) (hb : Binds X.K fd ps ds) (hd : Vals dvs ds) (hx : Passes CX X E) (ha : PA X (e :: es) t)
  (hst : starEach (e :: es) X.env = (false, eval e X.env) :: starEach es X.env := by rfl) (hpl : (backTo pos (starEach es X.env)).any (·.1) = false := by rfl)
  (ht : eval (.Call (.Attribute o m apos) (e :: es) [] pos) X.env = (do
   let ov <- eval o X.env
   standAt apos.atName
   let (f, first) <- holding [ov] (getMethod ov m pl)
   callWith pos f first (backTo pos (starEach (e :: es) X.env)) (backToKw pos (keywordEach [] X.env))) := by rfl) :
  PE X (.Call (.Attribute o m apos) (e :: es) [] pos) (tMeth C m sp dvs E ta t) := by
 intro pins s σ H Q I h
 refine PySem.W.methodCall_KW (pl := pl) (thn (he pins s σ H _ I h) fun u s1 ⟨x, H1, I1, rx, a, dx, fs, ex, ea, l, q⟩ => ?_) ht
 subst ex
 obtain rfl : u = Value.ref a := rx
 refine qcF I1 ea c hm l ?_
 refine PySem.W.callWith_K (first := [.ref a]) (h₀ := X.base) I.ok.mod.kin hm.kp (thn (ha pos pins s1 σ H1 _ I1 q) fun us s2 ⟨vs, H2, I2, r, q2⟩ => ⟨I2.kIn, ?_⟩) hst hpl
 exact qfW (us := .ref a :: us) (vs := .ref a :: vs) F hr hb hd hx I2 (.cons rfl r) q2
theorem qas {pl : Sem Bool} (he : PE X o ta) (c : Cls X.K C) (hm : Meth X.K C m f) (F : FnOk X.prog X.w X.K X.mg X.base CX k f fd ps sp) (hr : Room k X.A) (hb : Binds X.K fd ps ds) (hd : Vals dvs ds) (hx : Passes CX X E)
  (ht : eval (.Call (.Attribute o m apos) [] [] pos) X.env = (do
   let ov <- eval o X.env
   standAt apos.atName
   let (f, first) <- holding [ov] (getMethod ov m pl)
   callWith pos f first (backTo pos (starEach [] X.env)) (backToKw pos (keywordEach [] X.env))) := by rfl) :
  PE X (.Call (.Attribute o m apos) [] [] pos) (tMeth C m sp dvs E ta tNil) := by
 intro pins s σ H Q I h
 refine PySem.W.methodCall_KW (pl := pl) (thn (he pins s σ H _ I h) fun u s1 ⟨x, H1, I1, rx, a, dx, fs, ex, ea, l, q⟩ => ?_) ht
 subst ex
 obtain rfl : u = Value.ref a := rx
 refine qcF I1 ea c hm l ?_
 exact PySem.W.callWith_K0 (first := [.ref a]) I1.kIn hm.kp (qfW (us := [.ref a]) (vs := [.ref a]) F hr hb hd hx I1 (.cons rfl .nil) q)
structure Mk (K : PySem.W.Frag) (C f : Addr) : Prop where
 makes : PySem.W.makesIn K C = true
 init : PySem.W.findIn K (.ref C) "__init__" = some (some (.ref f))
 fn : PySem.W.isFn K (.ref f) = true
 kp : PySem.W.keepIn K (.ref C) = true
theorem qfE {pins : List (Addr × Obj)} {σ : St} {H : Hp} {s : Shared} {Q : VK} {us : List Value} {vs : List V} (M : Mk X.K C f) (F : FnOk X.prog X.w X.K X.mg X.base CX k f fd ps sp) (hr : Room (k + 1) X.A) (hb : Binds X.K fd ps ds) (hd : Vals dvs ds)
  (hx : Passes CX X E) (I : Inv X pins σ H s) (r : Vals vs us)
  (h : ∀ x dx, H x = none -> H dx = none -> dx ≠ x -> sp (.ref x :: (vs ++ dvs)) (upd (upd H dx (.own x)) x (.ins C dx [])) (fun v H2 => v = .non /\ Q (.ref x) H2) E) :
  wpAny (model X.prog X.w) X.A (call (.ref C) us) (EP X pins σ Q) X.xe s := by
 have hq := h (s.heap.objs.size + 1) s.heap.objs.size (I.hok.fresh (Nat.le_succ _)) (I.hok.fresh (Nat.le_refl _)) (Nat.ne_of_lt (Nat.lt_succ_self _))
 have I2 := Inv.made (C := C) I
 have r2 : Vals (V.ref (s.heap.objs.size + 1) :: (vs ++ dvs)) (Value.ref (s.heap.objs.size + 1) :: (us ++ ds)) := .cons rfl (r.append hd)
 have hl : (Value.ref (s.heap.objs.size + 1) :: us ++ ds).length = ps.length := by
  have e := r2.length
  rw [F.len _ _ _ _ hq] at e
  exact e.symm
 refine wpAny_call (qh6 (f := f) I.kIn M.makes M.init (beq_iff_eq.mp M.fn) (codeAny_mono (F.run _ X.stack _ _ ⟨Value.ref (s.heap.objs.size + 1) :: us, []⟩ (Value.ref (s.heap.objs.size + 1) :: (us ++ ds)) _ _ E (hr.make C us [])
  (I2.env0.make C us []) (hb _ (Value.ref (s.heap.objs.size + 1) :: us) I2.kIn hl) r2 hq) fun r s' hq' => ?_))
 cases r with
 | error e => exact hx pins σ _ _ e s' I2 hq'
 | ok fl =>
  cases fl with
  | ret u =>
   obtain ⟨v, H', I3, rv, ev, q3⟩ := I2.after hq'
   subst ev
   exact ⟨rv, ⟨V.ref (s.heap.objs.size + 1), H', I3, rfl, q3⟩⟩
  | next => exact False.elim hq'
  | brk => exact False.elim hq'
  | cont => exact False.elim hq'
theorem qa8 (M : Mk X.K C f) (F : FnOk X.prog X.w X.K X.mg X.base CX k f fd ps sp) (hr : Room (k + 1) X.A) (hg : Gl X x) (hm : X.mg x = some (.ref C)) (hb : Binds X.K fd ps ds) (hd : Vals dvs ds) (hx : Passes CX X E)
  (ha : PA X (e :: es) t) (hdb : (x == ("__debug__" : Str)) = false := by decide) (he : starEach (e :: es) X.env = (false, eval e X.env) :: starEach es X.env := by rfl) (hpl : (backTo pos (starEach es X.env)).any (·.1) = false := by rfl) :
  PE X (.Call (.Name x p) (e :: es) [] pos) (tMake C sp dvs E t) := by
 intro pins s σ H Q I h
 refine wpAny_Call_Name_kw (qdR I hg hm ?_ hdb)
 refine PySem.W.callWith_K (h₀ := X.base) I.ok.mod.kin M.kp (thn (ha pos pins s σ H _ I h) fun us s1 ⟨vs, H1, I1, r, q⟩ => ⟨I1.kIn, ?_⟩) he hpl
 exact qfE M F hr hb hd hx I1 r q
theorem qeg (M : Mk X.K C f) (F : FnOk X.prog X.w X.K X.mg X.base CX k f fd ps sp) (hr : Room (k + 1) X.A) (hg : Gl X x) (hm : X.mg x = some (.ref C)) (hb : Binds X.K fd ps ds) (hd : Vals dvs ds) (hx : Passes CX X E)
  (hdb : (x == ("__debug__" : Str)) = false := by decide) : PE X (.Call (.Name x p) [] [] pos) (tMake C sp dvs E tNil) := by
 intro pins s σ H Q I h
 refine wpAny_Call_Name_kw (qdR I hg hm ?_ hdb)
 exact PySem.W.callWith_K0 I.kIn M.kp (qfE (us := []) M F hr hb hd hx I .nil h)
end
structure FnScope (N P : List Str) (sc : Scope) : Prop where
 kind : sc.kind = .function
 co : sc.isCoroutine = false
 gen : sc.isGenerator = false
 nd : N.Nodup
 pre : N.take P.length = P
 par : ∀ x ∈ P, sc.names.lookup x = some .local \/ sc.names.lookup x = some .cell
 nofree : ∀ y ∈ sc.names, y.2 ≠ .free
theorem qep {kindOf : Str -> Option NameKind} {x : Str} : ∀ {binds : List (Str × Value)} {m : Str -> Option Value}, (∀ v, (x, v) ∉ binds) -> bindL kindOf binds m x = m x
 | [], _, _ => rfl
 | (n, v) :: r, m, h => by
  unfold bindL
  rw [qep fun w hw => h w (List.mem_cons_of_mem _ hw)]
  split
  ·have : x ≠ n := by rintro rfl; exact h v List.mem_cons_self
   simp [this]
  ·rfl
theorem qeM {kindOf : Str -> Option NameKind} {x : Str} : ∀ {binds : List (Str × Value)} {m : Str -> Option Value}, (∀ v, (x, v) ∉ binds) -> bindC kindOf binds m x = m x
 | [], _, _ => rfl
 | (n, v) :: r, m, h => by
  unfold bindC
  rw [qeM fun w hw => h w (List.mem_cons_of_mem _ hw)]
  split
  ·rfl
  ·have : x ≠ n := by rintro rfl; exact h v List.mem_cons_self
   simp [this]
theorem qe1 {kindOf : Str -> Option NameKind} {x : Str} {v : Value} : ∀ {P : List Str} {vs : List Value} {i : Nat} {m : Str -> Option Value}, P.Nodup -> P[i]? = some x -> vs[i]? = some v -> kindOf x = some .local ->
  bindL kindOf (P.zip vs) m x = some v
 | [], _, _, _, _, h, _, _ => by simp at h
 | _ :: _, [], _, _, _, _, h, _ => by simp at h
 | p :: P, w :: vs, 0, m, nd, h1, h2, hk => by
  simp at h1 h2; subst h1; subst h2
  show bindL kindOf ((p, w) :: P.zip vs) m p = _
  unfold bindL
  rw [qep fun v hv => (List.nodup_cons.mp nd).1 (List.of_mem_zip hv).1, if_pos hk]
  simp
 | p :: P, w :: vs, i + 1, m, nd, h1, h2, hk => by
  show bindL kindOf ((p, w) :: P.zip vs) m x = _
  unfold bindL
  exact qe1 (i := i) (List.nodup_cons.mp nd).2 (by simpa using h1) (by simpa using h2) hk
theorem qeZ {kindOf : Str -> Option NameKind} {x : Str} {v : Value} : ∀ {P : List Str} {vs : List Value} {i : Nat} {m : Str -> Option Value}, P.Nodup -> P[i]? = some x -> vs[i]? = some v -> kindOf x ≠ some .local ->
  bindC kindOf (P.zip vs) m x = some v
 | [], _, _, _, _, h, _, _ => by simp at h
 | _ :: _, [], _, _, _, _, h, _ => by simp at h
 | p :: P, w :: vs, 0, m, nd, h1, h2, hk => by
  simp at h1 h2; subst h1; subst h2
  show bindC kindOf ((p, w) :: P.zip vs) m p = _
  unfold bindC
  rw [qeM fun v hv => (List.nodup_cons.mp nd).1 (List.of_mem_zip hv).1, if_neg hk]
  simp
 | p :: P, w :: vs, i + 1, m, nd, h1, h2, hk => by
  show bindC kindOf ((p, w) :: P.zip vs) m x = _
  unfold bindC
  exact qeZ (i := i) (List.nodup_cons.mp nd).2 (by simpa using h1) (by simpa using h2) hk
def start (N : List Str) (vs : List V) : St := vs.map some ++ List.replicate (N.length - vs.length) none
def cxOf (CX : CXT) (P : Program) (w : World) (K : PySem.W.Frag) (mg : Str -> Option Value) (base : Heap) (N : List Str) (qual : Str) (scope : Scope) (f : Addr) (cd : Value) (A : Around) (outer : List Env) (s : Shared) (H : Hp) (E : XK) : Cx where
 prog := P
 w := w
 K := K
 mg := mg
 base := base
 A := A.deeper (envOfC qual scope s.heap.objs.size f cd)
 N := N
 s₀ := s
 H₀ := H
 env := envOfC qual scope s.heap.objs.size f cd
 outer := outer
 stack := envOfC qual scope s.heap.objs.size f cd :: outer
 ex := []
 calm := true
 fn := fun _ => true
 pn := []
 xe := fun e s' => wpAny (model P w) (A.deeper (envOfC qual scope s.heap.objs.size f cd)) (leaving (envOfC qual scope s.heap.objs.size f cd) e) (fun _ s'' => CX outer H s E e s'') (fun e' s'' => CX outer H s E e' s'') s'
theorem qfR {sc : Scope} {n : Nat} {x : Str} (h : sc.names.lookup x = some .cell) : ∃ c, (cellsFrom n sc.names []).lookup x = some c := by
 have q := PySem.W.cellsFrom_some sc.names n [] (.inl h)
 exact Option.isSome_iff_exists.mp q
theorem qhB {CX : CXT} {P : Program} {w : World} {K : PySem.W.Frag} {mg : Str -> Option Value} {base : Heap} {N ps : List Str} {qual : Str} {scope : Scope} {f : Addr} {cd : Value} {A : Around} {outer : List Env} {s s1 : Shared} {H : Hp} {E : XK} {us : List Value} {vs : List V}
  (S : FnScope N ps scope) (hd : A.handled = none) (e0 : Env0 P w K mg base A outer s H) (hl : vs.length = ps.length) (r : Vals vs us)
  (x : InCallC s s.heap.objs.size (bindL (envOfC qual scope s.heap.objs.size f cd).kindOf (ps.zip us) fun _ => none) (cellsFrom (s.heap.objs.size + 1) scope.names []) (bindC (envOfC qual scope s.heap.objs.size f cd).kindOf (ps.zip us) fun _ => none) s1) :
  Inv (cxOf CX P w K mg base N qual scope f cd A outer s H E) [] (start N vs) H s1 := by
 have hpl : ps.length <= N.length := by have := congrArg List.length S.pre; rw [List.length_take] at this; omega
 obtain ⟨h1, tk, rfl, hk⟩ := x.done
 have noA : ∀ b : Addr, b ∉ (cxOf CX P w K mg base N qual scope f cd A outer s H E).ex := fun b z => absurd (show b ∈ ([] : List Addr) from z) (by simp)
 refine ⟨⟨e0.mod, S.kind, rfl, rfl, Nat.le_refl _, fun y z c h1 h2 => ?_, fun y hy => ?_, fun y c _ h => ?_, fun _ => hd, Around.frames_deeper e0.frames, .inr ⟨rfl, rfl⟩, fun b z => absurd z (noA b), e0.bs, e0.bsz, fun b _ _ => noA b, fun b z => absurd z (noA b), e0.funs, e0.frf⟩,
  rfl, e0.bare, Un.kept hk, ⟨_, x.toInCall.ns, fun i y v h1 h2 h3 => ?_⟩, fun y c h => ⟨_, x.cell y c h⟩, e0.hok.fresh (Nat.le_refl _), fun y c h => ?_, fun p hp => absurd (show p ∈ ([] : List (Addr × Obj)) from hp) (by simp), e0.hok.kept hk, ?_⟩
 ·exact name_of_addr x.apart (PySem.mem_of_lookup h1) (PySem.mem_of_lookup h2)
 ·have hy : scope.names.lookup y = some .cell \/ scope.names.lookup y = some .free := hy
  rcases hy with hy | hy
  ·exact qfR hy
  ·exact absurd rfl (S.nofree _ (PySem.mem_of_lookup hy))
 ·exact Nat.le_of_lt (x.above y c (PySem.mem_of_lookup h))
 ·have hi : i < vs.length := by
   unfold start at h2
   by_cases hi : i < vs.length
   ·exact hi
   ·rw [List.getElem?_append_right (by simpa using hi)] at h2
    rw [List.getElem?_replicate] at h2
    split at h2 <;> cases h2
  have ha : vs[i]? = some v := by
   unfold start at h2
   rw [List.getElem?_append_left (by simpa using hi), List.getElem?_map] at h2
   cases e : vs[i]? with
   | none => rw [e] at h2; cases h2
   | some a => rw [e] at h2; cases h2; rfl
  obtain ⟨u, hu, rv⟩ := r.get ha
  have hp : ps[i]? = some y := by
   rw [<- S.pre, List.getElem?_take_of_lt (by omega)]; exact h1
  have ndP : ps.Nodup := by rw [<- S.pre]; exact S.nd.sublist (List.take_sublist _ _)
  refine ⟨u, rv, ?_⟩
  rcases S.par y (List.mem_of_getElem? hp) with k | k
  ·exact .inl ⟨k, qe1 ndP hp hu k⟩
  ·obtain ⟨c, e⟩ := qfR (n := s.heap.objs.size + 1) k
   refine .inr ⟨.inl k, c, e, ?_⟩
   have q := x.cell y c e
   rw [qeZ ndP hp hu (by show scope.names.lookup y ≠ _; rw [k]; decide)] at q
   exact q
 ·exact e0.hok.fresh (Nat.le_of_lt (x.above y c (PySem.mem_of_lookup h)))
 ·unfold start
  show _ = N.length
  rw [List.length_append, List.length_map, List.length_replicate]
  omega
theorem fn_of {CX : CXT} {P : Program} {w : World} {K : PySem.W.Frag} {mg : Str -> Option Value} {base : Heap} {k : Nat} {f : Addr} {name qual : Str} {params : Arguments} {body : List Stmt} {scope : Scope} {dV kV doc pm cdv ct oc : Value} {an od : Option Addr}
  {osl : Array (Option Value)} {N ps : List Str} {sp : Sp} (lk : K.lookup f = some ⟨oc, od, .func (PySem.W.fnOf name qual params body scope dV kV doc pm an cdv ct), osl⟩) (hcd : PySem.W.codeIn K cdv qual = true) (S : FnScope N ps scope)
  (len : ∀ vs H Q E, sp vs H Q E -> vs.length = ps.length)
  (hbody : ∀ (A : Around) (outer : List Env) (s : Shared) (H : Hp) (vs : List V) (Q : VK) (E : XK), Room k (A.deeper (envOfC qual scope s.heap.objs.size f cdv)) -> sp vs H Q E ->
   ∃ t, PSs (cxOf CX P w K mg base N qual scope f cdv A outer s H E) body t /\ t { nx := fun _ H' => Q .non H', rt := Q } (start N vs) H) :
  FnOk P w K mg base CX (k + 1) f (PySem.W.fnOf name qual params body scope dV kV doc pm an cdv ct) ps sp := by
 refine ⟨len, fun A outer s H args us vs Q E hr e0 hb r hsp => ?_⟩
 have hl := len _ _ _ _ hsp
 have KX : K.In s.heap := e0.mod.kin.keeps fun b o e => (e0.bs b o e).1
 have lim : s.heap.NoLimit := e0.mod.nolimit.keeps fun b o e => (e0.bs b o e).1
 have hkind : ∀ y ∈ ps.zip us, scope.names.lookup y.1 = some .local \/ (scope.names.lookup y.1 = some .cell /\ ((cellsFrom (s.heap.objs.size + 1) scope.names []).lookup y.1).isSome = true) := fun ⟨n, v⟩ hy => by
  rcases S.par n (List.of_mem_zip hy).1 with q | q
  ·exact .inl q
  ·exact .inr ⟨q, PySem.W.cellsFrom_some _ _ _ (.inl q)⟩
 refine codeAny_call_function hr.depth (KX _ _ lk) rfl S.co S.gen rfl (PySem.W.codeRec_of KX hcd) (hb _ _ _ _ ?_)
 refine wpAny_newFunctionEnv_cells S.kind hkind fun env he s1 x => ?_
 subst he
 refine ⟨lim.keeps x.toInCall.keep, codeAny_func ?_⟩
 obtain ⟨t, ht, hq⟩ := hbody A outer s H vs Q E (hr.deeper _) hsp
 have I : Inv (cxOf CX P w K mg base N qual scope f cdv A outer s H E) [] (start N vs) H s1 := qhB S hr.hd e0 hl r x
 refine wpAny_mono (ht [] s1 (start N vs) H _ I hq) (fun fl s' hs => ?_) fun e s' hs => hs
 have fin : ∀ {σ' : St} {H' : Hp} {v : V} {u : Value}, Inv (cxOf CX P w K mg base N qual scope f cdv A outer s H E) [] σ' H' s' -> RelV v u -> Q v H' -> CE outer P w H s Q u s' :=
  fun {σ' H' v u} J rv q => ⟨v, H', J.os, J.bare, J.base, J.hok, rv, q⟩
 cases fl with
 | ret u =>
  obtain ⟨v, σ', H', J, rv, q⟩ := hs
  exact fin J rv q
 | next =>
  obtain ⟨σ', H', J, q⟩ := hs
  exact fin (v := V.non) (u := Value.none) J rfl q
 | brk =>
  obtain ⟨_, _, _, q⟩ := hs
  exact False.elim q
 | cont =>
  obtain ⟨_, _, _, q⟩ := hs
  exact False.elim q
end L2
namespace L2
open PySem PySem.Spec PyProof.Rows
section
variable {X : Cx} {x : Str} {p pos : Pos} {e : Expr} {es : List Expr} {t : TA} {id T : String} {r : List V -> Hp -> VK -> Prop}
def tCB (r : List V -> Hp -> VK -> Prop) (t : TA) : TE := fun σ H Q => t σ H fun vs H1 => r vs H1 Q
theorem qav (hc : CallR X (.builtin id) r) (hg : Gl X x) (hm : X.mg x = none) (hv : bootBuiltins x = some (.builtin id)) (ha : PA X (e :: es) t) (hn : x ≠ "__name__" := by decide) (hdb : (x == ("__debug__" : Str)) = false := by decide)
  (he : starEach (e :: es) X.env = (false, eval e X.env) :: starEach es X.env := by rfl) (hpl : (backTo pos (starEach es X.env)).any (·.1) = false := by rfl) : PE X (.Call (.Name x p) (e :: es) [] pos) (tCB r t) := by
 intro pins s σ H Q I h
 refine wpAny_Call_Name_kw (qfJ I hg hm hv ?_ hn hdb)
 exact PyProof.Rows.callWith_builtin1 (thn (ha pos pins s σ H _ I h) fun us s1 ⟨vs, H1, I1, r1, q1⟩ => hc pins s1 σ H1 vs us Q I1 r1 q1) he hpl
theorem qeW (hc : CallR X (.type T) r) (hg : Gl X x) (hm : X.mg x = none) (hv : bootBuiltins x = some (.type T)) (ha : PA X (e :: es) t) (hn : x ≠ "__name__" := by decide) (hdb : (x == ("__debug__" : Str)) = false := by decide)
  (he : starEach (e :: es) X.env = (false, eval e X.env) :: starEach es X.env := by rfl) (hpl : (backTo pos (starEach es X.env)).any (·.1) = false := by rfl) : PE X (.Call (.Name x p) (e :: es) [] pos) (tCB r t) := by
 intro pins s σ H Q I h
 refine wpAny_Call_Name_kw (qfJ I hg hm hv ?_ hn hdb)
 exact PyProof.Rows.callWith_type1 (thn (ha pos pins s σ H _ I h) fun us s1 ⟨vs, H1, I1, r1, q1⟩ => hc pins s1 σ H1 vs us Q I1 r1 q1) he hpl
end
end L2
namespace HT
open PySem PyProof.Rows
section
variable {prog : Program} {w : World} {A : Around} {E : Value -> Shared -> Prop} {s : Shared}
def sIx (n d : Nat) : Option Int -> Nat
 | none => d
 | some v => if v < 0 then (v + (n : Int)).toNat else min v.toNat n
end
end HT
namespace L2
open PySem PySem.Spec PyProof.Rows
abbrev TO := St -> Hp -> (Option Int -> Hp -> Prop) -> Prop
def PO (X : Cx) (e : Option Expr) (t : TO) : Prop :=
 ∀ (pins : List (Addr × Obj)) (s : Shared) (σ : St) (H : Hp) (Q : Option Int -> Hp -> Prop), Inv X pins σ H s -> t σ H Q ->
  wpAny (model X.prog X.w) X.A (evalPart e X.env) (fun u s' => ∃ o H', Inv X pins σ H' s' /\ IsPart u o /\ Q o H') X.xe s
def tNoPart : TO := fun _ H Q => Q none H
def tPart (t : TE) : TO := fun σ H Q => t σ H fun x H1 => ∃ i, x = .int i /\ Q (some i) H1
section
variable {X : Cx} {e : Expr} {te : TE} {lo hi : Option Expr} {tl th : TO} {pos p2 : Pos}
theorem qci : PO X none tNoPart := by
 intro pins s σ H Q I h
 rw [evalPart_none]
 exact wpAny_pure ⟨none, H, I, .none, h⟩
theorem qaP (h : PE X e te) : PO X (some e) (tPart te) := by
 intro pins s σ H Q I hw
 rw [evalPart_some]
 refine thn (h pins s σ H _ I hw) fun u s1 ⟨x, H1, I1, r1, q1⟩ => ?_
 obtain ⟨i, rfl, q⟩ := q1
 obtain ⟨t, rfl⟩ := r1
 exact ⟨some i, H1, I1, .int i t, q⟩
def SlR (X : Cx) (r : V -> Option Int -> Option Int -> Hp -> VK -> Prop) : Prop :=
 ∀ (pins : List (Addr × Obj)) (s : Shared) (σ : St) (H : Hp) (x : V) (v vl vu : Value) (lo hi : Option Int) (sl : Addr) (Q : VK), Inv X pins σ H s -> RelV x v -> s.heap.IsSliceOf sl vl vu .none -> IsPart vl lo -> IsPart vu hi -> r x lo hi H Q ->
  ∃ T id, typeLookup (.type T) "__getitem__" = pure (some (.builtin id)) /\ s.TypeIs v T /\ wpAny (model X.prog X.w) X.A (getItem v (.ref sl)) (EP X pins σ Q) X.xe s
def tSl (r : V -> Option Int -> Option Int -> Hp -> VK -> Prop) (te : TE) (tl th : TO) : TE := fun σ H Q => te σ H fun x H1 => tl σ H1 fun l H2 => th σ H2 fun u H3 => r x l u H3 Q
theorem qaZ {r : V -> Option Int -> Option Int -> Hp -> VK -> Prop} (hr : SlR X r) (he : PE X e te) (hl : PO X lo tl) (hu : PO X hi th) : PE X (.Subscript e (.Slice lo hi none p2) pos) (tSl r te tl th) := by
 intro pins s σ H Q I h
 refine Subscript_ (thn (he pins s σ H _ I h) fun v s1 ⟨x, H1, I1, r1, q1⟩ => ?_)
 refine wpAny_Slice (thn (hl pins s1 σ H1 _ I1 q1) fun vl s2 ⟨l, H2, I2, pl, q2⟩ => thn (hu pins s2 σ H2 _ I2 q2) fun vu s3 ⟨u, H3, I3, pu, q3⟩ => ?_)
 rw [evalPart_none]
 refine wpAny_pure ?_
 have I4 : Inv X pins σ H3 { s3 with heap := s3.heap.push { cls := .type "slice", data := .fields #[vl, vu, .none] } } := I3.kept (t' := s3.toks) fun b ob q => Heap.get?_push_of_some _ q
 obtain ⟨T, id, hT, ht, hg⟩ := hr pins { s3 with heap := s3.heap.push { cls := .type "slice", data := .fields #[vl, vu, .none] } } σ H3 x v vl vu l u s3.heap.objs.size Q I4 r1 (Heap.IsSliceOf.new ..) pl pu q3
 show wpAny (model X.prog X.w) X.A (subscriptTail e (.Slice lo hi none p2) v (.ref s3.heap.objs.size)) (EP X pins σ Q) X.xe { s3 with heap := s3.heap.push { cls := .type "slice", data := .fields #[vl, vu, .none] } }
 exact tail_any (ops := [.ref s3.heap.objs.size, v]) ht hT hg (by with_unfolding_all rfl)
def cutV (xs : List V) (lo hi : Option Int) : List V := (xs.drop (HT.sIx xs.length 0 lo)).take (HT.sIx xs.length xs.length hi - HT.sIx xs.length 0 lo)
theorem qfe (xs : List V) (lo hi : Option Int) : (cutV xs lo hi).length <= xs.length := by
 unfold cutV
 rw [List.length_take, List.length_drop]
 omega
end
end L2
namespace L2
open PySem PySem.Spec PyProof.Rows
def ixN (n : Nat) (i : Int) : Option Nat := if 0 <= i then (if i < n then some i.toNat else none) else if -(n : Int) <= i then some (i + n).toNat else none
def atI {α : Type} (xs : List α) (i : Int) : Option α := (ixN xs.length i).bind fun j => xs[j]?
theorem qlE {n : Nat} {i : Int} {j : Nat} (h : ixN n i = some j) : seqIndex? i n = some j /\ j < n /\ -(n : Int) <= i /\ i < n := by
 unfold ixN at h
 by_cases h0 : 0 <= i
 ·rw [if_pos h0] at h
  by_cases h1 : i < n
  ·rw [if_pos h1] at h
   have e : i.toNat = j := Option.some.inj h
   exact ⟨by rw [seqIndex_of h0 h1, e], by omega, by omega, h1⟩
  ·rw [if_neg h1] at h; cases h
 ·rw [if_neg h0] at h
  by_cases h1 : -(n : Int) <= i
  ·rw [if_pos h1] at h
   have e : (i + n).toNat = j := Option.some.inj h
   exact ⟨by rw [seqIndex_neg (by omega) h1, e], by omega, h1, by omega⟩
  ·rw [if_neg h1] at h; cases h
theorem qgL {α : Type} {xs : List α} {i : Int} {v : α} (h : atI xs i = some v) : ∃ j, seqIndex? i xs.length = some j /\ xs[j]? = some v /\ j < xs.length /\ -(xs.length : Int) <= i /\ i < xs.length := by
 unfold atI at h
 cases e : ixN xs.length i with
 | none => rw [e] at h; cases h
 | some j =>
  rw [e] at h
  obtain ⟨h1, h2, h3, h4⟩ := qlE e
  exact ⟨j, h1, h, h2, h3, h4⟩
theorem qbo {α : Type} {xs : List α} {j : Nat} {v : α} (h : xs[j]? = some v) : atI xs (j : Int) = some v := by
 have hj : j < xs.length := (List.getElem?_eq_some_iff.mp h).1
 have e : ixN xs.length (j : Int) = some j := by
  unfold ixN
  rw [if_pos (by omega), if_pos (by omega)]; simp
 unfold atI; rw [e]; exact h
def PlainIx (b : Expr) : Prop := ∀ o i, subscripted b false o i = operate [o, i] (getItem o i)
def IxR (X : Cx) (r : R2) : Prop :=
 ∀ (value slice : Expr) (pins : List (Addr × Obj)) (s : Shared) (σ : St) (H : Hp) (x y : V) (v u : Value) (Q : VK), Inv X pins σ H s -> RelV x v -> RelV y u -> r x y H Q ->
  subscripted slice false v u = operate [v, u] (getItem v u) -> wpAny (model X.prog X.w) X.A (subscriptTail value slice v u) (EP X pins σ Q) X.xe s
def MtR (X : Cx) (id : String) (r : V -> List V -> Hp -> VK -> Prop) : Prop :=
 ∀ (pins : List (Addr × Obj)) (s : Shared) (σ : St) (H : Hp) (x : V) (xs : List V) (v : Value) (us : List Value) (Q : VK), Inv X pins σ H s -> RelV x v -> Vals xs us -> r x xs H Q ->
  wpAny (model X.prog X.w) X.A (call (.builtin id) (v :: us)) (EP X pins σ Q) X.xe s
section
variable {X : Cx} {a b : Expr} {ta tb : TE} {pos : Pos}
theorem qcj {r : R2} (hr : IxR X r) (ha : PE X a ta) (hb : PE X b tb) (hs : PlainIx b) : PE X (.Subscript a b pos) (tOp r ta tb) := by
 intro pins s σ H Q I h
 exact Subscript_ (binT ha hb I h fun v u s2 x y H2 I2 rx ry q => hr a b pins s2 σ H2 x y v u Q I2 rx ry q (hs _ _))
def rIxL (K : PySem.W.Frag) : R2 := fun x y H Q => ∃ p xs i v, x = .ref p /\ y = .int i /\ SqL K H p xs /\ atI xs i = some v /\ Q v H
def rIxT (K : PySem.W.Frag) : R2 := fun x y H Q => ∃ p xs i v, x = .ref p /\ y = .int i /\ SqT K H p xs /\ atI xs i = some v /\ Q v H
theorem qbp : IxR X (rIxL X.K) := by
 intro value slice pins s σ H x y v u Q I rx ry h hs
 obtain ⟨p, xs, i, z, rfl, rfl, hq, he, q⟩ := h
 cases rx
 obtain ⟨t, rfl⟩ := ry
 obtain ⟨its, r, pl, hz⟩ := I.list hq
 obtain ⟨j, h1, h2, h3, h4, h5⟩ := qgL he
 obtain ⟨w, ew, rw'⟩ := r.get h2
 have hl := r.length
 have hn := line63
 have fin : EP X pins σ Q w s := ⟨z, H, I, rw', q⟩
 by_cases h0 : 0 <= i
 ·have hj : i.toNat = j := by
   rw [seqIndex_of h0 h5] at h1
   exact Option.some.inj h1
  exact item_listR pl.isList h0 (by omega) (by rw [hj]; simpa using ew) fin hs
 ·have hj : (i + (its.toArray.size : Int)).toNat = j := by
   rw [seqIndex_neg (by omega) h4] at h1
   rw [List.size_toArray, <- hl]
   exact Option.some.inj h1
  exact subscriptTail_builtinR (x := w) pl.isList.typeIs slot_list_getitem.lookup
   (wpAny_getItem_list_neg (Q := fun r s' => r = w /\ EP X pins σ Q r s') pl.isList (by omega) (by rw [List.size_toArray] <;> omega) (by omega) (by rw [hj]; simpa using ew) ⟨rfl, fin⟩) hs
theorem qfX : IxR X (rIxT X.K) := by
 intro value slice pins s σ H x y v u Q I rx ry h hs
 obtain ⟨p, xs, i, z, rfl, rfl, hq, he, q⟩ := h
 cases rx
 obtain ⟨t, rfl⟩ := ry
 obtain ⟨its, r, pl, hz⟩ := I.tuple hq
 obtain ⟨j, h1, h2, h3, h4, h5⟩ := qgL he
 obtain ⟨w, ew, rw'⟩ := r.get h2
 have hl := r.length
 have hn := line63
 have fin : EP X pins σ Q w s := ⟨z, H, I, rw', q⟩
 exact subscriptTail_builtinR (x := w) pl.typeIs slot_tuple_getitem.lookup
  (getItem_tuple (j := j) (Q := fun r s' => r = w /\ EP X pins σ Q r s') pl (by omega) (by omega) (by rw [List.size_toArray, <- hl]; exact h1) (by simpa using ew) ⟨rfl, fin⟩) hs
theorem qeJ (lo hi : Option Int) (n : Nat) : (sliceBounds lo hi none n).1 = ((HT.sIx n 0 lo : Nat) : Int) /\ (sliceBounds lo hi none n).2.1 = ((HT.sIx n n hi : Nat) : Int) /\ (sliceBounds lo hi none n).2.2 = 1 := by
 refine ⟨?_, ?_, rfl⟩
 ·cases lo with
  | none => simp [sliceBounds, HT.sIx]
  | some i =>
   simp only [sliceBounds, HT.sIx, Option.getD_none, show (1 : Int) > 0 by decide, if_true]
   by_cases h : i < 0
   ·simp only [h, if_true] <;> omega
   ·simp only [h, if_false] <;> omega
 ·cases hi with
  | none => simp [sliceBounds, HT.sIx]
  | some i =>
   simp only [sliceBounds, HT.sIx, Option.getD_none, show (1 : Int) > 0 by decide, if_true]
   by_cases h : i < 0
   ·simp only [h, if_true] <;> omega
   ·simp only [h, if_false] <;> omega
theorem qd4 (its : List Value) (lo hi : Option Int) : slicePick its.toArray lo hi none = ((its.drop (HT.sIx its.length 0 lo)).take (HT.sIx its.length its.length hi - HT.sIx its.length 0 lo)).toArray := by
 obtain ⟨h1, h2, h3⟩ := qeJ lo hi its.toArray.size
 unfold slicePick
 rw [h1, h2, h3]
 simp only [sliceRange_one, pick_run, List.size_toArray] <;> rfl
def rSlL (K : PySem.W.Frag) : V -> Option Int -> Option Int -> Hp -> VK -> Prop := fun x lo hi H Q => ∃ a xs, x = .ref a /\ SqL K H a xs /\ ∀ p, H p = none -> Q (.ref p) (upd H p (.lst (cutV xs lo hi)))
theorem qbj : SlR X (rSlL X.K) := by
 intro pins s σ H x v vl vu lo hi sl Q I rx hs pl pu h
 obtain ⟨a, xs, rfl, hx, q⟩ := h
 cases rx
 obtain ⟨its, r, ht, hz⟩ := I.list hx
 have hlen := r.length
 refine ⟨"list", _, slot_list_getitem.lookup, ht.isList.typeIs, ?_⟩
 refine wpAny_getItem_list_slice ht.isList hs pl pu .none (by simp) ?_ (by rw [List.size_toArray] <;> omega)
 rw [qd4, <- hlen]
 refine ⟨.ref s.heap.objs.size, _, I.laid (t' := s.toks) (o := .lst (cutV xs lo hi)) (fun b ob q => Heap.get?_push_of_some _ q) (Nat.le_refl _) ?_, rfl, q _ (I.hok.fresh (Nat.le_refl _))⟩
 exact ⟨Nat.le_trans (qfe xs lo hi) hz, _, 0, (r.drop (HT.sIx xs.length 0 lo)).take (HT.sIx xs.length xs.length hi - HT.sIx xs.length 0 lo), Heap.get?_push_size _ rfl⟩
def flatV : V -> Bool
 | .non => true
 | .bl _ => true
 | .int _ => true
 | .str _ => true
 | _ => false
def eqV : V -> V -> Bool
 | .non, .non => true
 | .bl a, .bl b => a == b
 | .bl a, .int b => (if a then 1 else 0) == b
 | .int a, .bl b => a == (if b then 1 else 0)
 | .int a, .int b => a == b
 | .str a, .str b => a == b
 | _, _ => false
theorem eqAt_V {A : Around} {s : Shared} {y x : V} {u v : Value} (ry : RelV y u) (rx : RelV x v) (fy : flatV y = true) (fx : flatV x = true) : SeqAt.EqAt A s u v (eqV y x) := by
 cases y with
 | non =>
  cases ry
  cases x with
  | non => cases rx; exact SeqAt.EqAt.same _
  | bl b => cases rx; exact SeqAt.EqAt.none_bool b
  | int b => obtain ⟨t, rfl⟩ := rx; exact SeqAt.EqAt.none_int b t
  | str b => obtain ⟨t, rfl⟩ := rx; exact SeqAt.EqAt.none_str b t
  | _ => exact absurd (show false = true from fx) Bool.false_ne_true
 | bl a =>
  cases ry
  cases x with
  | non => cases rx; exact SeqAt.EqAt.bool_none a
  | bl b => cases rx; exact SeqAt.EqAt.bool_bool a b
  | int b => obtain ⟨t, rfl⟩ := rx; exact SeqAt.EqAt.bool_int a b t
  | str b => obtain ⟨t, rfl⟩ := rx; exact SeqAt.EqAt.bool_str a b t
  | _ => exact absurd (show false = true from fx) Bool.false_ne_true
 | int a =>
  obtain ⟨t', rfl⟩ := ry
  cases x with
  | non => cases rx; exact SeqAt.EqAt.int_none a t'
  | bl b => cases rx; exact SeqAt.EqAt.int_bool a t' b
  | int b => obtain ⟨t, rfl⟩ := rx; exact SeqAt.EqAt.int_int a t' b t
  | str b => obtain ⟨t, rfl⟩ := rx; exact SeqAt.EqAt.int_str a t' b t
  | _ => exact absurd (show false = true from fx) Bool.false_ne_true
 | str a =>
  obtain ⟨t', rfl⟩ := ry
  cases x with
  | non => cases rx; exact SeqAt.EqAt.str_none a t'
  | bl b => cases rx; exact SeqAt.EqAt.str_bool a t' b
  | int b => obtain ⟨t, rfl⟩ := rx; exact SeqAt.EqAt.str_int a t' b t
  | str b => obtain ⟨t, rfl⟩ := rx; exact SeqAt.EqAt.str_str a t' b t
  | _ => exact absurd (show false = true from fx) Bool.false_ne_true
 | _ => exact absurd (show false = true from fy) Bool.false_ne_true
def eqU (x : V) (u : Value) : Bool := match u with
 | .none => eqV .non x
 | .bool b => eqV (.bl b) x
 | .int i _ => eqV (.int i) x
 | .str z _ => eqV (.str z) x
 | _ => false
theorem qko {x y : V} {u : Value} (r : RelV y u) (f : flatV y = true) : eqU x u = eqV y x := by
 cases y with
 | non => cases r; rfl
 | bl b => cases r; rfl
 | int i => obtain ⟨t, rfl⟩ := r; rfl
 | str z => obtain ⟨t, rfl⟩ := r; rfl
 | _ => exact absurd (show false = true from f) Bool.false_ne_true
theorem qe9 {x : V} : ∀ {xs : List V} {us : List Value}, Vals xs us -> xs.all flatV = true -> us.any (eqU x) = xs.any fun y => eqV y x
 | _, _, .nil, _ => rfl
 | y :: xs, u :: us, .cons r t, f => by
  rw [List.all_cons, Bool.and_eq_true] at f
  rw [List.any_cons, List.any_cons, qko r f.1, qe9 t f.2]
theorem qd6 {A : Around} {s : Shared} {x : V} {v : Value} (rx : RelV x v) (fx : flatV x = true) : ∀ {xs : List V} {us : List Value}, Vals xs us -> xs.all flatV = true -> ∀ u ∈ us, SeqAt.EqAt A s u v (eqU x u)
 | _, _, .nil, _ => fun u hu => by cases hu
 | y :: xs, u :: us, .cons r t, f => fun u' hu => by
  rw [List.all_cons, Bool.and_eq_true] at f
  rcases List.mem_cons.mp hu with rfl | hu
  ·rw [qko r f.1]; exact eqAt_V r rx f.1 fx
  ·exact qd6 rx fx t f.2 u' hu
def inV (x : V) (xs : List V) : Bool := xs.any fun y => eqV y x
def rIn (K : PySem.W.Frag) (neg : Bool) : R2 := fun x y H Q => ∃ p xs, y = .ref p /\ (SqL K H p xs \/ SqT K H p xs) /\ flatV x = true /\ xs.all flatV = true /\ Q (.bl (if neg then !inV x xs else inV x xs)) H
theorem qeD : OpR X (compareOp .In) (rIn X.K false) := by
 intro pins s σ H x y v u Q I rx ry h
 obtain ⟨p, xs, rfl, hq, fx, fs, q⟩ := h
 cases ry
 rcases hq with hq | hq
 ·obtain ⟨its, r, pl, hz⟩ := I.list hq
  refine SeqAt.in_listAt (eqU x) pl.isList (fun w hw => qd6 rx fx r fs w (by simpa using hw)) ⟨.bl _, H, I, rfl, ?_⟩
  rw [show its.toArray.any (eqU x) = its.any (eqU x) by simp, qe9 r fs]
  exact q
 ·obtain ⟨its, r, pl, hz⟩ := I.tuple hq
  refine SeqAt.in_tupleAt (eqU x) pl (fun w hw => qd6 rx fx r fs w (by simpa using hw)) ⟨.bl _, H, I, rfl, ?_⟩
  rw [show its.toArray.any (eqU x) = its.any (eqU x) by simp, qe9 r fs]
  exact q
theorem qah : CallR X (.builtin "len") (fun xs H Q => ∃ p ys, xs = [.ref p] /\ (SqL X.K H p ys \/ SqT X.K H p ys) /\ Q (.int ys.length) H) := by
 intro pins s σ H xs us Q I r h
 obtain ⟨p, ys, rfl, hq, q⟩ := h
 obtain ⟨u, rfl, rx⟩ := vals1 r
 cases rx
 have hn := line63
 rcases hq with hq | hq
 ·obtain ⟨its, r', pl, hz⟩ := I.list hq
  have hlen := r'.length
  exact Calls.call_len_list pl.isList (by simp only [List.size_toArray] <;> omega) ⟨.int ys.length, H, I.tok _, ⟨s.toks + 1, by rw [List.size_toArray, hlen]⟩, q⟩
 ·obtain ⟨its, r', pl, hz⟩ := I.tuple hq
  have hlen := r'.length
  exact len_tuple pl (by simp only [List.size_toArray] <;> omega) ⟨.int ys.length, H, I.tok _, ⟨s.toks + 1, by rw [List.size_toArray, hlen]⟩, q⟩
theorem qeY : CallR X (.type "list") (fun xs H Q => ∃ p ys, xs = [.ref p] /\ (SqL X.K H p ys \/ SqT X.K H p ys) /\ ∀ l, H l = none -> Q (.ref l) (upd H l (.lst ys))) := by
 intro pins s σ H xs us Q I r h
 obtain ⟨p, ys, rfl, hq, q⟩ := h
 obtain ⟨u, rfl, rx⟩ := vals1 r
 cases rx
 have fin : ∀ (its : List Value), Vals ys its -> ys.length <= sizeLine -> ∀ (h' : Heap) (c' : Nat), (∀ b o', s.heap.get? b = some o' -> h'.get? b = some o') ->
   h'.get? s.heap.objs.size = some { cls := .type "list", dict := none, data := .seq its.toArray c', slots := #[] } -> EP X pins σ Q (.ref s.heap.objs.size) { s with heap := h' } := fun its r' hz h' c' kp e =>
  ⟨.ref s.heap.objs.size, _, I.laid (t' := s.toks) kp (Nat.le_refl _) (show ObjOk X.prog X.w _ h' _ (.lst ys) from ⟨hz, its, c', r', e⟩), rfl, q _ (I.hok.fresh (Nat.le_refl _))⟩
 rcases hq with hq | hq
 ·obtain ⟨its, r', pl, hz⟩ := I.list hq
  have hlen := r'.length
  obtain ⟨o, ho, hc, n, hd⟩ := pl.isList
  exact call_list_seq p (.inl rfl) ho hc hd (fun h' c' kp e => fin its r' hz h' c' kp e) (by simp only [List.size_toArray] <;> omega)
 ·obtain ⟨its, r', pl, hz⟩ := I.tuple hq
  have hlen := r'.length
  obtain ⟨o, ho, hc, n, hd⟩ := pl
  exact call_list_seq p (.inr rfl) ho hc hd (fun h' c' kp e => fin its r' hz h' c' kp e) (by simp only [List.size_toArray] <;> omega)
def tyV (K : PySem.W.Frag) (T : String) (x : V) (H : Hp) : Prop := match x with
 | .str _ => T = "str"
 | .int _ => T = "int"
 | .ref p => (T = "list" /\ ∃ xs, SqL K H p xs) \/ (T = "tuple" /\ ∃ o, K.lookup p = some o /\ o.cls = .type "tuple" /\ o.dict = none) \/
   (T = "dict" /\ ((∃ kvs, H p = some (.dK kvs)) \/ ∃ kvs, H p = some (.dT kvs))) \/ (T = "set" /\ ∃ S n, H p = some (.set S n))
 | _ => False
theorem qiN {pins : List (Addr × Obj)} {σ : St} {H : Hp} {s : Shared} {T : String} {x : V} {v : Value} (I : Inv X pins σ H s) (r : RelV x v) (ty : tyV X.K T x H) :
  s.TypeIs v T /\ ∀ a, v = .ref a -> ∃ ob, s.heap.get? a = some ob /\ ob.dict = none := by
 cases x with
 | str z =>
  obtain ⟨t, rfl⟩ := r
  cases (show T = "str" from ty)
  exact ⟨typeIs_str s z t, fun _ e => nomatch e⟩
 | int i =>
  obtain ⟨t, rfl⟩ := r
  cases (show T = "int" from ty)
  exact ⟨typeIs_int s i t, fun _ e => nomatch e⟩
 | ref p =>
  cases r
  rcases ty with ⟨rfl, xs, hq⟩ | ⟨rfl, o, hk, hc, hd⟩ | ⟨rfl, hk⟩ | ⟨rfl, S, n, hk⟩
  ·obtain ⟨its, _, pl, _⟩ := I.list hq
   refine ⟨pl.isList.typeIs, fun a e => ?_⟩
   cases e
   obtain ⟨o, n, e, c, hd, _⟩ := pl
   exact ⟨o, e, hd⟩
  ·refine ⟨⟨o, I.kIn p o hk, hc⟩, fun a e => ?_⟩
   cases e
   exact ⟨o, I.kIn _ o hk, hd⟩
  ·have z : ∃ o, s.heap.get? p = some o /\ o.ExactDict := by
    rcases hk with ⟨kvs, hk⟩ | ⟨kvs, hk⟩
    ·obtain ⟨_, _, _, _, o, _, _, e, ex, _⟩ := I.hok p _ hk
     exact ⟨o, e, ex⟩
    ·obtain ⟨_, _, _, _, o, _, _, e, ex, _⟩ := I.hok p _ hk
     exact ⟨o, e, ex⟩
   obtain ⟨o, e, ex⟩ := z
   refine ⟨⟨o, e, ex.1⟩, fun a e2 => ?_⟩
   cases e2
   exact ⟨o, e, ex.2.1⟩
  ·obtain ⟨o, _, _, _, e, ex, _⟩ := I.hok p _ hk
   refine ⟨⟨o, e, ex.1⟩, fun a e2 => ?_⟩
   cases e2
   exact ⟨o, e, ex.2.1⟩
 | _ => exact False.elim ty
def tBM0 (K : PySem.W.Frag) (T : String) (r : V -> List V -> Hp -> VK -> Prop) (to : TE) : TE := fun σ H Q => to σ H fun x H1 => tyV K T x H1 /\ r x [] H1 Q
def tBM (K : PySem.W.Frag) (T : String) (r : V -> List V -> Hp -> VK -> Prop) (to : TE) (t : TA) : TE := fun σ H Q => to σ H fun x H1 => tyV K T x H1 /\ t σ H1 fun xs H2 => r x xs H2 Q
variable {o e : Expr} {es : List Expr} {to : TE} {t : TA} {name : Str} {apos cpos : Pos} {T id : String} {r : V -> List V -> Hp -> VK -> Prop}
theorem qhz (pa : PlainAttrs T) (slot : Slot T name id) (hty : typeOf (.builtin id) = pure (.type "method_descriptor")) (hm : MtR X id r) (ho : PE X o to)
  (hbase : attributeBase o name X.env (eval o X.env) = eval o X.env := by rfl) (hline : (apos.endLine == cpos.line) = true := by rfl) : PE X (.Call (.Attribute o name apos) [] [] cpos) (tBM0 X.K T r to) := by
 intro pins s σ H Q I h
 refine wpAny_Call_method0_late hbase hline (thn (ho pins s σ H _ I h) fun v s1 ⟨x, H1, I1, r1, ty, q1⟩ => ?_)
 obtain ⟨h1, h2⟩ := qiN I1 r1 ty
 exact ⟨T, id, pa, slot, hty, h1, h2, Calls.callWith_builtin rfl (PySem.evalArgs_none (hm pins s1 σ H1 x [] v [] Q I1 r1 .nil q1))⟩
theorem qb4 (pa : PlainAttrs T) (slot : Slot T name id) (hty : typeOf (.builtin id) = pure (.type "method_descriptor")) (hm : MtR X id r) (ho : PE X o to) (ha : PA X (e :: es) t)
  (hbase : attributeBase o name X.env (eval o X.env) = eval o X.env := by rfl)
  (hfew : ((backTo cpos (starEach (e :: es) X.env)).all (fun x => !x.1) && (backToKw cpos (keywordEach [] X.env)).all (fun x => x.1.isSome)
   && decide ((e :: es).length + ([] : List Keyword).length + (if ([] : List Keyword).isEmpty then 0 else 1) < 30)) = true := by rfl)
  (hline : (apos.endLine == cpos.line) = true := by rfl) (hs : starEach (e :: es) X.env = (false, eval e X.env) :: starEach es X.env := by rfl) (hplain : (backTo cpos (starEach es X.env)).any (·.1) = false := by rfl) :
  PE X (.Call (.Attribute o name apos) (e :: es) [] cpos) (tBM X.K T r to t) := by
 intro pins s σ H Q I h
 refine wpAny_Call_method_late hbase hfew hline rfl (thn (ho pins s σ H _ I h) fun v s1 ⟨x, H1, I1, r1, ty, q1⟩ => ?_)
 obtain ⟨h1, h2⟩ := qiN I1 r1 ty
 refine ⟨T, id, pa, slot, hty, h1, h2, ?_⟩
 have hA := ha cpos pins s1 σ H1 _ I1 q1
 rw [hs] at hA ⊢
 refine Calls.callWith_builtin (by show (false || (backTo cpos (starEach es X.env)).any (·.1)) = false; rw [hplain] <;> rfl) (Calls.evalArgs_plain ?_)
 exact thn hA fun us s2 ⟨vs, H2, I2, r2, q2⟩ => hm pins s2 σ H2 x vs v us Q I2 r1 r2 q2
end
end L2
namespace L2
open PySem PySem.Spec PyProof.Rows
def MtM (X : Cx) (id : String) (r : V -> List V -> Hp -> VK -> Prop) : Prop :=
 ∀ (pins : List (Addr × Obj)) (s : Shared) (σ : St) (H : Hp) (x : V) (xs : List V) (v : Value) (us : List Value) (Q : VK), Inv X pins σ H s -> RelV x v -> Vals xs us -> r x xs H Q ->
  wpAny (model X.prog X.w) X.A (call (.builtin id) (v :: us)) (EP X pins σ Q) X.xe s
theorem Vals.one : ∀ {x : V} {us : List Value}, Vals [x] us -> ∃ u, us = [u] /\ RelV x u
 | _, _, .cons r .nil => ⟨_, rfl, r⟩
theorem Vals.zero : ∀ {us : List Value}, Vals [] us -> us = []
 | _, .nil => rfl
theorem Vals.dropLast {xs : List V} {us : List Value} (h : Vals xs us) : Vals xs.dropLast us.dropLast := by
 induction h with
 | nil => exact .nil
 | cons r t ih =>
  cases t with
  | nil => exact .nil
  | cons q t' => exact .cons r ih
theorem Vals.eraseIdx : ∀ {xs : List V} {us : List Value} (i : Nat), Vals xs us -> Vals (xs.eraseIdx i) (us.eraseIdx i)
 | _, _, _, .nil => .nil
 | _, _, 0, .cons _ t => t
 | _, _, i + 1, .cons r t => .cons r (Vals.eraseIdx i t)
theorem Vals.reverse {xs : List V} {us : List Value} (h : Vals xs us) : Vals xs.reverse us.reverse := by
 induction h with
 | nil => exact .nil
 | cons r t ih => rw [List.reverse_cons, List.reverse_cons]; exact Vals.append ih (.cons r .nil)
theorem Vals.rep {xs : List V} {us : List Value} (h : Vals xs us) : ∀ k : Nat, Vals (List.replicate k xs).flatten (List.replicate k us).flatten
 | 0 => .nil
 | k + 1 => by
  rw [List.replicate_succ, List.replicate_succ, List.flatten_cons, List.flatten_cons]
  exact Vals.append h (Vals.rep h k)
theorem qgr {α : Type} (l : List α) : l.eraseIdx (l.length - 1) = l.dropLast := by
 induction l with
 | nil => rfl
 | cons a r ih =>
  cases r with
  | nil => rfl
  | cons b r =>
   have e : (a :: b :: r).length - 1 = ((b :: r).length - 1) + 1 := by
    have h1 : (a :: b :: r).length = r.length + 2 := rfl
    have h2 : (b :: r).length = r.length + 1 := rfl
    omega
   rw [e, List.eraseIdx_cons_succ, ih]
   all_goals rfl
theorem qb1 {α : Type} : ∀ (l : List α) (i : Nat), (l.eraseIdx i).length <= l.length
 | [], _ => Nat.le_refl _
 | _ :: _, 0 => Nat.le_succ _
 | _ :: r, i + 1 => Nat.succ_le_succ (qb1 r i)
theorem qeo (its : List Value) : ∀ (k : Nat) (acc : List Value),
  List.foldl (fun x1 x2 => x1 ++ x2) acc.toArray (List.replicate k its.toArray) = (acc ++ (List.replicate k its).flatten).toArray
 | 0, acc => by simp
 | k + 1, acc => by
  have e : acc.toArray ++ its.toArray = (acc ++ its).toArray := by simp
  have e2 : (acc ++ its) ++ (List.replicate k its).flatten = acc ++ (List.replicate (k + 1) its).flatten := by
   rw [List.replicate_succ, List.flatten_cons, List.append_assoc]
  rw [<- e2, <- qeo its k (acc ++ its), <- e, List.replicate_succ, List.foldl_cons]
section
variable {X : Cx} {pins : List (Addr × Obj)} {σ : St} {H : Hp} {s : Shared} {l b : Addr} {xs ys zs : List V}
theorem Inv.lset {its its' : List Value} {n : Nat} {f : Array Value -> Array Value} {t' : Nat} (I : Inv X pins σ H s) (hH : H l = some (.lst xs))
  (e : s.heap.get? l = some { cls := .type "list", data := .seq its.toArray n }) (hf : f its.toArray = its'.toArray) (hv : Vals ys its') (hz : ys.length <= sizeLine) :
  Inv X pins σ (upd H l (.lst ys)) { s with heap := s.heap.update l (Obj.mapSeq f), toks := t' } := by
 have q := PySem.IsL.update e f
 rw [hf] at q
 refine I.write (x := l) (e := l) (by rw [hH]; exact trivial) (.inl rfl) (fun b' u hb hu => (Heap.get?_update_other s.heap (Obj.mapSeq f) (Ne.symm hb)).trans hu) ⟨_, q⟩ ?_
 exact ⟨hz, its', _, hv, q⟩
theorem Inv.lnew {its : List Value} {t' : Nat} (I : Inv X pins σ H s) (hv : Vals ys its) (hz : ys.length <= sizeLine) :
  Inv X pins σ (upd H s.heap.objs.size (.lst ys)) { s with heap := s.heap.push { cls := .type "list", data := .seq its.toArray }, toks := t' } :=
 I.laid (fun _ _ q => Heap.get?_push_of_some _ q) (Nat.le_refl _) ⟨hz, its, 0, hv, Heap.get?_push_size _ rfl⟩
theorem Inv.fresh (I : Inv X pins σ H s) : H s.heap.objs.size = none := I.hok.fresh (Nat.le_refl _)
theorem Inv.lstM (I : Inv X pins σ H s) (hH : H l = some (.lst xs)) : xs.length <= sizeLine /\ ∃ (its : List Value) (n : Nat), Vals xs its /\ xs.length = its.length /\ s.heap.get? l = some { cls := .type "list", data := .seq its.toArray n } := by
 obtain ⟨z, its, n, r, e⟩ := I.hok l _ hH
 exact ⟨z, its, n, r, r.length, e⟩
theorem notLongL {n : Nat} (h : n <= sizeLine) : Builtin.List.listTooLong n = false := by
 unfold Builtin.List.listTooLong
 exact decide_eq_false (by omega)
end
section
variable {X : Cx}
def rAppend : V -> List V -> Hp -> VK -> Prop := fun x vs H Q => ∃ l xs y, x = .ref l /\ vs = [y] /\ H l = some (.lst xs) /\ xs.length < sizeLine /\ Q .non (upd H l (.lst (xs ++ [y])))
theorem qa3 : MtM X "list.append" rAppend := by
 intro pins s σ H x vs v us Q I rx rv h
 obtain ⟨l, xs, y, rfl, rfl, hH, hz, q⟩ := h
 cases rx
 obtain ⟨u, rfl, ru⟩ := rv.one
 obtain ⟨z, its, n, r, hl, e⟩ := I.lstM hH
 refine call_meets F.slot_list_append ⟨_, e, rfl⟩ F.entry_list_append (F.args_list_append_2 _ _) (PySem.list_append l its.toArray n u (by rw [List.size_toArray]; omega)) ⟨e, ?_⟩
 refine ⟨.non, _, I.lset (its' := its ++ [u]) hH e (by simp) (r.append (.cons ru .nil)) ?_, rfl, q⟩
 rw [List.length_append, List.length_singleton]
 omega
def rExtend : V -> List V -> Hp -> VK -> Prop := fun x vs H Q => ∃ l b xs zs, x = .ref l /\ vs = [.ref b] /\ H l = some (.lst xs) /\ H b = some (.lst zs) /\ xs.length + zs.length <= sizeLine /\ Q .non (upd H l (.lst (xs ++ zs)))
theorem qdb : MtM X "list.extend" rExtend := by
 intro pins s σ H x vs v us Q I rx rv h
 obtain ⟨l, b, xs, zs, rfl, rfl, hH, hB, hz, q⟩ := h
 cases rx
 obtain ⟨u, rfl, ru⟩ := rv.one
 cases ru
 obtain ⟨z, its, n, r, hl, e⟩ := I.lstM hH
 obtain ⟨z2, its2, n2, r2, hl2, e2⟩ := I.lstM hB
 have hsz : its.toArray.size + its2.toArray.size <= sizeLine := by rw [List.size_toArray, List.size_toArray]; omega
 have hlong : ¬ (!its.toArray.isEmpty && Builtin.List.listTooLong (its.toArray.size + its2.toArray.size)) = true := by
  rw [notLongL hsz, Bool.and_false]
  exact Bool.false_ne_true
 refine call_meets F.slot_list_extend ⟨_, e, rfl⟩ F.entry_list_extend (F.args_list_extend_2 _ _)
  (AutoSeq1.list_extend_list_list_0 l its.toArray n b its2.toArray n2 hlong (by rw [List.size_toArray]; omega) (by omega)) ⟨e, e2, ?_⟩
 refine ⟨.non, _, I.lset (its' := its ++ its2) hH e (by simp) (r.append r2) ?_, rfl, q⟩
 rw [List.length_append]
 omega
def rPop : V -> List V -> Hp -> VK -> Prop := fun x vs H Q => ∃ l xs y, x = .ref l /\ vs = [] /\ H l = some (.lst xs) /\ xs[xs.length - 1]? = some y /\ Q y (upd H l (.lst xs.dropLast))
theorem mt_pop : MtM X "list.pop" rPop := by
 intro pins s σ H x vs v us Q I rx rv h
 obtain ⟨l, xs, y, rfl, rfl, hH, hy, q⟩ := h
 cases rx
 have hus := rv.zero
 subst hus
 obtain ⟨z, its, n, r, hl, e⟩ := I.lstM hH
 obtain ⟨u, hu, ru⟩ := r.get hy
 have hy' : its.toArray[its.toArray.size - 1]? = some u := by
  show its.toArray[its.length - 1]? = some u
  rw [<- Array.getElem?_toList, <- hl]
  exact hu
 refine call_meets F.slot_list_pop ⟨_, e, rfl⟩ F.entry_list_pop (F.args_list_pop_1 _) (MeetsSeq.list_pop_last l its.toArray n u hy' (by rw [List.size_toArray]; omega)) ⟨e, ?_⟩
 refine ⟨y, _, I.lset (its' := its.dropLast) hH e ?_ r.dropLast ?_, ru, q⟩
 ·show its.toArray.eraseIdxIfInBounds (its.toArray.size - 1) = its.dropLast.toArray
  rw [List.size_toArray, List.eraseIdxIfInBounds_toArray, qgr]
 ·rw [List.length_dropLast]
  omega
def rPopAt : V -> List V -> Hp -> VK -> Prop := fun x vs H Q => ∃ l xs i k y, x = .ref l /\ vs = [.int i] /\ H l = some (.lst xs) /\ -(2 ^ 63) <= i /\ i < 2 ^ 63 /\ seqIndex? i xs.length = some k /\ xs[k]? = some y /\ Q y (upd H l (.lst (xs.eraseIdx k)))
theorem qfO : MtM X "list.pop" rPopAt := by
 intro pins s σ H x vs v us Q I rx rv h
 obtain ⟨l, xs, i, k, y, rfl, rfl, hH, h1, h2, hk, hy, q⟩ := h
 cases rx
 obtain ⟨u, rfl, ru⟩ := rv.one
 obtain ⟨t, rfl⟩ := ru
 obtain ⟨z, its, n, r, hl, e⟩ := I.lstM hH
 obtain ⟨w, hw, rw'⟩ := r.get hy
 refine call_meets F.slot_list_pop ⟨_, e, rfl⟩ F.entry_list_pop (F.args_list_pop_2 _ _)
  (MeetsSeq.list_pop_at l its.toArray n i t k w (fitsIndex_both h1 h2) (by rw [List.size_toArray, <- hl]; exact hk) (by rw [<- Array.getElem?_toList]; exact hw) (by rw [List.size_toArray]; omega)) ⟨e, ?_⟩
 refine ⟨y, _, I.lset (its' := its.eraseIdx k) hH e ?_ (r.eraseIdx k) ?_, rw', q⟩
 ·show its.toArray.eraseIdxIfInBounds k = (its.eraseIdx k).toArray
  rw [List.eraseIdxIfInBounds_toArray]
 ·have := qb1 xs k
  omega
def rReverse : V -> List V -> Hp -> VK -> Prop := fun x vs H Q => ∃ l xs, x = .ref l /\ vs = [] /\ H l = some (.lst xs) /\ Q .non (upd H l (.lst xs.reverse))
theorem qgz : MtM X "list.reverse" rReverse := by
 intro pins s σ H x vs v us Q I rx rv h
 obtain ⟨l, xs, rfl, rfl, hH, q⟩ := h
 cases rx
 have hus := rv.zero
 subst hus
 obtain ⟨z, its, n, r, hl, e⟩ := I.lstM hH
 refine call_meets F.slot_list_reverse ⟨_, e, rfl⟩ F.entry_list_reverse (F.args_list_reverse_1 _) (AutoSeq1.list_reverse_list_0 l its.toArray n (by rw [List.size_toArray]; omega)) ⟨e, ?_⟩
 refine ⟨.non, _, I.lset (its' := its.reverse) hH e (by simp) r.reverse ?_, rfl, q⟩
 rw [List.length_reverse]
 omega
def rCat : R2 := fun x y H Q => ∃ l b xs zs, x = .ref l /\ y = .ref b /\ H l = some (.lst xs) /\ H b = some (.lst zs) /\ xs.length + zs.length <= sizeLine /\ ∀ p, H p = none -> Q (.ref p) (upd H p (.lst (xs ++ zs)))
theorem qbU : OpR X (binaryOp .Add) rCat := by
 intro pins s σ H x y v u Q I rx ry h
 obtain ⟨l, b, xs, zs, rfl, rfl, hH, hB, hz, q⟩ := h
 cases rx
 cases ry
 obtain ⟨z, its, n, r, hl, e⟩ := I.lstM hH
 obtain ⟨z2, its2, n2, r2, hl2, e2⟩ := I.lstM hB
 refine PySem.P.add_list e e2 ?_ (by rw [List.size_toArray, List.size_toArray]; omega)
 have ea : its.toArray ++ its2.toArray = (its ++ its2).toArray := by simp
 rw [ea]
 exact ⟨.ref _, _, I.lnew (t' := s.toks) (r.append r2) (by rw [List.length_append]; omega), rfl, q _ I.fresh⟩
def rRep : R2 := fun x y H Q => ∃ l k xs, x = .ref l /\ y = .int k /\ H l = some (.lst xs) /\ -(2 ^ 63) <= k /\ k < 2 ^ 63 /\ xs.length * k.toNat <= sizeLine /\
 ∀ p, H p = none -> Q (.ref p) (upd H p (.lst (List.replicate k.toNat xs).flatten))
theorem qlb {α : Type} (xs : List α) (k : Nat) : (List.replicate k xs).flatten.length = k * xs.length := by
 induction k with
 | zero => simp
 | succ k ih => rw [List.replicate_succ, List.flatten_cons, List.length_append, ih, Nat.succ_mul, Nat.add_comm]
theorem op_rep : OpR X (binaryOp .Mult) rRep := by
 intro pins s σ H x y v u Q I rx ry h
 obtain ⟨l, k, xs, rfl, rfl, hH, h1, h2, hz, q⟩ := h
 cases rx
 obtain ⟨t, rfl⟩ := ry
 obtain ⟨z, its, n, r, hl, e⟩ := I.lstM hH
 have hlen : its.toArray.size * k.toNat <= sizeLine := by rw [List.size_toArray, <- hl]; exact hz
 have hcap : ¬ its.toArray.size * k.toNat > (2 ^ 63 - 1) / 8 := by
  have : (sizeLine : Nat) <= (2 ^ 63 - 1) / 8 := by decide
  omega
 have hfit : ¬ (!Builtin.List.listFitsIndex k) = true := by
  rw [fitsIndex_both h1 h2]
  exact Bool.false_ne_true
 have hlong : ¬ Builtin.List.listTooLong (its.toArray.size * k.toNat) = true := by
  rw [notLongL hlen]
  exact Bool.false_ne_true
 have hnew : List.foldl (fun x1 x2 => x1 ++ x2) #[] (List.replicate (if its.toArray.isEmpty = true then 0 else k.toNat) its.toArray) = (List.replicate k.toNat its).flatten.toArray := by
  have f0 : ∀ m : Nat, List.foldl (fun x1 x2 => x1 ++ x2) #[] (List.replicate m its.toArray) = (List.replicate m its).flatten.toArray := fun m => by
   have := qeo its m []
   rw [List.nil_append] at this
   exact this
  rw [f0]
  cases its with
  | nil => simp
  | cons a r' => rw [if_neg (by simp)]
 refine wpAny_binaryOp_repeat_ref (T := "list") (U := "int") (by decide) ⟨_, e, rfl⟩ (fun s' => typeIs_int s' k t) noFill_list_mul F.fills_int_mul F.slot_int_rmul repeat_list F.slot_int_index.lookup
  (call_meets F.slot_int_rmul (typeIs_int s k t) F.entry_int_rmul (F.args_int_rmul_2 _ _) (int___rmul___int_list k t l its.toArray n)
   ⟨e, rfl, ⟨_, e, rfl⟩, call_meets F.slot_list_mul ⟨_, e, rfl⟩ F.entry_list_mul (F.args_list_mul_2 _ _) (AutoListH.list___mul___list_int_3 l its.toArray n k t hfit hcap hlong) ⟨e, ?_⟩⟩)
 rw [hnew]
 exact ⟨.ref _, _, I.lnew (t' := s.toks) (r.rep k.toNat) (by rw [qlb, Nat.mul_comm]; exact hz), rfl, q _ I.fresh⟩
end
end L2
namespace L2
open PySem PySem.Spec PyProof.Rows
theorem qew : ∀ {us : List Value} {ns : List Int}, IntsAre us ns -> Vals (ns.map V.int) us
 | _, _, .nil => by rw [List.map_nil]; exact Paired.nil
 | _, _, .cons n t h => by rw [List.map_cons]; exact Paired.cons (show RelV (V.int n) (Value.int n t) from ⟨t, rfl⟩) (qew h)
end L2
namespace L2
open PySem PySem.Spec PyProof.Rows
abbrev CellAt (h : Heap) (c : Addr) (v : Option Value) : Prop := h.IsCell c v
def relS (scope sc : Scope) : Scope :=
 { scope with names := scope.names.map fun (n, k) => if (k == .free && sc.kind == .function && sc.names.lookup n == some .cell) then (n, .cell) else (n, k) }
def cloFrom (cells : List (Str × Addr)) : List (Str × NameKind) -> List (Str × Addr) -> List (Str × Addr)
 | [], acc => acc
 | (n, k) :: r, acc => if k == .free then cloFrom cells r ((n, (cells.lookup n).getD 0) :: acc) else cloFrom cells r acc
theorem qcU (env : Env) (f : Str × NameKind -> List (Str × Addr) -> Sem (ForInStep (List (Str × Addr))))
  (hf : ∀ n k c, f (n, k) c = if k == .free then (do let a <- cellOf env n; pure (.yield ((n, a) :: c))) else pure (.yield c)) :
  ∀ (names : List (Str × NameKind)) (acc : List (Str × Addr)), (∀ y ∈ names, y.2 = .free -> ∃ c, env.cells.lookup y.1 = some c) -> forIn names acc f = pure (cloFrom env.cells names acc)
 | [], acc, _ => by rw [List.forIn_nil]; rfl
 | (n, k) :: r, acc, h => by
  rw [List.forIn_cons, hf]
  have ih := fun acc => qcU env f hf r acc fun y hy => h y (List.mem_cons_of_mem _ hy)
  unfold cloFrom
  by_cases hk : (k == NameKind.free) = true
  ·rw [if_pos hk, if_pos hk]
   obtain ⟨c, hc⟩ := h (n, k) List.mem_cons_self (by simpa using hk)
   have e : cellOf env n = pure c := by unfold cellOf; rw [hc]
   rw [e]
   have e2 : (env.cells.lookup n).getD 0 = c := by rw [hc]; rfl
   rw [e2]
   exact ih _
  ·rw [if_neg hk, if_neg hk]
   exact ih _
theorem qgy {scope : Scope} {env : Env} (h : ∀ y ∈ scope.names, y.2 = .free -> ∃ c, env.cells.lookup y.1 = some c) : closureFor scope env = pure (cloFrom env.cells scope.names []) := by
 simp only [closureFor]
 rw [qcU env _ (fun n k c => rfl) scope.names [] h]
 rfl
theorem qcG {α : Type} : ∀ {l : List (Str × α)} {n : Str} {c : α}, (n, c) ∈ l -> ∃ c', l.lookup n = some c'
 | (k, v) :: r, n, c, h => by
  rw [List.lookup_cons]
  cases hb : n == k with
  | true => exact ⟨_, rfl⟩
  | false =>
   rcases List.mem_cons.mp h with e | h
   ·cases e; simp at hb
   ·exact qcG h
theorem qbO {cells : List (Str × Addr)} : ∀ {names : List (Str × NameKind)} {acc : List (Str × Addr)} {n : Str} {c : Addr}, (n, c) ∈ cloFrom cells names acc -> (n, c) ∈ acc \/ ((n, .free) ∈ names /\ c = (cells.lookup n).getD 0)
 | [], _, _, _, h => .inl h
 | (m, k) :: r, acc, n, c, h => by
  unfold cloFrom at h
  split at h
  ·rename_i hk
   have hk : k = .free := by simpa using hk
   rcases qbO h with h | ⟨h1, h2⟩
   ·rcases List.mem_cons.mp h with e | h
    ·cases e; exact .inr ⟨hk ▸ List.mem_cons_self, rfl⟩
    ·exact .inl h
   ·exact .inr ⟨List.mem_cons_of_mem _ h1, h2⟩
  ·rcases qbO h with h | ⟨h1, h2⟩
   ·exact .inl h
   ·exact .inr ⟨List.mem_cons_of_mem _ h1, h2⟩
theorem qcm {cells : List (Str × Addr)} : ∀ {names : List (Str × NameKind)} {acc : List (Str × Addr)} {p : Str × Addr}, p ∈ acc -> p ∈ cloFrom cells names acc
 | [], _, _, h => h
 | (m, k) :: r, acc, p, h => by
  unfold cloFrom
  split
  ·exact qcm (List.mem_cons_of_mem _ h)
  ·exact qcm h
theorem qco {cells : List (Str × Addr)} : ∀ {names : List (Str × NameKind)} {acc : List (Str × Addr)} {n : Str}, (n, .free) ∈ names -> (n, (cells.lookup n).getD 0) ∈ cloFrom cells names acc
 | (m, k) :: r, acc, n, h => by
  unfold cloFrom
  rcases List.mem_cons.mp h with e | h
  ·cases e
   exact qcm List.mem_cons_self
  ·split
   ·exact qco h
   ·exact qco h
theorem qb2 : ∀ {names : List (Str × NameKind)} {h : Heap} {acc : List (Str × Addr)} {x : Str} {c : Addr}, (x, c) ∈ cellsFrom h.objs.size names acc ->
  (x, c) ∈ acc \/ ((x, .cell) ∈ names /\ h.objs.size <= c /\ CellAt (pushCells h names) c none)
 | [], _, _, _, _, h => .inl h
 | (n, k) :: r, h, acc, x, c, hm => by
  unfold cellsFrom at hm
  unfold pushCells
  split at hm
  ·rename_i hk
   rw [if_pos hk]
   have hk : k = .cell := by simpa using hk
   rw [<- Heap.size_push h { cls := .type "cell", data := .cell none }] at hm
   rcases qb2 hm with hm | ⟨h1, h2, h3⟩
   ·rcases List.mem_cons.mp hm with e | hm
    ·cases e
     exact .inr ⟨hk ▸ List.mem_cons_self, Nat.le_refl _, _, pushCells_keeps r _ _ _ (Heap.get?_push_size _ rfl), rfl⟩
    ·exact .inl hm
   ·rw [Heap.size_push] at h2
    exact .inr ⟨List.mem_cons_of_mem _ h1, Nat.le_of_succ_le h2, h3⟩
  ·rename_i hk
   rw [if_neg hk]
   rcases qb2 hm with hm | ⟨h1, h2, h3⟩
   ·exact .inl hm
   ·exact .inr ⟨List.mem_cons_of_mem _ h1, h2, h3⟩
theorem qcu : ∀ {names : List (Str × NameKind)} {n : Nat} {acc : List (Str × Addr)} {p : Str × Addr}, p ∈ acc -> p ∈ cellsFrom n names acc
 | [], _, _, _, h => h
 | (m, k) :: r, n, acc, p, h => by
  unfold cellsFrom
  split
  ·exact qcu (List.mem_cons_of_mem _ h)
  ·exact qcu h
theorem qc7 : ∀ {names : List (Str × NameKind)} {n : Nat} {acc : List (Str × Addr)} {x : Str}, (x, .cell) ∈ names -> ∃ c, (x, c) ∈ cellsFrom n names acc
 | (m, k) :: r, n, acc, x, h => by
  unfold cellsFrom
  rcases List.mem_cons.mp h with e | h
  ·cases e
   exact ⟨n, qcu List.mem_cons_self⟩
  ·split
   ·exact qc7 h
   ·exact qc7 h
theorem qdn : ∀ {names : List (Str × NameKind)} {h : Heap} {acc : List (Str × Addr)} {x y : Str} {c : Addr}, (∀ p ∈ acc, p.2 < h.objs.size) -> (∀ x y c, (x, c) ∈ acc -> (y, c) ∈ acc -> x = y) ->
  (x, c) ∈ cellsFrom h.objs.size names acc -> (y, c) ∈ cellsFrom h.objs.size names acc -> x = y
 | [], _, _, _, _, _, _, hi, h1, h2 => hi _ _ _ h1 h2
 | (n, k) :: r, h, acc, x, y, c, hl, hi, h1, h2 => by
  unfold cellsFrom at h1 h2
  split at h1
  ·rename_i hk
   rw [if_pos hk] at h2
   rw [<- Heap.size_push h { cls := .type "cell", data := .cell none }] at h1 h2
   refine qdn (h := h.push _) (fun p hp => ?_) (fun x y c a b => ?_) h1 h2
   ·rw [Heap.size_push]
    rcases List.mem_cons.mp hp with rfl | hp
    ·exact Nat.lt_succ_self _
    ·exact Nat.lt_succ_of_lt (hl p hp)
   ·rcases List.mem_cons.mp a with e | a <;> rcases List.mem_cons.mp b with e' | b
    ·cases e; cases e'; rfl
    ·cases e; exact absurd (hl _ b) (Nat.lt_irrefl _)
    ·cases e'; exact absurd (hl _ a) (Nat.lt_irrefl _)
    ·exact hi _ _ _ a b
  ·rename_i hk
   rw [if_neg hk] at h2
   exact qdn hl hi h1 h2
theorem qfB {M : Model} {A : Around} {E : Value -> Shared -> Prop} {s : Shared} {scope : Scope} {globals : Addr} {closure : List (Str × Addr)} {qual : Str} {func : Option Addr} {code : Value} {around : Env} {builtins : Addr} {Q : Env -> Shared -> Prop}
  (h : Q (newEnv scope s.heap.objs.size globals (cellsFrom (s.heap.objs.size + 1) scope.names closure) qual func code (some around) builtins)
   { s with heap := pushCells (s.heap.push { cls := .type "dict", data := .dict #[] }) scope.names }) :
  wpAny M A (newFunctionEnv scope globals closure [] qual func code (some around) builtins) Q E s := by
 simp only [newFunctionEnv, Option.isSome_some, if_true]
 refine wpAny_bind (wpAny_alloc ?_)
 refine wpAny_bind (wpAny_layCells _ (fun n k c => rfl) scope.names closure _ _ ?_)
 rw [show ({ s with heap := s.heap.push { cls := .type "dict", data := .dict #[] } } : Shared).heap.objs.size = s.heap.objs.size + 1 from Heap.size_push ..]
 rw [List.forIn_nil]
 exact wpAny_bind (wpAny_pure (wpAny_pure h))
theorem qcp {sc : Scope} : ∀ {names : List (Str × NameKind)} {x : Str} {k : NameKind},
  (names.map fun (n, k) => if (k == NameKind.free && sc.kind == .function && sc.names.lookup n == some .cell) then (n, NameKind.cell) else (n, k)).lookup x = some k ->
  ∃ k', names.lookup x = some k' /\ (k = k' \/ (k' = .free /\ k = .cell))
 | [], _, _, h => by simp at h
 | (n, k₀) :: r, x, k, h => by
  have ih := @qcp sc r x k
  have h' : List.lookup x ((if (k₀ == NameKind.free && sc.kind == .function && sc.names.lookup n == some .cell) = true then (n, NameKind.cell) else (n, k₀)) :: (r.map _)) = some k := h
  cases hx : x == n with
  | true =>
   simp only [List.lookup_cons, hx]
   by_cases hc : (k₀ == NameKind.free && sc.kind == .function && sc.names.lookup n == some .cell) = true
   ·rw [if_pos hc] at h'
    simp only [List.lookup_cons, hx] at h'
    cases h'
    simp only [Bool.and_eq_true, beq_iff_eq] at hc
    exact ⟨k₀, rfl, .inr ⟨hc.1.1, rfl⟩⟩
   ·rw [if_neg hc] at h'
    simp only [List.lookup_cons, hx] at h'
    cases h'
    exact ⟨_, rfl, .inl rfl⟩
  | false =>
   simp only [List.lookup_cons, hx]
   by_cases hc : (k₀ == NameKind.free && sc.kind == .function && sc.names.lookup n == some .cell) = true
   ·rw [if_pos hc] at h'
    simp only [List.lookup_cons, hx] at h'
    exact ih h'
   ·rw [if_neg hc] at h'
    simp only [List.lookup_cons, hx] at h'
    exact ih h'
structure BlkOk (N : List Str) (sc scope : Scope) (own : List (Str × Nat)) : Prop where
 kind : scope.kind = .function
 uniq : ∀ y ∈ scope.names, scope.names.lookup y.1 = some y.2
 ix : ∀ p ∈ own, N[p.2]? = some p.1
 free : ∀ y ∈ scope.names, y.2 = .free -> sc.names.lookup y.1 = some .cell \/ sc.names.lookup y.1 = some .free
 own : ∀ y ∈ scope.names, y.2 = .local \/ y.2 = .cell -> y.1 ∈ own.map (·.1) \/ y.1 ∉ N
def wipe (σ : St) : List Nat -> St
 | [] => σ
 | v :: vs => (wipe σ vs).set v none
theorem qcs (σ : St) : ∀ vs : List Nat, (wipe σ vs).length = σ.length
 | [] => rfl
 | v :: vs => by unfold wipe; rw [List.length_set, qcs σ vs]
theorem qdj {σ : St} {i : Nat} {x : V} : ∀ {vs : List Nat}, (wipe σ vs)[i]? = some (some x) -> σ[i]? = some (some x) /\ i ∉ vs
 | [], h => ⟨h, by simp⟩
 | v :: vs, h => by
  unfold wipe at h
  by_cases hi : v = i
  ·subst hi
   by_cases hv : v < (wipe σ vs).length
   ·rw [List.getElem?_set_self hv] at h; cases h
   ·rw [List.getElem?_eq_none (by simpa using hv)] at h; cases h
  ·rw [List.getElem?_set_ne hi] at h
   obtain ⟨h1, h2⟩ := qdj h
   exact ⟨h1, by simp only [List.mem_cons, not_or]; exact ⟨fun e => hi e.symm, h2⟩⟩
abbrev Cx.blk (X : Cx) (s : Shared) (H : Hp) (scope : Scope) (cenv : Env) (fp : List Addr) : Cx := { X with s₀ := s, H₀ := H, env := cenv, outer := X.stack, ex := fp, fn := fun x => scope.names.lookup x == some .cell, pn := [], xe := fun _ _ => False }
section
variable {X : Cx} {pins : List (Addr × Obj)} {σ : St} {H : Hp} {s : Shared}
theorem qfn {scope : Scope} {own : List (Str × Nat)} {fp : List Addr} (I : Inv X pins σ H s) (ok : BlkOk X.N X.env.scope scope own) (hN : X.N.Nodup) (hfp : ∀ b ∈ fp, FpOk X pins H b /\ b < s.heap.objs.size) :
  Inv (X.blk s H scope (compEnvC scope (cellsFrom (s.heap.objs.size + 1) scope.names (cloFrom X.env.cells scope.names [])) s.heap.objs.size X.env) fp) [] (wipe σ (own.map (·.2))) H { s with heap := pushCells (s.heap.push { cls := .type "dict", data := .dict #[] }) scope.names } := by
 have hfree : ∀ y ∈ scope.names, y.2 = .free -> ∃ c, X.env.cells.lookup y.1 = some c := fun y hy e => by
  rcases ok.free y hy e with k | k
  ·exact I.ok.has _ (.inl k)
  ·exact I.ok.has _ (.inr k)
 generalize hcenv : compEnvC scope (cellsFrom (s.heap.objs.size + 1) scope.names (cloFrom X.env.cells scope.names [])) s.heap.objs.size X.env = cenv
 have kp : ∀ b o, s.heap.get? b = some o -> (pushCells (s.heap.push { cls := .type "dict", data := .dict #[] }) scope.names).get? b = some o := fun b o e => pushCells_keeps _ _ _ _ (Heap.get?_push_of_some _ e)
 have hL : cenv.locals = s.heap.objs.size := by rw [<- hcenv]; rfl
 have hcl : cenv.cells = cellsFrom (s.heap.objs.size + 1) scope.names (cloFrom X.env.cells scope.names []) := by rw [<- hcenv]; rfl
 have hsc : cenv.scope = relS scope X.env.scope := by rw [<- hcenv]; rfl
 rw [<- Heap.size_push s.heap { cls := .type "dict", data := .dict #[] }] at hcl
 have cm : ∀ {y c}, (y, c) ∈ cloFrom X.env.cells scope.names [] -> X.env.cells.lookup y = some c /\ c < s.heap.objs.size := fun {y c} hm => by
  rcases qbO hm with hm | ⟨h1, rfl⟩
  ·cases hm
  ·obtain ⟨c, hc⟩ := hfree _ h1 rfl
   rw [hc]
   obtain ⟨w, z⟩ := I.cell _ _ hc
   exact ⟨rfl, z.lt⟩
 have mem : ∀ {y c}, cenv.cells.lookup y = some c -> (X.env.cells.lookup y = some c /\ c < s.heap.objs.size) \/ (s.heap.objs.size + 1 <= c /\ CellAt (pushCells (s.heap.push { cls := .type "dict", data := .dict #[] }) scope.names) c none) := fun {y c} e => by
  rw [hcl] at e
  rcases qb2 (PySem.mem_of_lookup e) with hm | ⟨_, h2, h3⟩
  ·exact .inl (cm hm)
  ·rw [Heap.size_push] at h2; exact .inr ⟨h2, h3⟩
 have look : ∀ {y}, scope.names.lookup y = some .free -> ∃ c, cenv.cells.lookup y = some c /\ X.env.cells.lookup y = some c := fun {y} hl => by
  have hy : (y, NameKind.free) ∈ scope.names := PySem.mem_of_lookup hl
  obtain ⟨c', e'⟩ := qcG (qcu (names := scope.names) (n := (s.heap.push { cls := .type "dict", data := .dict #[] }).objs.size) (qco (cells := X.env.cells) (acc := []) hy))
  rw [<- hcl] at e'
  refine ⟨c', e', ?_⟩
  rw [hcl] at e'
  rcases qb2 (PySem.mem_of_lookup e') with hm | ⟨h1, _, _⟩
  ·exact (cm hm).1
  ·have := ok.uniq _ h1
   rw [hl] at this; cases this
 have okB : (X.blk s H scope cenv fp).Ok := by
  refine ⟨I.ok.mod, by show cenv.scope.kind = _; rw [hsc]; exact ok.kind, by show cenv.globals = _; rw [<- hcenv]; exact I.ok.glob, by show cenv.builtins = _; rw [<- hcenv]; exact I.ok.blt, by show s.heap.objs.size <= cenv.locals; rw [hL]; exact Nat.le_refl _,
   fun y z c e1 e2 => ?_, fun y hy => ?_, fun y c z e => ?_, I.ok.hd, I.ok.frames, .inl rfl, fun b hb => ⟨?_, fun y c e z => ?_⟩, I.bs, Nat.le_trans I.ok.bsz I.sz, fun b o e hb => ?_, fun b hb z => ?_, I.stack, I.stkFree⟩
  ·have e1 : cenv.cells.lookup y = some c := e1
   have e2 : cenv.cells.lookup z = some c := e2
   rw [hcl] at e1 e2
   refine qdn (fun p hp => ?_) (fun y z c a b => I.ok.inj y z c (cm a).1 (cm b).1) (PySem.mem_of_lookup e1) (PySem.mem_of_lookup e2)
   rw [Heap.size_push]
   exact Nat.lt_succ_of_lt (cm (y := p.1) (c := p.2) hp).2
  ·show ∃ c, cenv.cells.lookup y = some c
   have key : ∀ k, cenv.kindOf y = some k -> (k = .cell \/ k = .free) -> ∃ c, cenv.cells.lookup y = some c := fun k hk hk' => by
    unfold Env.kindOf at hk
    rw [hsc] at hk
    obtain ⟨k', e, r⟩ := qcp hk
    have : k' = .cell \/ k' = .free := by
     rcases r with rfl | ⟨rfl, _⟩
     ·exact hk'
     ·exact .inr rfl
    rcases this with rfl | rfl
    ·obtain ⟨c, hm⟩ := qc7 (n := (s.heap.push { cls := .type "dict", data := .dict #[] }).objs.size) (acc := cloFrom X.env.cells scope.names []) (PySem.mem_of_lookup e)
     obtain ⟨c', e'⟩ := qcG hm
     exact ⟨c', by rw [hcl]; exact e'⟩
    ·obtain ⟨c, h1, _⟩ := look e
     exact ⟨c, h1⟩
   rcases hy with hy | hy
   ·exact key _ hy (.inl rfl)
   ·exact key _ hy (.inr rfl)
  ·have z : (scope.names.lookup y == some NameKind.cell) = true := z
   have z : scope.names.lookup y = some .cell := by simpa using z
   have e : cenv.cells.lookup y = some c := e
   rw [hcl] at e
   rcases qb2 (PySem.mem_of_lookup e) with hm | ⟨_, h2, _⟩
   ·rcases qbO hm with hm | ⟨h1, _⟩
    ·cases hm
    ·have q := ok.uniq _ h1
     rw [z] at q; cases q
   ·rw [Heap.size_push] at h2
    exact Nat.le_of_succ_le h2
  ·show b ≠ cenv.locals
   rw [hL]; exact Nat.ne_of_lt (hfp b hb).2
  ·have e : cenv.cells.lookup y = some c := e
   rcases mem e with ⟨h1, _⟩ | ⟨h1, _⟩
   ·exact (hfp b hb).1.2.2.2.2.1 y c h1 z
   ·have h2 : s.heap.objs.size + 1 <= b := by rw [<- z]; exact h1
    exact absurd (Nat.lt_of_lt_of_le (hfp b hb).2 (Nat.le_of_succ_le h2)) (Nat.lt_irrefl _)
  ·rcases (hfp b hb).1.2.2.2.1 with z | z
   ·exact I.ok.noex b o e z
   ·exact absurd (Nat.lt_of_lt_of_le (Heap.lt_size e) (Nat.le_trans I.ok.bsz z)) (Nat.lt_irrefl _)
  ·rcases List.mem_cons.mp (I.stkSub b z) with z | z
   ·exact (hfp b hb).1.2.1 z
   ·exact (hfp b hb).1.2.2.1 z
 refine ⟨okB, rfl, I.bare, Un.kept kp, ⟨fun _ => none, ?_, fun i y av e1 e2 e3 => ?_⟩, fun y c e => ?_, ?_, fun y c e => ?_, fun p hp => ?_, I.hok.kept kp, by rw [qcs]; exact I.len⟩
 ·show Heap.Ns _ cenv.locals _
  rw [hL]
  exact Heap.Ns.keeps (Heap.Ns.new ..) fun b o e => pushCells_keeps _ _ _ _ e
 ·obtain ⟨e2, hne⟩ := qdj e2
  have hfr : scope.names.lookup y = some .free /\ (cenv.kindOf y = some .cell \/ cenv.kindOf y = some .free) := by
   have key : ∀ k, cenv.scope.names.lookup y = some k -> k = .local \/ k = .cell \/ k = .free -> scope.names.lookup y = some .free /\ (cenv.kindOf y = some .cell \/ cenv.kindOf y = some .free) := fun k hk hk' => by
    have hk0 := hk
    rw [hsc] at hk
    obtain ⟨k', e, r⟩ := qcp hk
    have no : ¬ (k' = .local \/ k' = .cell) := fun hh => by
     rcases ok.own _ (PySem.mem_of_lookup e) hh with e' | e'
     ·obtain ⟨p, hp, hpy⟩ := List.mem_map.mp e'
      have e3 := ok.ix p hp
      have : p.1 = y := hpy
      rw [this] at e3
      exact hne (List.mem_map.mpr ⟨p, hp, qee hN e3 e1⟩)
     ·exact e' (List.mem_of_getElem? e1)
    rcases r with rfl | ⟨rfl, rfl⟩
    ·rcases hk' with rfl | rfl | rfl
     ·exact absurd (.inl rfl) no
     ·exact absurd (.inr rfl) no
     ·exact ⟨e, .inr hk0⟩
    ·exact ⟨e, .inl hk0⟩
   have e3 : Vis cenv.scope y := e3
   rcases e3 with e3 | e3 | e3
   ·exact key _ e3 (.inl rfl)
   ·exact key _ e3 (.inr (.inl rfl))
   ·exact key _ e3 (.inr (.inr rfl))
  obtain ⟨m, hn, hl⟩ := I.loc
  have hvis : Vis X.env.scope y := (ok.free _ (PySem.mem_of_lookup hfr.1) rfl).elim (fun k => .inr (.inl k)) (fun k => .inr (.inr k))
  obtain ⟨w, r, q⟩ := hl i y av e1 e2 hvis
  refine ⟨w, r, .inr ⟨hfr.2, ?_⟩⟩
  obtain ⟨c, h1, h2⟩ := look hfr.1
  rcases q with ⟨k, _⟩ | ⟨_, c', e', z⟩
  ·have k : X.env.scope.names.lookup y = some .local := k
   rcases ok.free _ (PySem.mem_of_lookup hfr.1) rfl with k' | k' <;> rw [show X.env.scope.names.lookup y = _ from k'] at k <;> cases k
  ·rw [h2] at e'; cases e'
   exact ⟨c, h1, z.keeps kp⟩
 ·have e : cenv.cells.lookup y = some c := e
  rcases mem e with ⟨h1, _⟩ | ⟨_, z⟩
  ·obtain ⟨w, z⟩ := I.cell y c h1
   exact ⟨w, z.keeps kp⟩
  ·exact ⟨_, z⟩
 ·show H cenv.locals = none
  rw [hL]; exact I.hok.fresh (Nat.le_refl _)
 ·have e : cenv.cells.lookup y = some c := e
  rcases mem e with ⟨h1, _⟩ | ⟨h1, _⟩
  ·exact I.freeC y c h1
  ·exact I.hok.fresh (Nat.le_of_succ_le h1)
 ·exact absurd (show p ∈ ([] : List (Addr × Obj)) ++ [] from hp) (by simp)
theorem app_ok {E : Value -> Shared -> Prop} {D : Addr} {xs : List V} {y : V} {v : Value} {Q : Value -> Shared -> Prop} (I : Inv X pins σ H s) (hD : H D = some (.lst xs)) (hz : xs.length < sizeLine) (r : RelV y v)
  (h : ∀ s', Inv X pins σ (upd H D (.lst (xs ++ [y]))) s' -> Q .none s') : wpAny (model X.prog X.w) X.A (call (.builtin "list.append") [.ref D, v]) Q E s := by
 obtain ⟨hz', its, n, ri, e⟩ := I.hok D _ hD
 have hl := ri.length
 refine append_at (hsz := by rw [List.size_toArray]; omega) e fun h' sb ho' => ?_
 refine h { s with heap := h' } (I.write (t' := s.toks) (by rw [hD]; trivial) (.inl rfl) (fun b u hb q => (sb.2 b hb).trans q) ⟨_, ho'⟩ ⟨by rw [List.length_append]; exact hz, its ++ [v], n + 1, ri.append (.cons r .nil), ?_⟩)
 rw [ho']
 simp
def PTs (X : Cx) (ifs : List Expr) (t : TT) : Prop :=
 ∀ (pins : List (Addr × Obj)) (s : Shared) (σ : St) (H : Hp) (Q : Bool -> Hp -> Prop), Inv X pins σ H s -> t σ H Q ->
  wpAny (model X.prog X.w) X.A (forIn ifs true fun c r => if r = true then do let ok <- isTrue c X.env (eval c X.env); pure (ForInStep.yield ok) else pure (ForInStep.yield r)) (TP X pins σ Q) X.xe s
def tYes : TT := fun _ H Q => Q true H
theorem qgG : PTs X [] tYes := fun _ _ _ H _ I h => wpAny_tests_nil ⟨H, I, h⟩
theorem qef {c : Expr} {t : TT} (h : PT X c t) : PTs X [c] t := fun pins s σ H Q I hw => wpAny_tests_one (h pins s σ H Q I hw)
end
theorem thnF {α : Type} {t : Sem α} {Q Q' : α -> Shared -> Prop} {M : Model} {A : Around} {E : Value -> Shared -> Prop} {s : Shared} (h : wpAny M A t Q (fun _ _ => False) s) (hQ : ∀ a s, Q a s -> Q' a s) : wpAny M A t Q' E s := wpAny_mono h hQ fun _ _ z => False.elim z
theorem qex {prog : Program} {w : World} {A : Around} {R : Result -> Shared -> Prop} {s : Shared} {elt target iter : Expr} {ifs : List Expr} {scope : Scope} {pos : Pos} {it acc : Value} {env : Env} (I : Nat -> Shared -> Prop)
  (turn : ∀ n s, I n s -> wpAny (model prog w) A (pyNext it) (fun r s₁ => match r with
   | none => R (.ok .next) s₁
   | some v => wpAny (model prog w) A (letOwnedTupleGo target it v) (fun _ s₁' => wpAny (model prog w) A (assign target env v) (fun _ s₂ =>
     wpAny (model prog w) A (forIn ifs true fun c r => if r = true then do let ok <- isTrue c env (eval c env); pure (ForInStep.yield ok) else pure (ForInStep.yield r)) (fun ok s₃ =>
      if ok = true then wpAny (model prog w) A (eval elt env) (fun x s₄ =>
       wpAny (model prog w) A (call (.builtin "list.append") [acc, x]) (fun _ s₅ => ∃ m, m < n /\ I m s₅) (notedBy (model prog w) A env fun e s' => R (.error e) s') s₄) (notedBy (model prog w) A env fun e s' => R (.error e) s') s₃
      else ∃ m, m < n /\ I m s₃) (notedBy (model prog w) A env fun e s' => R (.error e) s') s₂) (notedBy (model prog w) A env fun e s' => R (.error e) s') s₁') (notedBy (model prog w) A env fun e s' => R (.error e) s') s₁) (notedBy (model prog w) A env fun e s' => R (.error e) s') s)
  (n : Nat) (h : I n s) :
  codeAny (model prog w) A (.compLoop (.ListComp elt [⟨target, iter, ifs, 0⟩] scope pos) 0 it acc env) R s := by
 refine codeAny_loop rfl I (fun n s hI => ?_) n h
 show wpAny _ A ((compTurn (.ListComp elt [⟨target, iter, ifs, 0⟩] scope pos) 0 it acc env).onRaise (fun x => do noteFrame x env; theTreesLotGoes x)) _ _ s
 refine wpAny_noted ?_
 rw [compTurn_list]
 refine wpAny_bind (wpAny_standAt (wpAny_bind (wpAny_mono (turn n s hI) (fun r s₁ h₁ => ?_) fun _ _ h' => h')))
 cases r with
 | none => exact wpAny_pure h₁
 | some v =>
  refine wpAny_bind (wpAny_mono h₁ (fun _ s₁' h₁' => ?_) fun _ _ h' => h')
  refine wpAny_bind (wpAny_mono h₁' (fun _ s₂ h₂ => wpAny_bind (wpAny_mono h₂ (fun ok s₃ h₃ => ?_) fun _ _ h' => h')) fun _ _ h' => h')
  cases ok with
  | false => exact wpAny_pure ⟨rfl, h₃⟩
  | true =>
   exact wpAny_bind (wpAny_bind (wpAny_mono h₃ (fun x s₄ h₄ => wpAny_bind (wpAny_mono h₄ (fun _ s₅ h₅ => wpAny_pure (wpAny_pure ⟨rfl, h₅⟩)) fun _ _ h' => h')) fun _ _ h' => h'))
section
variable {X : Cx}
def tLc (wi : TI) (g : TG) (tt : TT) (te : TE) (vs : List Nat) : TE := fun σ H Q => wi σ H fun J H1 => ∀ D, H1 D = none -> ∃ W : Nat -> Nat -> Hp -> Prop, (∃ m, W 0 m (upd H1 D (.lst []))) /\ ∀ i m H, W i m H ->
 (J.stop i H /\ Q (.ref D) H) \/ (J.go i H /\ ∃ Nx : Hp -> Prop, (∀ H', Nx H' -> ∃ m', m' < m /\ W (i + 1) m' H') /\ ∀ x H', J.yld i H x H' -> g x (wipe σ vs) H' fun σ2 H2 => wipe σ2 vs = wipe σ vs /\ tt σ2 H2 fun b H3 =>
  if b = true then te σ2 H3 fun y H4 => ∃ acc, H4 D = some (.lst acc) /\ acc.length < sizeLine /\ Nx (upd H4 D (.lst (acc ++ [y]))) else Nx H3)
theorem qln {pins : List (Addr × Obj)} {s : Shared} {σ : St} {H : Hp} {Q : VK} {elt tg iter : Expr} {ifs : List Expr} {scope : Scope} {own : List (Str × Nat)} {pos pos' : Pos} {wi : TI} {g : TG} {tt : TT} {te : TE} {use : Option (Value -> Sem Unit)} {Qf : Value -> Shared -> Prop}
  (hc : X.calm = true) (hN : X.N.Nodup) (I : Inv X pins σ H s) (hi : PI X tg iter wi) (ok : BlkOk X.N X.env.scope scope own)
  (hg : ∀ (s : Shared) (H : Hp) (C : Addr) (cl : List (Str × Addr)) (fp : List Addr), PG (X.blk s H scope (compEnvC scope cl C X.env) fp) tg g) (ht : ∀ (s : Shared) (H : Hp) (C : Addr) (cl : List (Str × Addr)) (fp : List Addr), PTs (X.blk s H scope (compEnvC scope cl C X.env) fp) ifs tt)
  (he : ∀ (s : Shared) (H : Hp) (C : Addr) (cl : List (Str × Addr)) (fp : List Addr), PE (X.blk s H scope (compEnvC scope cl C X.env) fp) elt te) (hs : ∀ x, foldedSetIterable iter X.env x = pure x)
  (h : tLc wi g tt te (own.map (·.2)) σ H Q)
  (hRR : ∀ D C s' m H', Inv X pins σ H' s' -> Q (.ref D) H' -> s'.heap.Ns C m -> FpOk X pins H' C -> compPost (model X.prog X.w) X.A X.xe use Qf (.ref D) C (.ok .next) s') :
  wpAny (model X.prog X.w) X.A (comprehension (.ListComp elt [⟨tg, iter, ifs, 0⟩] scope pos) scope X.env pos' (newList []) false (eval iter X.env) use) Qf X.xe s := by
 have hfree : ∀ y ∈ scope.names, y.2 = .free -> ∃ c, X.env.cells.lookup y.1 = some c := fun y hy e => by
  rcases ok.free y hy e with k | k
  ·exact I.ok.has _ (.inl k)
  ·exact I.ok.has _ (.inr k)
 refine wpAny_comprehension_free (use := use) rfl hs (qgy hfree) ok.kind (fun y hy e => by rw [ok.uniq y hy, e])
  (thn (hi pins s σ H _ I h) fun xv s1 hx => thn hx fun itv s2 h2 => ?_)
 obtain ⟨it, fp, tn, J, H2, e, I2, T, st2, f2, q⟩ := h2
 subst e
 refine wpAny_newObj_type (qfB ?_) (by show 0 <= sizeLine; decide)
 generalize hD : s2.heap.objs.size = D
 have hDn : H2 D = none := I2.hok.fresh (Nat.le_of_eq hD)
 obtain ⟨W, ⟨m0, w0⟩, turn⟩ := q D hDn
 generalize hs3 : ({ s2 with heap := s2.heap.push { cls := .type "list", data := .seq ([] : List Value).toArray } } : Shared) = s3
 have I3 : Inv X pins σ (upd H2 D (.lst [])) s3 := by
  rw [<- hs3]
  refine I2.laid (t' := s2.toks) (fun b o e => Heap.get?_push_of_some _ e) (Nat.le_of_eq hD) ⟨Nat.zero_le _, [], 0, .nil, ?_⟩
  rw [<- hD]
  exact Heap.get?_push_size _ rfl
 have h3 : s3.heap = s2.heap.push { cls := .type "list", data := .seq ([] : List Value).toArray } := by rw [<- hs3]
 have sz : ∀ b ∈ fp, b < s2.heap.objs.size := fun b hb => by
  obtain ⟨o, e, _⟩ := T.obj _ _ st2 b hb
  exact Heap.lt_size e
 have f3 : ∀ b ∈ fp, FpOk X pins (upd H2 D (.lst [])) b /\ b < s3.heap.objs.size := fun b hb => by
  have hlt := sz b hb
  refine ⟨⟨?_, (f2 b hb).2⟩, by rw [h3, Heap.size_push]; exact Nat.lt_succ_of_lt hlt⟩
  rw [qaq (by rw [<- hD]; exact Nat.ne_of_lt hlt)]
  exact (f2 b hb).1
 have st3 : tn 0 s3.heap := T.keep _ _ _ st2 fun b _ o e => by rw [h3]; exact Heap.get?_push_of_some _ e
 have I4 := qfn I3 ok hN f3
 have pg := hg s3 (upd H2 D (.lst [])) s3.heap.objs.size (cellsFrom (s3.heap.objs.size + 1) scope.names (cloFrom X.env.cells scope.names [])) fp
 have pt := ht s3 (upd H2 D (.lst [])) s3.heap.objs.size (cellsFrom (s3.heap.objs.size + 1) scope.names (cloFrom X.env.cells scope.names [])) fp
 have pe := he s3 (upd H2 D (.lst [])) s3.heap.objs.size (cellsFrom (s3.heap.objs.size + 1) scope.names (cloFrom X.env.cells scope.names [])) fp
 show codeAny _ _ (.compStart (.ListComp elt [⟨tg, iter, ifs, 0⟩] scope pos) 0 (.ref it) (.ref D) (compEnvC scope (cellsFrom (s3.heap.objs.size + 1) scope.names (cloFrom X.env.cells scope.names [])) s3.heap.objs.size X.env)) (compPost (model X.prog X.w) X.A X.xe use Qf (.ref D) s3.heap.objs.size) { s3 with heap := pushCells (s3.heap.push { cls := .type "dict", data := .dict #[] }) scope.names }
 have nfp : ∀ b ∈ fp, (upd H2 D (.lst [])) b = none := fun b hb => (f3 b hb).1.1
 generalize hce : compEnvC scope (cellsFrom (s3.heap.objs.size + 1) scope.names (cloFrom X.env.cells scope.names [])) s3.heap.objs.size X.env = ce at I4 pg pt pe ⊢
 have cL : ce.locals = s3.heap.objs.size := by subst hce; rfl
 generalize hH3 : upd H2 D (.lst []) = H3 at I3 I4 pg pt pe w0 nfp f3
 generalize hs4 : ({ s3 with heap := pushCells (s3.heap.push { cls := .type "dict", data := .dict #[] }) scope.names } : Shared) = s4 at I4 ⊢
 have st4 : tn 0 s4.heap := T.keep _ _ _ st3 fun b _ o e => by rw [<- hs4]; exact pushCells_keeps _ _ _ _ (Heap.get?_push_of_some _ e)
 have stat : ∀ {σ' : St} {H' : Hp} {s' : Shared}, Inv (X.blk s3 H3 scope ce fp) [] σ' H' s' -> (∀ b ∈ fp, H' b = none) -> ∀ b ∈ fp, FpOk (X.blk s3 H3 scope ce fp) [] H' b := fun {σ' H' s'} I' hn b hb =>
  ⟨hn b hb, (I'.ok.exf b hb).1, I'.ok.exfs b hb, .inl hb, fun x c e => (I'.ok.exf b hb).2 x c e, fun p hp => absurd (show p ∈ ([] : List (Addr × Obj)) ++ [] from hp) (by simp)⟩
 have loop : codeAny (model X.prog X.w) X.A (.compLoop (.ListComp elt [⟨tg, iter, ifs, 0⟩] scope pos) 0 (.ref it) (.ref D) ce) (compPost (model X.prog X.w) X.A X.xe use Qf (.ref D) s3.heap.objs.size) s4 := by
  refine qex (fun n s' => ∃ i H', Inv (X.blk s3 H3 scope ce fp) [] (wipe σ (own.map (·.2))) H' s' /\ tn i s'.heap /\ (∀ b ∈ fp, H' b = none) /\ W i n H') ?_ m0 ⟨0, H3, I4, st4, nfp, w0⟩
  rintro n s5 ⟨i, H5, I5, st5, n5, w5⟩
  rcases turn i n H5 w5 with ⟨stop, qq⟩ | ⟨go, Nx, hNx, step⟩
  ·have td := T.done (X.blk s3 H3 scope ce fp) rfl rfl rfl hc i [] s5 _ H5 (fun _ _ => False) I5 (stat I5 n5) st5 stop
   refine thnF td fun r s6 ⟨hr, I6⟩ => ?_
   subst hr
   have I7 : Inv X pins σ H5 s6 := I3.call' (ch := fp) I6.os I6.base I6.hok I6.bare fun b hb => ⟨(f3 b hb).1.2.2.2.1, (f3 b hb).1.2.1, (f3 b hb).1.2.2.2.2.1, (f3 b hb).1.2.2.2.2.2⟩
   have nC : H5 s3.heap.objs.size = none := by
    have z : H5 ce.locals = none := I6.free
    rw [cL] at z
    exact z
   obtain ⟨m, hn, _⟩ := I6.loc
   have hn : s6.heap.Ns ce.locals m := hn
   rw [cL] at hn
   exact hRR D s3.heap.objs.size s6 m H5 I7 qq hn (I3.fpOk (Nat.le_refl _) nC)
  ·have ti := T.item (X.blk s3 H3 scope ce fp) rfl rfl rfl hc i [] s5 _ H5 (fun _ _ => False) I5 (stat I5 n5) st5 go
   refine thnF ti fun r s6 ⟨u, hr, h6⟩ => ?_
   subst hr
   refine thnF h6 fun _ s7 ⟨x, H7, I7, r7, y7, st7, n7⟩ => ?_
   have I7' := I7.pinned (stat I7 n7) (T.obj _ _ st7)
   refine thnF (pg _ s7 _ H7 x u _ I7' r7 (step x H7 y7)) fun _ s8 ⟨σ8, H8, I8, hw8, q8⟩ => ?_
   refine thnF (pt _ s8 σ8 H8 _ I8 q8) fun b s9 ⟨H9, I9, q9⟩ => ?_
   have fin : ∀ {s' : Shared} {H' : Hp}, Inv (X.blk s3 H3 scope ce fp) ([] ++ pinsAt fp s7.heap) σ8 H' s' -> Nx H' -> ∃ m, m < n /\ ∃ i H', Inv (X.blk s3 H3 scope ce fp) [] (wipe σ (own.map (·.2))) H' s' /\ tn i s'.heap /\ (∀ b ∈ fp, H' b = none) /\ W i m H' := fun {s' H'} I' nx => by
    obtain ⟨m', hm, w'⟩ := hNx H' nx
    have pin' : ∀ b ∈ fp, ∀ o, s7.heap.get? b = some o -> s'.heap.get? b = some o /\ H' b = none := fun b hb o e =>
     let z := I'.pin (b, o) (List.mem_append_right _ (List.mem_append_right _ (qcL hb e)))
     ⟨z.1, z.2.1⟩
    have hl : (wipe σ (own.map (·.2))).length = σ8.length := by rw [<- hw8, qcs]
    refine ⟨m', hm, i + 1, H', (I'.unpinned (pins := [])).weak hl (fun j v e => ?_), T.keep _ _ _ st7 fun b hb o e => (pin' b hb o e).1, fun b hb => ?_, w'⟩
    ·rw [<- hw8] at e
     exact (qdj e).1
    ·obtain ⟨o, e, _⟩ := T.obj _ _ st7 b hb
     exact (pin' b hb o e).2
   cases b with
   | false =>
    simp only [Bool.false_eq_true, if_false] at q9 ⊢
    exact fin I9 q9
   | true =>
    simp only [if_true] at q9 ⊢
    refine thnF (pe _ s9 σ8 H9 _ I9 q9) fun z s10 ⟨yv, H10, I10, r10, acc, hD10, hz10, nx⟩ => ?_
    exact app_ok (X := X.blk s3 H3 scope ce fp) I10 hD10 hz10 r10 fun s11 I11 => fin I11 nx
 exact codeAny_compStart_list loop (T.self X.A 0 _ _ _ st4 loop)
theorem qgk {elt tg iter : Expr} {ifs : List Expr} {scope : Scope} {own : List (Str × Nat)} {pos : Pos} {wi : TI} {g : TG} {tt : TT} {te : TE} (hc : X.calm = true) (hN : X.N.Nodup) (hi : PI X tg iter wi) (ok : BlkOk X.N X.env.scope scope own)
  (hg : ∀ (s : Shared) (H : Hp) (C : Addr) (cl : List (Str × Addr)) (fp : List Addr), PG (X.blk s H scope (compEnvC scope cl C X.env) fp) tg g) (ht : ∀ (s : Shared) (H : Hp) (C : Addr) (cl : List (Str × Addr)) (fp : List Addr), PTs (X.blk s H scope (compEnvC scope cl C X.env) fp) ifs tt)
  (he : ∀ (s : Shared) (H : Hp) (C : Addr) (cl : List (Str × Addr)) (fp : List Addr), PE (X.blk s H scope (compEnvC scope cl C X.env) fp) elt te) (hs : ∀ x, foldedSetIterable iter X.env x = pure x := by intro _; rfl) :
  PE X (.ListComp elt [⟨tg, iter, ifs, 0⟩] scope pos) (tLc wi g tt te (own.map (·.2))) := by
 intro pins s σ H Q I h
 rw [eval_ListComp]
 refine qln hc hN I hi ok hg ht he hs h fun D C s' m H' I' q hn f => ⟨m, hn, fun h'' sb => ?_⟩
 obtain ⟨f0, f1, f2, f3, f4, f5⟩ := f
 exact ⟨.ref D, H', I'.turned (t' := s'.toks) (fun b o hb e => (sb.2 b hb).trans e) f0 f1 f3 f4 f5, rfl, q⟩
end
theorem qfG {lo : Int} {n : Nat} {g : TG} {tt : TT} {te : TE} {vs : List Nat} {σ : St} {H1 : Hp} {D : Addr} {Qd : Hp -> Prop} (Pv : Nat -> Hp -> Prop) (h0 : Pv 0 (upd H1 D (.lst [])))
  (hs : ∀ i H, i < n -> Pv i H -> g (.int (lo + i)) (wipe σ vs) H fun σ2 H2 => wipe σ2 vs = wipe σ vs /\ tt σ2 H2 fun b H3 =>
   if b = true then te σ2 H3 fun y H4 => ∃ acc, H4 D = some (.lst acc) /\ acc.length < sizeLine /\ Pv (i + 1) (upd H4 D (.lst (acc ++ [y]))) else Pv (i + 1) H3) (hd : ∀ H, Pv n H -> Qd H) :
  ∃ W : Nat -> Nat -> Hp -> Prop, (∃ m, W 0 m (upd H1 D (.lst []))) /\ ∀ i m H, W i m H ->
   ((Itr lo n).stop i H /\ Qd H) \/ ((Itr lo n).go i H /\ ∃ Nx : Hp -> Prop, (∀ H', Nx H' -> ∃ m', m' < m /\ W (i + 1) m' H') /\ ∀ x H', (Itr lo n).yld i H x H' -> g x (wipe σ vs) H' fun σ2 H2 => wipe σ2 vs = wipe σ vs /\ tt σ2 H2 fun b H3 =>
    if b = true then te σ2 H3 fun y H4 => ∃ acc, H4 D = some (.lst acc) /\ acc.length < sizeLine /\ Nx (upd H4 D (.lst (acc ++ [y]))) else Nx H3) := by
 refine ⟨fun i m H => m = n - i /\ i <= n /\ Pv i H, ⟨n, by simp, Nat.zero_le _, h0⟩, ?_⟩
 rintro i m H ⟨rfl, hi, p⟩
 by_cases hlt : i < n
 ·refine .inr ⟨hlt, Pv (i + 1), fun H' p' => ⟨n - (i + 1), by omega, rfl, hlt, p'⟩, fun x H' y => ?_⟩
  obtain ⟨e, y⟩ := y
  subst e y
  exact hs i _ hlt p
 ·have e : i = n := by omega
  subst e
  exact .inl ⟨Nat.le_refl _, hd H p⟩
theorem qdV {K : PySem.W.Frag} {a : Addr} {xs : List V} {g : TG} {tt : TT} {te : TE} {vs : List Nat} {σ : St} {H1 : Hp} {D : Addr} {Qd : Hp -> Prop} (Pv : Nat -> Hp -> Prop) (h0 : Pv 0 (upd H1 D (.lst []))) (hl : ∀ i H, i <= xs.length -> Pv i H -> SqL K H a xs)
  (hs : ∀ i x H, xs[i]? = some x -> Pv i H -> g x (wipe σ vs) H fun σ2 H2 => wipe σ2 vs = wipe σ vs /\ tt σ2 H2 fun b H3 =>
   if b = true then te σ2 H3 fun y H4 => ∃ acc, H4 D = some (.lst acc) /\ acc.length < sizeLine /\ Pv (i + 1) (upd H4 D (.lst (acc ++ [y]))) else Pv (i + 1) H3) (hd : ∀ H, Pv xs.length H -> Qd H) :
  ∃ W : Nat -> Nat -> Hp -> Prop, (∃ m, W 0 m (upd H1 D (.lst []))) /\ ∀ i m H, W i m H ->
   ((Itl K a).stop i H /\ Qd H) \/ ((Itl K a).go i H /\ ∃ Nx : Hp -> Prop, (∀ H', Nx H' -> ∃ m', m' < m /\ W (i + 1) m' H') /\ ∀ x H', (Itl K a).yld i H x H' -> g x (wipe σ vs) H' fun σ2 H2 => wipe σ2 vs = wipe σ vs /\ tt σ2 H2 fun b H3 =>
    if b = true then te σ2 H3 fun y H4 => ∃ acc, H4 D = some (.lst acc) /\ acc.length < sizeLine /\ Nx (upd H4 D (.lst (acc ++ [y]))) else Nx H3) := by
 refine ⟨fun i m H => m = xs.length - i /\ i <= xs.length /\ Pv i H, ⟨xs.length, by simp, Nat.zero_le _, h0⟩, ?_⟩
 rintro i m H ⟨rfl, hi, p⟩
 have q := hl i H hi p
 by_cases hlt : i < xs.length
 ·refine .inr ⟨⟨xs, xs[i], q, by simp [hlt]⟩, Pv (i + 1), fun H' p' => ⟨xs.length - (i + 1), by omega, rfl, hlt, p'⟩, fun x H' y => ?_⟩
  obtain ⟨e, y⟩ := y
  subst e
  exact hs i x _ (y xs q) p
 ·have e : i = xs.length := by omega
  subst e
  exact .inl ⟨⟨xs, q, Nat.le_refl _⟩, hd H p⟩
def blkC (N : List Str) (sc scope : Scope) (own : List (Str × Nat)) : Bool :=
 (match scope.kind with | .function => true | _ => false) && (scope.names.all fun y => decide (scope.names.lookup y.1 = some y.2)) && (own.all fun p => decide (N[p.2]? = some p.1)) &&
  (scope.names.all fun y => match y.2 with
   | .free => (match sc.names.lookup y.1 with | some .cell => true | some .free => true | _ => false)
   | .local => decide (y.1 ∈ own.map (·.1)) || decide (y.1 ∉ N)
   | .cell => decide (y.1 ∈ own.map (·.1)) || decide (y.1 ∉ N)
   | _ => true)
theorem qcd {N : List Str} {sc scope : Scope} {own : List (Str × Nat)} (h : blkC N sc scope own = true) : BlkOk N sc scope own := by
 unfold blkC at h
 simp only [Bool.and_eq_true, List.all_eq_true, decide_eq_true_eq] at h
 obtain ⟨⟨⟨h1, h2⟩, h3⟩, h4⟩ := h
 refine ⟨?_, h2, h3, fun y hy e => ?_, fun y hy e => ?_⟩
 ·split at h1
  ·assumption
  ·cases h1
 ·have q := h4 y hy
  simp only [e] at q
  split at q <;> first | exact .inl (by assumption) | exact .inr (by assumption) | cases q
 ·have q := h4 y hy
  rcases e with e | e <;> (simp only [e, Bool.or_eq_true, decide_eq_true_eq] at q; exact q)
end L2
namespace L2
open PySem PySem.Spec PyProof.Rows
section
variable {κ : Type} [DecidableEq κ]
def valV (kvs : List (κ × V)) (k : κ) : Option V := (kvs.find? fun kv => decide (kv.1 = k)).map (·.2)
def putK (kvs : List (κ × V)) (k : κ) (v : V) : List (κ × V) :=
 if (kvs.any fun kv => decide (kv.1 = k)) = true then kvs.map (fun kv => if kv.1 = k then (kv.1, v) else kv) else kvs ++ [(k, v)]
def dropK (kvs : List (κ × V)) (k : κ) : List (κ × V) := kvs.filter fun kv => decide (kv.1 ≠ k)
theorem qc1 {p : κ × V} {r : List (κ × V)} {k : κ} (e : p.1 = k) : valV (p :: r) k = some p.2 := by simp [valV, List.find?_cons, e]
theorem qc5 {p : κ × V} {r : List (κ × V)} {k : κ} (e : ¬ p.1 = k) : valV (p :: r) k = valV r k := by simp [valV, List.find?_cons, e]
theorem qd9 (k : κ) : ∀ kvs : List (κ × V), (kvs.any fun kv => decide (kv.1 = k)) = (valV kvs k).isSome
 | [] => rfl
 | p :: r => by
  rw [List.any_cons]
  by_cases e : p.1 = k
  ·simp only [qc1 e, decide_eq_true e, Bool.true_or, Option.isSome_some]
  ·rw [qc5 e, decide_eq_false e, Bool.false_or]; exact qd9 k r
theorem qda (kvs : List (κ × V)) (k : κ) (v : V) : (putK kvs k v).length <= kvs.length + 1 := by
 unfold putK
 split
 ·rw [List.length_map]; omega
 ·rw [List.length_append, List.length_cons, List.length_nil]; omega
theorem qig {kvs : List (κ × V)} {k : κ} (v : V) (h : valV kvs k = none) : putK kvs k v = kvs ++ [(k, v)] := by
 unfold putK
 rw [qd9, h]
 exact if_neg (by decide)
theorem RelO.isSome_eq {o : Option V} {u : Option Value} (r : RelO o u) : o.isSome = u.isSome := by
 cases o with
 | none => cases u with
  | none => rfl
  | some _ => exact (show False from r).elim
 | some _ => cases u with
  | none => exact (show False from r).elim
  | some _ => rfl
theorem KV.val {kvs : List (κ × V)} {vs : List (κ × Value)} (r : KV kvs vs) (k : κ) : RelO (valV kvs k) (valueAt vs k) := by
 unfold KV at r
 induction r with
 | nil => exact True.intro
 | @cons p q ps qs h t ih =>
  obtain ⟨h1, h2⟩ := h
  by_cases e : p.1 = k
  ·have e' : q.1 = k := h1.symm.trans e
   have b : valueAt (q :: qs) k = some q.2 := by simp [valueAt, List.find?_cons, e']
   rw [qc1 e, b]; exact h2
  ·have e' : ¬ q.1 = k := fun z => e (h1.trans z)
   have b : valueAt (q :: qs) k = valueAt qs k := by simp [valueAt, List.find?_cons, e']
   rw [qc5 e, b]; exact ih
theorem KV.any {kvs : List (κ × V)} {vs : List (κ × Value)} (r : KV kvs vs) (k : κ) : (kvs.any fun kv => decide (kv.1 = k)) = vs.any fun kv => decide (kv.1 = k) := by
 unfold KV at r
 induction r with
 | nil => rfl
 | cons h t ih => rw [List.any_cons, List.any_cons, ih, h.1]
theorem KV.repl {kvs : List (κ × V)} {vs : List (κ × Value)} (r : KV kvs vs) (k : κ) {y : V} {u : Value} (ry : RelV y u) :
  KV (kvs.map fun kv => if kv.1 = k then (kv.1, y) else kv) (vs.map fun kv => if kv.1 = k then (kv.1, u) else kv) := by
 unfold KV at r ⊢
 induction r with
 | nil => exact .nil
 | @cons p q ps qs h t ih =>
  rw [List.map_cons, List.map_cons]
  refine .cons ?_ ih
  obtain ⟨h1, h2⟩ := h
  by_cases e : p.1 = k
  ·rw [if_pos e, if_pos (h1.symm.trans e)]; exact ⟨h1, ry⟩
  ·rw [if_neg e, if_neg (fun z => e (h1.trans z))]; exact ⟨h1, h2⟩
theorem KV.put {kvs : List (κ × V)} {vs : List (κ × Value)} (r : KV kvs vs) (k : κ) {y : V} {u : Value} (ry : RelV y u) : KV (putK kvs k y) (stored vs k u) := by
 unfold putK stored
 rw [r.any k]
 by_cases e : (vs.any fun kv => decide (kv.1 = k)) = true
 ·rw [if_pos e, if_pos e]; exact r.repl k ry
 ·rw [if_neg e, if_neg e]; exact Paired.snoc r ⟨rfl, ry⟩
theorem KV.drop {kvs : List (κ × V)} {vs : List (κ × Value)} (r : KV kvs vs) (k : κ) : KV (dropK kvs k) (without vs k) := by
 unfold KV at r ⊢
 unfold dropK without
 induction r with
 | nil => exact .nil
 | @cons p q ps qs h t ih =>
  obtain ⟨h1, h2⟩ := h
  rw [List.filter_cons, List.filter_cons]
  by_cases e : p.1 = k
  ·have a : ¬ decide (p.1 ≠ k) = true := by simp [e]
   have b : ¬ decide (q.1 ≠ k) = true := by simp [h1.symm.trans e]
   rw [if_neg a, if_neg b]; exact ih
  ·have e' : ¬ q.1 = k := fun z => e (h1.trans z)
   have a : decide (p.1 ≠ k) = true := by simp [e]
   have b : decide (q.1 ≠ k) = true := by simp [e']
   rw [if_pos a, if_pos b]; exact .cons ⟨h1, h2⟩ ih
theorem KV.length {kvs : List (κ × V)} {vs : List (κ × Value)} (r : KV kvs vs) : kvs.length = vs.length := Paired.length r
theorem qf0 (kvs : List (κ × V)) (k : κ) : (dropK kvs k).length <= kvs.length := List.length_filter_le _ _
end
theorem qdX {P : Program} {w : World} {k : Key} {u : Value} (r : RelV (kV k) u) : (mixKind P w).is k u = true := by
 cases k with
 | inl i => obtain ⟨t, e⟩ := (show ∃ t, u = Value.int i t from r); subst e; exact qe6 P w i t
 | inr x => obtain ⟨t, e⟩ := (show ∃ t, u = Value.str x t from r); subst e; exact qfi P w x t
theorem qes {P : Program} {w : World} : ∀ {ks : List Key} {us : List Value}, Vals (ks.map kV) us -> ItemsAre (mixKind P w) ks us
 | [], _, r => by rw [List.map_nil] at r; cases r; exact .nil
 | k :: ks, _, r => by
  rw [List.map_cons] at r
  cases r with
  | cons h t => exact .cons (qdX h) (qes t)
abbrev KT (H : Hp) : List (List Key × V) -> List (List Key × Addr × Value) -> Prop := Paired fun p q => p.1 = q.1 /\ H q.2.1 = some (.tup (p.1.map kV)) /\ RelV p.2 q.2.2
theorem KT.val {H : Hp} {kvs : List (List Key × V)} {xs : List (List Key × Addr × Value)} (r : KT H kvs xs) (k : List Key) : RelO (valV kvs k) ((atKey xs k).map (·.2)) := by
 induction r with
 | nil => exact True.intro
 | @cons p q ps qs h t ih =>
  obtain ⟨h1, _, h2⟩ := h
  by_cases e : p.1 = k
  ·have e' : q.1 = k := h1.symm.trans e
   have b : atKey (q :: qs) k = some q.2 := by simp [atKey, List.find?_cons, e']
   rw [qc1 e, b]; exact h2
  ·have e' : ¬ q.1 = k := fun z => e (h1.trans z)
   have b : atKey (q :: qs) k = atKey qs k := by simp [atKey, List.find?_cons, e']
   rw [qc5 e, b]; exact ih
theorem KT.repl {H : Hp} {kvs : List (List Key × V)} {xs : List (List Key × Addr × Value)} (r : KT H kvs xs) (k : List Key) {y : V} {u : Value} (ry : RelV y u) :
  KT H (kvs.map fun kv => if kv.1 = k then (kv.1, y) else kv) (xs.map (putAt k u)) := by
 induction r with
 | nil => exact .nil
 | @cons p q ps qs h t ih =>
  rw [List.map_cons, List.map_cons]
  refine .cons ?_ ih
  obtain ⟨h1, h2, h3⟩ := h
  unfold putAt
  by_cases e : p.1 = k
  ·rw [if_pos e, if_pos (h1.symm.trans e)]; exact ⟨h1, h2, ry⟩
  ·rw [if_neg e, if_neg (fun z => e (h1.trans z))]; exact ⟨h1, h2, h3⟩
theorem KT.put {H : Hp} {kvs : List (List Key × V)} {xs : List (List Key × Addr × Value)} (r : KT H kvs xs) (k : List Key) {b : Addr} {y : V} {u : Value} (hb : H b = some (.tup (k.map kV))) (ry : RelV y u) :
  KT H (putK kvs k y) (storedH xs k b u) := by
 have e : (kvs.any fun kv => decide (kv.1 = k)) = (atKey xs k).isSome := by
  rw [qd9, (r.val k).isSome_eq, Option.isSome_map]
 unfold putK storedH
 rw [e]
 by_cases q : (atKey xs k).isSome = true
 ·rw [if_pos q, if_pos q]; exact r.repl k ry
 ·rw [if_neg q, if_neg q]; exact Paired.snoc r ⟨rfl, hb, ry⟩
theorem KT.keeps {H H' : Hp} {kvs : List (List Key × V)} {xs : List (List Key × Addr × Value)} (r : KT H kvs xs) (ht : ∀ b ys, H b = some (.tup ys) -> H' b = some (.tup ys)) : KT H' kvs xs :=
 Paired.mapP r fun _ _ z => ⟨z.1, ht _ _ z.2.1, z.2.2⟩
section
variable {P : Program} {w : World} {H : Hp} {h : Heap} {a : Addr}
theorem rd_of {u : HO} (ok : HOk P w H h) (e : Rd H a u) : ObjOk P w H h a u := e.ok ok
theorem qe8 {kvs : List (Key × V)} (ok : HOk P w H h) (e : Rd H a (.dK kvs)) : kvs.length <= sizeLine /\ (a == sysModules) = false /\ ∃ vs, KV kvs vs /\ h.DictOf (mixKind P w) a vs :=
 show ObjOk P w H h a (.dK kvs) from rd_of ok e
theorem qid {kvs : List (Key × V)} (ok : HOk P w H h) (e : H a = some (.dK kvs)) : kvs.length <= sizeLine /\ (a == sysModules) = false /\ ∃ vs, KV kvs vs /\ h.DictOf (mixKind P w) a vs := qe8 ok (.inl e)
theorem qeU {ks : List Key} (ok : HOk P w H h) (e : H a = some (.tup (ks.map kV))) : (tupleKind (mixKind P w)).is h ks a := by
 obtain ⟨_, its, r, o, h1, h2, n, h3⟩ := (show ObjOk P w H h a (.tup (ks.map kV)) from ok a _ e)
 exact ⟨o, its.toArray, n, h1, h2, h3, by simpa using qes r⟩
theorem qgc {kvs : List (List Key × V)} (ok : HOk P w H h) (e : Rd H a (.dT kvs)) : kvs.length <= sizeLine /\ (a == sysModules) = false /\
  ∃ xs, KT H kvs xs /\ h.DictOfH (tupleKind (mixKind P w)) a xs := by
 obtain ⟨z, y, xs, r, o, es, ep, h1, h2, h3, h4, h5⟩ := (show ObjOk P w H h a (.dT kvs) from rd_of ok e)
 refine ⟨z, y, xs, r, o, es, ep, h1, h2, h3, h4, fun x hx => ?_, h5⟩
 have all : ∀ {l : List (List Key × V)} {m : List (List Key × Addr × Value)}, KT H l m -> ∀ x ∈ m, (tupleKind (mixKind P w)).is h x.1 x.2.1 := by
  intro l m q
  induction q with
  | nil => intro x hx; exact nomatch hx
  | @cons p q ps qs hq t ih =>
   intro x hx
   rcases List.mem_cons.mp hx with e | hx
   ·subst e
    exact qeU ok (by rw [<- hq.1]; exact hq.2.1)
   ·exact ih x hx
 exact all r x hx
theorem dt_of {kvs : List (List Key × V)} (ok : HOk P w H h) (e : H a = some (.dT kvs)) : kvs.length <= sizeLine /\ (a == sysModules) = false /\
  ∃ xs, KT H kvs xs /\ h.DictOfH (tupleKind (mixKind P w)) a xs := qgc ok (.inl e)
end
def DGet (H : Hp) (a : Addr) (y : V) (r : Option V) : Prop :=
 (∃ kvs k, Rd H a (.dK kvs) /\ y = kV k /\ r = valV kvs k) \/ ∃ kvs k b, Rd H a (.dT kvs) /\ y = .ref b /\ H b = some (.tup (k.map kV)) /\ r = valV kvs k
def DPut (H : Hp) (a : Addr) (y v : V) (H' : Hp) : Prop :=
 (∃ kvs k, H a = some (.dK kvs) /\ y = kV k /\ kvs.length < sizeLine /\ H' = upd H a (.dK (putK kvs k v))) \/
 ∃ kvs k b, H a = some (.dT kvs) /\ y = .ref b /\ H b = some (.tup (k.map kV)) /\ kvs.length < sizeLine /\ H' = upd H a (.dT (putK kvs k v))
theorem DGet.k {H : Hp} {a : Addr} {kvs : List (Key × V)} {k : Key} (e : H a = some (.dK kvs)) : DGet H a (kV k) (valV kvs k) := .inl ⟨kvs, k, .inl e, rfl, rfl⟩
theorem DPut.k {H : Hp} {a : Addr} {kvs : List (Key × V)} {k : Key} {v : V} (e : H a = some (.dK kvs)) (hl : kvs.length < sizeLine) : DPut H a (kV k) v (upd H a (.dK (putK kvs k v))) := .inl ⟨kvs, k, e, rfl, hl, rfl⟩
section
variable {X : Cx} {pins : List (Addr × Obj)} {σ : St} {H : Hp} {s : Shared} {a : Addr} {y v : V} {u r : Value} {o : Option V} {A : Around} {E : Value -> Shared -> Prop}
theorem Inv.big (I : Inv X pins σ H s) : sysModules < s.heap.objs.size := by
 have h : mainGlobals < s.heap.objs.size := (I.mod.glob.keeps I.bk).lt
 exact Nat.lt_trans (by decide) h
theorem qgF {Q : Value -> Shared -> Prop} (hu : A.units + 1 < cLine) (I : Inv X pins σ H s) (g : DGet H a y (some v)) (ry : RelV y u) (h : ∀ w' s', Inv X pins σ H s' -> RelV v w' -> Q w' s') :
  wpAny (model X.prog X.w) A (getItem (.ref a) u) Q E s := by
 rcases g with ⟨kvs, k, e, ey, l⟩ | ⟨kvs, k, b, e, ey, eb, l⟩
 ·subst ey
  obtain ⟨z, hd, vs, rel, dd⟩ := qe8 I.hok e
  obtain ⟨w', hw, rw'⟩ := RelO.some_of (v := v) (o := valueAt vs k) (by rw [l]; exact rel.val k)
  exact wpAny_getItem_of (qdX ry) dd.mapOf hw (h w' _ (I.tok _) rw')
 ·subst ey
  cases (show u = Value.ref b from ry)
  obtain ⟨z, hd, xs, rel, dd⟩ := qgc I.hok e
  obtain ⟨w', hw, rw'⟩ := RelO.some_of (v := v) (o := (atKey xs k).map (·.2)) (by rw [l]; exact rel.val k)
  obtain ⟨p, hp, hp2⟩ := Option.map_eq_some_iff.mp hw
  refine wpAny_getItem_heap (tupleKind_room_in1 hu) (qeU I.hok eb) dd hp ?_
  rw [hp2]
  exact h w' _ (I.tok _) rw'
theorem d_in {Q : Value -> Shared -> Prop} (hu : A.units + 1 < cLine) (I : Inv X pins σ H s) (g : DGet H a y o) (ry : RelV y u) (h : ∀ s', Inv X pins σ H s' -> Q (.bool o.isSome) s') :
  wpAny (model X.prog X.w) A (compareOp .In u (.ref a)) Q E s := by
 rcases g with ⟨kvs, k, e, ey, l⟩ | ⟨kvs, k, b, e, ey, eb, l⟩
 ·subst ey
  obtain ⟨z, hd, vs, rel, dd⟩ := qe8 I.hok e
  refine wpAny_in_of (qdX ry) hd dd.mapOf ?_
  rw [<- (rel.val k).isSome_eq, <- l]
  exact h _ (I.tok _)
 ·subst ey
  cases (show u = Value.ref b from ry)
  obtain ⟨z, hd, xs, rel, dd⟩ := qgc I.hok e
  refine wpAny_in_heap (tupleKind_room_in1 hu) (qeU I.hok eb) hd dd ?_
  have q := (rel.val k).isSome_eq
  rw [Option.isSome_map] at q
  rw [<- q, <- l]
  exact h _ (I.tok _)
theorem qk6 {Q : Value -> Shared -> Prop} (hu : A.units + 1 < cLine) (I : Inv X pins σ H s) (g : DGet H a y o) (ry : RelV y u) (h : ∀ s', Inv X pins σ H s' -> Q (.bool (!o.isSome)) s') :
  wpAny (model X.prog X.w) A (compareOp .NotIn u (.ref a)) Q E s := by
 rcases g with ⟨kvs, k, e, ey, l⟩ | ⟨kvs, k, b, e, ey, eb, l⟩
 ·subst ey
  obtain ⟨z, hd, vs, rel, dd⟩ := qe8 I.hok e
  refine wpAny_notIn_of (qdX ry) hd dd.mapOf ?_
  rw [<- (rel.val k).isSome_eq, <- l]
  exact h _ (I.tok _)
 ·subst ey
  cases (show u = Value.ref b from ry)
  obtain ⟨z, hd, xs, rel, dd⟩ := qgc I.hok e
  refine wpAny_notIn_heap (tupleKind_room_in1 hu) (qeU I.hok eb) hd dd ?_
  have q := (rel.val k).isSome_eq
  rw [Option.isSome_map] at q
  rw [<- q, <- l]
  exact h _ (I.tok _)
theorem qed {h' : Heap} {t' : Nat} {ob : HO} (I : Inv X pins σ H s) (mu : Mut (H a)) (hs : Heap.SameBut a s.heap h') (he : ∃ q, h'.get? a = some q) (new : ObjOk X.prog X.w (upd H a ob) h' a ob) :
  Inv X pins σ (upd H a ob) { s with heap := h', toks := t' } :=
 I.write (x := a) (e := a) mu (.inl rfl) (fun b q hb z => (hs.2 b hb).trans z) he new
theorem qhM {P : Program} {w : World} {H' : Hp} {h' : Heap} {kvs : List (Key × V)} {vs : List (Key × Value)} (z : kvs.length <= sizeLine) (hd : (a == sysModules) = false) (rel : KV kvs vs) (dd : h'.DictOf (mixKind P w) a vs) :
  ObjOk P w H' h' a (.dK kvs) := ⟨z, hd, vs, rel, dd⟩
theorem qg2 {H' : Hp} {Q : Unit -> Shared -> Prop} (hu : A.units + 1 < cLine) (I : Inv X pins σ H s) (g : DPut H a y v H') (ry : RelV y u) (rv : RelV v r) (h : ∀ s', Inv X pins σ H' s' -> Q () s') :
  wpAny (model X.prog X.w) A (setItem (.ref a) u r) Q E s := by
 rcases g with ⟨kvs, k, e, ey, l, eH⟩ | ⟨kvs, k, b, e, ey, eb, l, eH⟩
 ·subst ey eH
  obtain ⟨z, hd, vs, rel, dd⟩ := qid I.hok e
  have hz : vs.length <= sizeLine := by rw [<- rel.length]; exact z
  have hl : (putK kvs k v).length <= sizeLine := by have := qda kvs k v; omega
  refine wpAny_setItem_pairs (hsz := hz) (qdX ry) dd fun h' dd' hs => h _ ?_
  have he : ∃ q, h'.get? a = some q := let ⟨q, _, _, hq, _⟩ := dd'; ⟨q, hq⟩
  exact qed I (by rw [e]; exact True.intro) hs he (qhM hl hd (rel.put k rv) dd')
 ·subst ey eH
  cases (show u = Value.ref b from ry)
  obtain ⟨z, hd, xs, rel, dd⟩ := dt_of I.hok e
  have hz : xs.length <= sizeLine := by rw [<- Paired.length rel]; exact z
  have hl : (putK kvs k v).length <= sizeLine := by have := qda kvs k v; omega
  refine wpAny_setItem_heap (hsz := hz) (tupleKind_room_in1 hu) (qeU I.hok eb) dd fun h' dd' hs => h _ ?_
  obtain ⟨q, es, ep, hq, h2, h3, h4, _, h5⟩ := dd'
  refine qed I (by rw [e]; exact True.intro) hs ⟨q, hq⟩ ⟨hl, hd, _, (rel.put k eb rv).keeps fun c ys ec => ?_, q, es, ep, hq, h2, h3, h4, h5⟩
  rw [qaq (qfd ec e (fun z => nomatch z))]
  exact ec
end
section
variable {X : Cx} {pins : List (Addr × Obj)} {σ : St} {H : Hp} {s : Shared} {a : Addr} {kvs : List (Key × V)} {k : Key} {u : Value} {A : Around} {E : Value -> Shared -> Prop}
theorem d_delItem {Q : Unit -> Shared -> Prop} (I : Inv X pins σ H s) (e : H a = some (.dK kvs)) (ry : RelV (kV k) u) (l : (valV kvs k).isSome = true) (h : ∀ s', Inv X pins σ (upd H a (.dK (dropK kvs k))) s' -> Q () s') :
  wpAny (model X.prog X.w) A (delItem (.ref a) u) Q E s := by
 obtain ⟨z, hd, vs, rel, dd⟩ := qid I.hok e
 refine wpAny_delItem_slot dd.typeIs (by decide) PySem.F.slot_dict_delitem
  (call_meetsIn PySem.F.slot_dict_delitem dd.typeIs PySem.F.entry_dict_delitem (PySem.F.args_dict_delitem_2 _ _) (meets_dict_delitem_pairs (mixKind X.prog X.w) a (qdX ry)) ⟨vs, dd, by rw [<- rel.length]; exact z, by rw [<- (rel.val k).isSome_eq]; exact l, fun h' dd' hs => h _ ?_⟩)
 have he : ∃ q, h'.get? a = some q := let ⟨q, _, _, hq, _⟩ := dd'; ⟨q, hq⟩
 exact qed I (by rw [e]; exact True.intro) hs he (qhM (Nat.le_trans (qf0 kvs k) z) hd (rel.drop k) dd')
theorem d_pop {v : V} {more : List Value} {Q : Value -> Shared -> Prop} (I : Inv X pins σ H s) (e : H a = some (.dK kvs)) (ry : RelV (kV k) u) (l : valV kvs k = some v) (hm : more = [] \/ ∃ x, more = [x])
  (h : ∀ w' s', Inv X pins σ (upd H a (.dK (dropK kvs k))) s' -> RelV v w' -> Q w' s') : wpAny (model X.prog X.w) A (call (.builtin "dict.pop") (.ref a :: u :: more)) Q E s := by
 obtain ⟨z, hd, vs, rel, dd⟩ := qid I.hok e
 obtain ⟨w', hw, rw'⟩ := RelO.some_of (v := v) (o := valueAt vs k) (by rw [<- l]; exact rel.val k)
 have hp : (keyPart u).isSome = true := by
  cases k with
  | inl i => obtain ⟨t, q⟩ := (show ∃ t, u = Value.int i t from ry); subst q; rfl
  | inr x => obtain ⟨t, q⟩ := (show ∃ t, u = Value.str x t from ry); subst q; rfl
 have ha : argsOk "dict.pop" ⟨.ref a :: u :: more, []⟩ := by
  rcases hm with q | ⟨x, q⟩
  ·subst q; exact PySem.F.args_dict_pop_2 _ _
  ·subst q; exact PySem.F.args_dict_pop_3 _ _ _
 refine call_meetsIn PySem.F.slot_dict_pop dd.typeIs PySem.F.entry_dict_pop ha (meets_dict_pop_there (mixKind X.prog X.w) a (qdX ry) more hm hp)
  ⟨vs, w', dd, by rw [<- rel.length]; exact z, hw, fun h' dd' hs => h w' _ ?_ rw'⟩
 have he : ∃ q, h'.get? a = some q := let ⟨q, _, _, hq, _⟩ := dd'; ⟨q, hq⟩
 exact qed I (by rw [e]; exact True.intro) hs he (qhM (Nat.le_trans (qf0 kvs k) z) hd (rel.drop k) dd')
theorem d_len {Q : Value -> Shared -> Prop} (I : Inv X pins σ H s) (e : Rd H a (.dK kvs)) (h : ∀ t s', Inv X pins σ H s' -> Q (.int kvs.length t) s') : wpAny (model X.prog X.w) A (call (.builtin "len") [.ref a]) Q E s := by
 obtain ⟨z, hd, vs, rel, dd⟩ := qe8 I.hok e
 refine call_len_dict hd dd (by rw [<- rel.length]; rw [sizeLine_eq] at z; omega) ?_
 rw [<- rel.length]
 exact h _ _ (I.tok _)
end
def NoSl (i : Expr) : Prop := ∀ ov iv, subscripted i false ov iv = operate [ov, iv] (getItem ov iv)
theorem qhe {prog : Program} {w : World} {A : Around} {E : Value -> Shared -> Prop} {s : Shared} {env : Env} {value slice : Expr} {pos : Pos} {T id : String} {Q : Value -> Shared -> Prop}
  (hl : typeLookup (.type T) "__getitem__" = pure (some (.builtin id))) (hs : NoSl slice)
  (h : wpAny (model prog w) A (eval value env) (fun o s₁ => wpAny (model prog w) A (eval slice env) (fun i s₂ => s₂.TypeIs o T /\ wpAny (model prog w) A (getItem o i) Q E s₂) E s₁) E s) :
  wpAny (model prog w) A (eval (.Subscript value slice pos) env) Q E s := by
 refine Subscript_ (wpAny_mono h (fun o s₁ h₁ => wpAny_mono h₁ (fun i s₂ h₂ => ?_) fun _ _ x => x) fun _ _ x => x)
 obtain ⟨hT, h₂⟩ := h₂
 unfold subscriptTail
 refine wpAny_bind ?_
 rw [getitemInPython_of_ne hT.not_modules]
 refine wpAny_bind (wpAny_specialOf hT hl ?_)
 have fin : wpAny (model prog w) A (subscripted slice false o i) (fun r s₃ => wpAny (model prog w) A (letTemporaryGo value o r >>= fun _ => pure r) Q E s₃) E s₂ := by
  rw [hs o i]
  exact wpAny_operating (wpAny_mono h₂ (fun r s₃ h₃ => wpAny_bind (wpAny_letTemporaryGo (wpAny_pure h₃))) fun _ _ x => x)
 first
  | exact wpAny_pure (wpAny_bind fin)
  | exact wpAny_bind (wpAny_pure (wpAny_bind fin))
  | exact wpAny_bind fin
theorem qfl {X : Cx} {pins : List (Addr × Obj)} {σ : St} {H : Hp} {s : Shared} {a : Addr} {y : V} {o : Option V} (I : Inv X pins σ H s) (g : DGet H a y o) : s.TypeIs (.ref a) "dict" := by
 rcases g with ⟨kvs, k, e, _, _⟩ | ⟨kvs, k, b, e, _, _, _⟩
 ·obtain ⟨_, _, vs, _, dd⟩ := qe8 I.hok e
  exact dd.typeIs
 ·obtain ⟨_, _, xs, _, dd⟩ := qgc I.hok e
  exact dd.typeIs
def tDGet (td ty : TE) : TE := fun σ H Q => td σ H fun x H1 => ty σ H1 fun y H2 => ∃ a v, x = .ref a /\ DGet H2 a y (some v) /\ Q v H2
def tDIn (ty td : TE) : TE := fun σ H Q => ty σ H fun y H1 => td σ H1 fun x H2 => ∃ a o, x = .ref a /\ DGet H2 a y o /\ Q (.bl o.isSome) H2
def tDNotIn (ty td : TE) : TE := fun σ H Q => ty σ H fun y H1 => td σ H1 fun x H2 => ∃ a o, x = .ref a /\ DGet H2 a y o /\ Q (.bl (!o.isSome)) H2
def sDPut (td ty tv : TE) : TS := fun D σ H => tv σ H fun v H1 => td σ H1 fun x H2 => ty σ H2 fun y H3 => ∃ a H4, x = .ref a /\ DPut H3 a y v H4 /\ D.nx σ H4
section
variable {X : Cx} {o i e value : Expr} {pos pos' tpos : Pos} {td ty tv : TE}
theorem qhq (hu : X.A.units + 1 < cLine) (ho : PE X o td) (hi : PE X i ty) (hs : NoSl i) : PE X (.Subscript o i pos) (tDGet td ty) := by
 intro pins s σ H Q I h
 refine qhe PySem.F.slot_dict_getitem.lookup hs (thn (ho pins s σ H _ I h) fun u s1 ⟨x, H1, I1, rx, q1⟩ => thn (hi pins s1 σ H1 _ I1 q1) fun iv s2 ⟨y, H2, I2, ry, a, v, ex, g, q2⟩ => ?_)
 subst ex
 obtain rfl : u = Value.ref a := rx
 exact ⟨qfl I2 g, qgF hu I2 g ry fun w' s3 I3 rw' => ⟨v, H2, I3, rw', q2⟩⟩
theorem pc_din (hu : X.A.units + 1 < cLine) (hi : PE X i ty) (ho : PE X o td) : PC X .In i o (tDIn ty td) := by
 intro pins s σ H Q I h
 refine thn (hi pins s σ H _ I h) fun iv s1 ⟨y, H1, I1, ry, q1⟩ => thn (ho pins s1 σ H1 _ I1 q1) fun u s2 ⟨x, H2, I2, rx, a, ov, ex, g, q2⟩ => ?_
 subst ex
 obtain rfl : u = Value.ref a := rx
 exact d_in hu I2 g ry fun s3 I3 => ⟨.bl ov.isSome, H2, I3, rfl, q2⟩
theorem qgM (hu : X.A.units + 1 < cLine) (hi : PE X i ty) (ho : PE X o td) : PC X .NotIn i o (tDNotIn ty td) := by
 intro pins s σ H Q I h
 refine thn (hi pins s σ H _ I h) fun iv s1 ⟨y, H1, I1, ry, q1⟩ => thn (ho pins s1 σ H1 _ I1 q1) fun u s2 ⟨x, H2, I2, rx, a, ov, ex, g, q2⟩ => ?_
 subst ex
 obtain rfl : u = Value.ref a := rx
 exact qk6 hu I2 g ry fun s3 I3 => ⟨.bl (!ov.isSome), H2, I3, rfl, q2⟩
theorem qlL (hu : X.A.units + 1 < cLine) (ho : PE X o td) (hi : PE X i ty) (hv : PE X value tv) (hs : swapsWith value (some (.Subscript o i pos')) pos.line X.env = pure false) :
  PS X (.Assign [.Subscript o i pos'] value pos) (sDPut td ty tv) := by
 intro pins s σ H D I h
 refine wpAny_Assign_Subscript (thn (hv pins s σ H _ I h) fun r s1 ⟨v, H1, I1, rv, q1⟩ => thn (ho pins s1 σ H1 _ I1 q1) fun u s2 ⟨x, H2, I2, rx, q2⟩ => thn (hi pins s2 σ H2 _ I2 q2) fun iv s3 ⟨y, H3, I3, ry, a, H4, ex, g, q3⟩ => ?_) hs
 subst ex
 obtain rfl : u = Value.ref a := rx
 exact qg2 hu I3 g ry rv fun s4 I4 => ⟨σ, H4, I4, q3⟩
end
theorem qhV {P : Program} {w : World} {H : Hp} (h : Heap) (hb : sysModules < h.objs.size) : ObjOk P w H (h.push { cls := .type "dict", data := .dict #[] }) h.objs.size (.dK []) :=
 ⟨Nat.zero_le _, beq_eq_false_iff_ne.mpr (Ne.symm (Nat.ne_of_lt hb)), [], .nil, Heap.DictOf.new h⟩
def tDNewK : TE := fun _ H Q => ∀ p, H p = none -> Q (.ref p) (upd H p (.dK []))
section
variable {X : Cx} {pos : Pos}
theorem qiq : PE X (.Dict [] [] pos) tDNewK := fun pins s σ H Q I h =>
 wpAny_Dict_empty ⟨.ref s.heap.objs.size, _, I.laid (a := s.heap.objs.size) (o := .dK []) (t' := s.toks) (fun _ _ q => Heap.get?_push_of_some _ q) (Nat.le_refl _) (qhV s.heap I.big), rfl, h _ (I.hok.fresh (Nat.le_refl _))⟩
end
structure M1 (X : Cx) (o : Expr) (m : Str) (apos : Pos) (e : Expr) (cpos : Pos) : Prop where
 base : attributeBase o m X.env (eval o X.env) = eval o X.env
 few : ((backTo cpos (starEach [e] X.env)).all (fun x => !x.1) && (backToKw cpos (keywordEach [] X.env)).all (fun x => x.1.isSome)
  && decide (([e] : List Expr).length + ([] : List Keyword).length + (if ([] : List Keyword).isEmpty then 0 else 1) < 30)) = true
 line : (apos.endLine == cpos.line) = true
 trees : backTo cpos (starEach [e] X.env) = [(false, eval e X.env)]
def IsD (H : Hp) (a : Addr) : Prop := (∃ kvs, Rd H a (.dK kvs)) \/ ∃ kvs, Rd H a (.dT kvs)
theorem isD_at {X : Cx} {pins : List (Addr × Obj)} {σ : St} {H : Hp} {s : Shared} {a : Addr} (I : Inv X pins σ H s) (d : IsD H a) :
  s.TypeIs (.ref a) "dict" /\ (∀ b, Value.ref a = .ref b -> ∃ ob, s.heap.get? b = some ob /\ ob.dict = none) /\ (a == sysModules) = false := by
 rcases d with ⟨kvs, e⟩ | ⟨kvs, e⟩
 ·obtain ⟨_, hd, vs, _, dd⟩ := qe8 I.hok e
  refine ⟨dd.typeIs, fun b q => ?_, hd⟩
  cases q
  obtain ⟨ob, _, _, h1, h2, _⟩ := dd
  exact ⟨ob, h1, h2.2.1⟩
 ·obtain ⟨_, hd, xs, _, dd⟩ := qgc I.hok e
  refine ⟨dd.typeIs, fun b q => ?_, hd⟩
  cases q
  obtain ⟨ob, _, _, h1, h2, _⟩ := dd
  exact ⟨ob, h1, h2.2.1⟩
def tDPop1 (td ty : TE) : TE := fun σ H Q => td σ H fun x H1 => ∃ a, x = .ref a /\ IsD H1 a /\ ty σ H1 fun y H2 => ∃ kvs k v, H2 a = some (.dK kvs) /\ y = kV k /\ valV kvs k = some v /\ Q v (upd H2 a (.dK (dropK kvs k)))
section
variable {X : Cx} {o e f : Expr} {apos cpos : Pos} {td ty tx : TE}
theorem qhT (ho : PE X o td) (he : PE X e ty) (m : M1 X o "pop" apos e cpos) : PE X (.Call (.Attribute o "pop" apos) [e] [] cpos) (tDPop1 td ty) := by
 intro pins s σ H Q I h
 refine wpAny_Call_method m.base m.few m.line PySem.F.plainAttrs_dict PySem.F.slot_dict_pop PySem.F.type_dict_pop (thn (ho pins s σ H _ I h) fun u s1 ⟨x, H1, I1, rx, a, ex, d, q1⟩ => ?_)
 subst ex
 obtain rfl : u = Value.ref a := rx
 obtain ⟨t1, t2, _⟩ := isD_at I1 d
 refine ⟨t1, t2, ?_⟩
 rw [m.trees]
 refine Calls.callWith_builtin rfl (Calls.evalArgs_plain (Calls.spliced_cons (thn (he pins s1 σ H1 _ I1 q1) fun iv s2 ⟨y, H2, I2, ry, kvs, k, v, ea, ey, l, q2⟩ => Calls.spliced_nil ?_)))
 subst ey
 exact d_pop I2 ea ry l (.inl rfl) fun w' s3 I3 rw' => ⟨v, _, I3, rw', q2⟩
end
end L2
namespace Att
open PySem PySem.W PySem.Calls PyProof.Rows
theorem ints_of_wellAll {P : Params} {h : Heap} : ∀ (ns : List Int) (vs : List Value), WellAll P h vs (ns.map WData.int) -> IntsAre vs ns := by
 intro ns
 induction ns with
 | nil =>
  intro vs w
  rw [List.map_nil] at w
  cases w
  exact .nil
 | cons n ns ih =>
  intro vs w
  rw [List.map_cons] at w
  cases w with
  | cons a b =>
   cases a
   exact .cons _ _ (ih _ b)
section
variable {prog : Program} {w : World} {A : Around} {E : Value -> Shared -> Prop} {s : Shared} {K : Frag}
def noObjs (h : Heap) : Heap := { h with objs := #[] }
theorem noObjs_get (h : Heap) (b : Addr) : (noObjs h).get? b = none := by
 cases e : (noObjs h).get? b with
 | none => rfl
 | some o => exact absurd (Heap.lt_size e) (Nat.not_lt_zero _)
def ledger (h : Heap) (L d : Addr) : List (Addr × Obj) := (List.range h.objs.size).filterMap fun a => if a = L \/ a = d then none else (h.get? a).map fun o => (a, o)
theorem mem_ledger {h : Heap} {L d a : Addr} {o : Obj} : (a, o) ∈ ledger h L d ↔ a ≠ L /\ a ≠ d /\ h.get? a = some o := by
 unfold ledger
 rw [List.mem_filterMap]
 constructor
 ·rintro ⟨b, _, e⟩
  split at e
  ·cases e
  ·rename_i hb
   obtain ⟨o', ho, e'⟩ := Option.map_eq_some_iff.mp e
   cases e'
   exact ⟨fun q => hb (.inl q), fun q => hb (.inr q), ho⟩
 ·rintro ⟨n1, n2, ho⟩
  refine ⟨a, List.mem_range.mpr (Heap.lt_size ho), ?_⟩
  rw [if_neg (show ¬ (a = L \/ a = d) from fun q => q.elim n1 n2), ho] <;> rfl
theorem fr_all {h : Heap} {L : Addr} {m : Str -> Option Value} (n : h.Ns L m) : Fr (noObjs h) L h m :=
 ⟨n, fun b o e => (by rw [noObjs_get] at e; cases e), Nat.zero_le _⟩
end
end Att
namespace L2
open PySem PySem.Spec PyProof.Rows
theorem qeV : ∀ {vs : List Value} {ns : List Int}, IntsAre vs ns -> Vals (ns.map V.int) vs
 | _, _, .nil => .nil
 | _, _, .cons n t h => .cons ⟨t, rfl⟩ (qeV h)
end L2
namespace L2
open PySem PySem.Spec PyProof.Rows
def inClass (s : Stmt) (j : Nat) : Stmt := match s with
 | .ClassDef _ _ _ body _ _ _ _ _ _ _ => body.getD j (.Pass ⟨0, 0, 0, 0⟩)
 | _ => .Pass ⟨0, 0, 0, 0⟩
def defArgs (s : Stmt) : Arguments := match s with
 | .FunctionDef _ a _ _ _ _ _ _ _ _ => a
 | _ => { posonlyargs := [], args := [], vararg := none, kwonlyargs := [], kw_defaults := [], kwarg := none, defaults := [] }
def defBody (s : Stmt) : List Stmt := match s with
 | .FunctionDef _ _ b _ _ _ _ _ _ _ => b
 | _ => []
def defScope (s : Stmt) : Scope := match s with
 | .FunctionDef _ _ _ _ _ _ sc _ _ _ => sc
 | _ => { kind := .function, names := [], isGenerator := false, isCoroutine := false }
abbrev CX0 : CXT := fun _ _ _ _ _ _ => False
abbrev E0 : XK := fun _ _ _ => False
theorem pass0 {X : Cx} : Passes CX0 X E0 := fun _ _ _ _ _ _ _ h => h.elim
structure Fun (K : PySem.W.Frag) (x qual : Str) (st : Stmt) (f : Addr) (fd : FuncData) : Prop where
 ex : ∃ (oc : Value) (od : Option Addr) (kV doc pm : Value) (an : Option Addr) (cdv ct : Value) (osl : Array (Option Value)),
  fd = PySem.W.fnOf x qual (defArgs st) (defBody st) (defScope st) .none kV doc pm an cdv ct /\ K.lookup f = some ⟨oc, od, .func fd, osl⟩ /\ PySem.W.codeIn K cdv qual = true
 kp : PySem.W.keepIn K (.ref f) = true
section
variable {P : Program} {w : World} {K : PySem.W.Frag} {mg : Str -> Option Value} {base : Heap}
theorem Fun.ok {x qual : Str} {st : Stmt} {f : Addr} {fd : FuncData} {N ps : List Str} {k : Nat} {sp : Sp} (F : Fun K x qual st f fd) (S : FnScope N ps (defScope st)) (len : ∀ vs H Q E, sp vs H Q E -> vs.length = ps.length)
  (hbody : ∀ (cdv : Value) (A : Around) (outer : List Env) (s : Shared) (H : Hp) (vs : List V) (Q : VK) (E : XK), Room k (A.deeper (envOfC qual (defScope st) s.heap.objs.size f cdv)) -> sp vs H Q E ->
   ∃ t, PSs (cxOf CX0 P w K mg base N qual (defScope st) f cdv A outer s H E).nox (defBody st) t /\ t { nx := fun _ H' => Q .non H', rt := Q } (start N vs) H) : FnOk P w K mg base CX0 (k + 1) f fd ps sp := by
 obtain ⟨oc, od, kV, doc, pm, an, cdv, ct, osl, rfl, lk, hcd⟩ := F.ex
 refine fn_of lk hcd S len fun A outer s H vs Q E hr hsp => ?_
 obtain ⟨t, h, q⟩ := hbody cdv A outer s H vs Q E hr hsp
 exact ⟨t, h.nox, q⟩
theorem Fun.binds {x qual : Str} {st : Stmt} {f : Addr} {fd : FuncData} {ps : List Str} (F : Fun K x qual st f fd)
  (h : ∀ (kV doc pm : Value) (an : Option Addr) (cdv ct : Value) (us : List Value), us.length = ps.length -> bindArgs (PySem.W.fnOf x qual (defArgs st) (defBody st) (defScope st) .none kV doc pm an cdv ct) ⟨us, []⟩ = pure (ps.zip us)) : Binds K fd ps [] := by
 obtain ⟨oc, od, kV, doc, pm, an, cdv, ct, osl, rfl, lk, hcd⟩ := F.ex
 exact .all (h kV doc pm an cdv ct)
theorem qjN {x qual : Str} {st : Stmt} {f : Addr} {oc : Value} {od an : Option Addr} {osl : Array (Option Value)} {kV doc pm cdv ct : Value} (l : K.lookup f = some ⟨oc, od, .func (PySem.W.fnOf x qual (defArgs st) (defBody st) (defScope st) .none kV doc pm an cdv ct), osl⟩)
  (c : PySem.W.codeIn K cdv qual = true) (k : PySem.W.keepIn K (.ref f) = true) : Fun K x qual st f (PySem.W.fnOf x qual (defArgs st) (defBody st) (defScope st) .none kV doc pm an cdv ct) := ⟨⟨oc, od, kV, doc, pm, an, cdv, ct, osl, rfl, l, c⟩, k⟩
end
theorem qeH {A : Around} {k : Nat} (hr : Room k A) : A.units + 1 < cLine := Nat.lt_of_le_of_lt (Nat.add_le_add_left (by decide : 1 <= 64) _) hr.units
theorem small1000 {n : Nat} (h : n <= 1000) : n < sizeLine := Nat.lt_of_le_of_lt h (by decide)
section
variable {X : Cx}
theorem pv (i : Nat) {x : Str} {pos : Pos} (hN : X.N[i]? = some x := by rfl) (hv : Vis X.env.scope x := by first | exact Or.inl rfl | exact Or.inr (Or.inl rfl) | exact Or.inr (Or.inr rfl)) (hd : (x == ("__debug__" : Str)) = false := by decide)
  (hcd : (x == ("__classdict__" : Str)) = false := by decide) : PE X (.Name x pos) (tVar i) := pe_var hN hv hd hcd
theorem qhG : CallR X (.builtin "len") (fun xs H Q => ∃ a kvs, xs = [V.ref a] /\ H a = some (.dK kvs) /\ Q (.int kvs.length) H) := by
 intro pins s σ H xs us Q I r h
 obtain ⟨a, kvs, rfl, ha, q⟩ := h
 obtain ⟨u, rfl, ru⟩ := vals1 r
 cases ru
 exact d_len I (.inl ha) fun t s' I' => ⟨.int kvs.length, H, I', ⟨t, rfl⟩, q⟩
end
theorem iteF {A B : Prop} (h : B) : if false = true then A else B := by
 rw [if_neg Bool.false_ne_true]
 exact h
theorem iteT {A B : Prop} (h : A) : if true = true then A else B := by
 rw [if_pos rfl]
 exact h
theorem ite2 {c A B : Prop} [Decidable c] (h1 : c -> A) (h2 : ¬ c -> B) : if c then A else B := by
 by_cases h : c
 ·rw [if_pos h]
  exact h1 h
 ·rw [if_neg h]
  exact h2 h
def Same (H H' : Hp) : Prop := ∀ b o, H b = some o -> H' b = some o
theorem Same.refl (H : Hp) : Same H H := fun _ _ h => h
theorem Same.trans {H H1 H2 : Hp} (a : Same H H1) (b : Same H1 H2) : Same H H2 := fun c o h => b c o (a c o h)
theorem Same.free {H H' : Hp} (e : Same H H') {l : Addr} (h : H' l = Option.none) : H l = Option.none := by
 cases q : H l with
 | none => rfl
 | some o =>
  rw [e l o q] at h
  cases h
theorem Same.made {H H1 : Hp} {x dx C : Addr} (nx : H x = Option.none) (nd : H dx = Option.none) (k : ∀ b o, (upd (upd H dx (.own x)) x (.ins C dx [])) b = some o -> b ≠ x -> H1 b = some o) : Same H H1 := fun b o e =>
 k b o (by rw [qaq (qat e nx), qaq (qat e nd)]; exact e) (qat e nx)
end L2
namespace NM
open Rc50
theorem qfS (b : List Nat) (c : Nat) : num (b ++ [c]) = 256 * num b + c := by
 unfold num; rw [List.foldl_append]; rfl
theorem qhP {α : Type} {P : List α -> Prop} (h0 : P []) (h1 : ∀ l a, P l -> P (l ++ [a])) (l : List α) : P l := by
 have h : ∀ r : List α, P r.reverse := by
  intro r
  induction r with
  | nil => exact h0
  | cons a r ih => rw [List.reverse_cons]; exact h1 _ _ ih
 have := h l.reverse
 rwa [List.reverse_reverse] at this
theorem num_lt : ∀ (b : List Nat), (∀ x ∈ b, x < 256) -> num b < 256 ^ b.length := by
 intro b
 refine qhP (P := fun b => (∀ x ∈ b, x < 256) -> num b < 256 ^ b.length) ?_ ?_ b
 ·intro _; decide
 ·intro b c ih h
  have h1 := ih fun x hx => h x (List.mem_append_left _ hx)
  have h2 : c < 256 := h c (by simp)
  rw [qfS, List.length_append, List.length_singleton, Nat.pow_succ]
  omega
theorem qam (n x : Nat) : (be n x).length = n := by simp [be]
theorem qdZ (n x : Nat) : ∀ y ∈ be n x, y < 256 := by
 intro y hy
 simp only [be, List.mem_map] at hy
 obtain ⟨i, _, rfl⟩ := hy
 exact Nat.mod_lt _ (by decide)
theorem qlm (n x : Nat) : be (n + 1) x = be n (x / 256) ++ [x % 256] := by
 unfold be
 rw [List.range_succ, List.map_append]
 congr 1
 ·refine List.map_congr_left fun i hi => ?_
  have hi' : i < n := List.mem_range.mp hi
  rw [Nat.div_div_eq_div_mul]
  have e : n + 1 - 1 - i = (n - 1 - i) + 1 := by omega
  rw [e, Nat.pow_succ, Nat.mul_comm]
 ·simp
theorem be_rev (n x : Nat) : ((List.range n).map fun i => x / 256 ^ i % 256).reverse = be n x := by
 induction n generalizing x with
 | zero => rfl
 | succ n ih =>
  rw [qlm, List.range_succ_eq_map, List.map_cons, List.reverse_cons, List.map_map, <- ih (x / 256)]
  congr 1
  ·congr 1
   refine List.map_congr_left fun i _ => ?_
   show x / 256 ^ (i + 1) % 256 = x / 256 / 256 ^ i % 256
   rw [Nat.div_div_eq_div_mul, Nat.pow_succ, Nat.mul_comm]
  ·rw [Nat.pow_zero, Nat.div_one]
theorem qdz {z w k : Nat} (hk : 0 < k) (hz : z < 2 ^ 64) (hw : w < 2 ^ 64) (h : z ^^^ (z / 2 ^ k) = w ^^^ (w / 2 ^ k)) : z = w := by
 have key : ∀ d i, 64 <= i + d -> z.testBit i = w.testBit i := by
  intro d
  induction d with
  | zero =>
   intro i hi
   have h1 : 2 ^ 64 <= 2 ^ i := Nat.pow_le_pow_right (by decide) hi
   rw [Nat.testBit_lt_two_pow (Nat.lt_of_lt_of_le hz h1), Nat.testBit_lt_two_pow (Nat.lt_of_lt_of_le hw h1)]
  | succ d ih =>
   intro i hi
   have h1 := congrArg (fun n => n.testBit i) h
   simp only [Nat.testBit_xor, Nat.testBit_div_two_pow] at h1
   rw [ih (i + k) (by omega)] at h1
   revert h1
   cases z.testBit i <;> cases w.testBit i <;> cases w.testBit (i + k) <;> simp
 exact Nat.eq_of_testBit_eq fun i => key 64 i (by omega)
theorem qfc {a b c c' : Nat} (hc : c * c' % 2 ^ 64 = 1) (ha : a < 2 ^ 64) (hb : b < 2 ^ 64) (h : a * c % 2 ^ 64 = b * c % 2 ^ 64) : a = b := by
 have go : ∀ x, x < 2 ^ 64 -> x * c % 2 ^ 64 * c' % 2 ^ 64 = x := by
  intro x hx
  rw [Nat.mod_mul_mod, Nat.mul_assoc, Nat.mul_mod, hc, Nat.mul_one, Nat.mod_mod, Nat.mod_eq_of_lt hx]
 rw [<- go a ha, <- go b hb, h]
def mA (z : Nat) : Nat := (z ^^^ (z / 2 ^ 30)) * 0xBF58476D1CE4E5B9 % 2 ^ 64
def mB (z : Nat) : Nat := (z ^^^ (z / 2 ^ 27)) * 0x94D049BB133111EB % 2 ^ 64
theorem qdW (z : Nat) : mixed z = mB (mA z) ^^^ (mB (mA z) / 2 ^ 31) := rfl
theorem qiw {x k : Nat} (hx : x < 2 ^ 64) : x ^^^ (x / 2 ^ k) < 2 ^ 64 := Nat.xor_lt_two_pow hx (Nat.lt_of_le_of_lt (Nat.div_le_self _ _) hx)
theorem mA_lt (z : Nat) : mA z < 2 ^ 64 := Nat.mod_lt _ (Nat.two_pow_pos 64)
theorem mB_lt (z : Nat) : mB z < 2 ^ 64 := Nat.mod_lt _ (Nat.two_pow_pos 64)
theorem inv1 : 0xBF58476D1CE4E5B9 * 10871156337175269513 % 2 ^ 64 = 1 := by decide +kernel
theorem inv2 : 0x94D049BB133111EB * 3573116690164977347 % 2 ^ 64 = 1 := by decide +kernel
theorem inv0 : 0x9E3779B97F4A7C15 * 17428512612931826493 % 2 ^ 64 = 1 := by decide +kernel
theorem mA_inj {z w : Nat} (hz : z < 2 ^ 64) (hw : w < 2 ^ 64) (h : mA z = mA w) : z = w :=
 qdz (k := 30) (by decide) hz hw (qfc inv1 (qiw hz) (qiw hw) h)
theorem mB_inj {z w : Nat} (hz : z < 2 ^ 64) (hw : w < 2 ^ 64) (h : mB z = mB w) : z = w :=
 qdz (k := 27) (by decide) hz hw (qfc inv2 (qiw hz) (qiw hw) h)
theorem qhh {z w : Nat} (hz : z < 2 ^ 64) (hw : w < 2 ^ 64) (h : mixed z = mixed w) : z = w := by
 rw [qdW, qdW] at h
 exact mA_inj hz hw (mB_inj (mA_lt z) (mA_lt w) (qdz (k := 31) (by decide) (mB_lt _) (mB_lt _) h))
def stAt (seed j : Nat) : Nat := (seed + j * 0x9E3779B97F4A7C15) % 2 ^ 64
theorem qgE (seed j : Nat) : stAt seed j < 2 ^ 64 := Nat.mod_lt _ (Nat.two_pow_pos 64)
theorem qgY {seed : Nat} (h : seed < 2 ^ 64) : stAt seed 0 = seed := by
 unfold stAt
 rw [Nat.zero_mul, Nat.add_zero, Nat.mod_eq_of_lt h]
theorem qcA (seed j : Nat) : goOn (stAt seed j) = stAt seed (j + 1) := by
 unfold goOn stAt
 rw [Nat.mod_add_mod, Nat.add_mul, Nat.one_mul, Nat.add_assoc]
theorem qib {a x y m : Nat} (h : (a + x) % m = (a + y) % m) : x % m = y % m := by
 have h2 : m ∣ (a + x) - (a + y) /\ m ∣ (a + y) - (a + x) := by
  constructor
  ·exact (Nat.dvd_of_mod_eq_zero (Nat.sub_mod_eq_zero_of_mod_eq h))
  ·exact (Nat.dvd_of_mod_eq_zero (Nat.sub_mod_eq_zero_of_mod_eq h.symm))
 rw [Nat.add_sub_add_left, Nat.add_sub_add_left] at h2
 rcases Nat.le_total x y with q | q
 ·obtain ⟨k, hk⟩ := h2.2
  have : y = x + m * k := by omega
  rw [this, Nat.add_mul_mod_self_left]
 ·obtain ⟨k, hk⟩ := h2.1
  have : x = y + m * k := by omega
  rw [this, Nat.add_mul_mod_self_left]
theorem qie {seed i j : Nat} (hi : i < 2 ^ 64) (hj : j < 2 ^ 64) (h : stAt seed i = stAt seed j) : i = j :=
 qfc inv0 hi hj (qib h)
theorem qin {seed i j : Nat} (hi : i < 2 ^ 64) (hj : j < 2 ^ 64) (h : mixed (stAt seed i) = mixed (stAt seed j)) : i = j :=
 qie hi hj (qhh (qgE _ _) (qgE _ _) h)
theorem qc0 {a b t : Nat} (h : Nat.xor a t = Nat.xor b t) : a = b := by
 have h' : a ^^^ t = b ^^^ t := h
 have := congrArg (fun z => z ^^^ t) h'
 simpa [Nat.xor_assoc] using this
theorem qcT {a b : Nat} : Nat.xor a b = 0 ↔ a = b := by
 constructor
 ·intro h
  have e : Nat.xor a b = Nat.xor b b := h.trans (Nat.xor_self b).symm
  exact qc0 e
 ·rintro rfl
  exact Nat.xor_self a
theorem qdg {l : List Contact} (nd : (l.map (·.name)).Nodup) {a b : Contact} (ha : a ∈ l) (hb : b ∈ l) (e : a.name = b.name) : a = b := by
 induction l with
 | nil => cases ha
 | cons x l ih =>
  rw [List.map_cons, List.nodup_cons] at nd
  rcases List.mem_cons.mp ha with rfl | ha
  ·rcases List.mem_cons.mp hb with rfl | hb
   ·rfl
   ·exact absurd (List.mem_map.mpr ⟨b, hb, e.symm⟩) nd.1
  ·rcases List.mem_cons.mp hb with hb | hb
   ·subst hb
    exact absurd (List.mem_map.mpr ⟨a, (by assumption), e⟩ : b.name ∈ l.map (·.name)) nd.1
   ·exact ih nd.2 ha hb
def key (t : Nat) (c : Contact) : Nat := Nat.xor c.name t
theorem qcH (t : Nat) (c : Contact) : ∀ l, (putIn t c l).Perm (c :: l)
 | [] => .refl _
 | d :: r => by
  unfold putIn
  split
  ·exact .refl _
  ·exact ((qcH t c r).cons d).trans (.swap c d r)
theorem qcR (t : Nat) (c : Contact) : ∀ l, l.Pairwise (fun a b => key t a <= key t b) -> (putIn t c l).Pairwise (fun a b => key t a <= key t b)
 | [], _ => by simp [putIn]
 | d :: r, h => by
  have h1 := List.pairwise_cons.mp h
  unfold putIn
  split
  ·rename_i lt
   refine List.pairwise_cons.mpr ⟨fun b hb => ?_, h⟩
   rcases List.mem_cons.mp hb with rfl | hb
   ·exact Nat.le_of_lt lt
   ·exact Nat.le_trans (Nat.le_of_lt lt) (h1.1 b hb)
  ·rename_i nl
   refine List.pairwise_cons.mpr ⟨fun b hb => ?_, qcR t c r h1.2⟩
   rcases List.mem_cons.mp ((qcH t c r).mem_iff.mp hb) with rfl | hb
   ·exact Nat.le_of_not_lt nl
   ·exact h1.1 b hb
def sortN (t : Nat) (l : List Contact) : List Contact := l.foldl (fun l c => putIn t c l) []
theorem qeR (t : Nat) : ∀ l acc : List Contact, (l.foldl (fun l c => putIn t c l) acc).Perm (l ++ acc)
 | [], acc => .refl _
 | c :: l, acc => (qeR t l (putIn t c acc)).trans (((qcH t c acc).append_left l).trans List.perm_middle)
theorem qdd (t : Nat) : ∀ l acc : List Contact, acc.Pairwise (fun a b => key t a <= key t b) -> (l.foldl (fun l c => putIn t c l) acc).Pairwise (fun a b => key t a <= key t b)
 | [], acc, h => h
 | c :: l, acc, h => qdd t l _ (qcR t c acc h)
theorem qb8 (t : Nat) (l : List Contact) : (sortN t l).Perm l := by
 have := qeR t l []
 rwa [List.append_nil] at this
theorem qcQ (t : Nat) (l : List Contact) : (sortN t l).Pairwise (fun a b => key t a <= key t b) := qdd t l [] .nil
theorem qic {t : Nat} {l l' : List Contact} (nd : (l.map (·.name)).Nodup) (p : l'.Perm l) (s : l'.Pairwise (fun a b => key t a <= key t b)) : l' = sortN t l := by
 refine (p.trans (qb8 t l).symm).eq_of_pairwise (le := fun a b => key t a <= key t b) ?_ s (qcQ t l)
 intro a b ha hb h1 h2
 exact qdg nd (p.mem_iff.mp ha) ((qb8 t l).mem_iff.mp hb) (qc0 (Nat.le_antisymm h1 h2))
theorem qcb (bs : List Bucket) (t : Nat) : nearest bs t = (sortN t (bs.flatMap fun b => b.known)).take 8 := rfl
theorem qbA {l : List Contact} (nd : (l.map (·.name)).Nodup) {j : Nat} {x : Contact} (h : l[j]? = some x) : l.filter (fun y => y.name != x.name) = l.eraseIdx j := by
 induction l generalizing j with
 | nil => simp at h
 | cons a l ih =>
  rw [List.map_cons, List.nodup_cons] at nd
  cases j with
  | zero =>
   simp at h
   subst h
   rw [List.filter_cons_of_neg (by simp), List.eraseIdx_cons_zero]
   refine List.filter_eq_self.mpr fun y hy => ?_
   simp only [bne_iff_ne, ne_eq]
   intro e
   exact nd.1 (List.mem_map.mpr ⟨y, hy, e⟩)
  | succ j =>
   have h' : l[j]? = some x := by simpa using h
   have hx : x ∈ l := List.mem_of_getElem? h'
   rw [List.eraseIdx_cons_succ, List.filter_cons_of_pos, ih nd.2 h']
   simp only [bne_iff_ne, ne_eq]
   intro e
   exact nd.1 (List.mem_map.mpr ⟨x, hx, e.symm⟩)
theorem qeb {l : List Contact} {n : Nat} : (l.find? fun x => x.name == n) = none ↔ ∀ x ∈ l, x.name ≠ n := by
 rw [List.find?_eq_none]
 constructor
 ·intro h x hx e; exact h x hx (by simp [e])
 ·intro h x hx e; exact h x hx (by simpa using e)
theorem qcK {l : List Contact} {x : Contact} (h : x ∈ l) : x.name ∈ l.map (·.name) := List.mem_map.mpr ⟨x, h, rfl⟩
structure GoodC (own : Nat) (c : Contact) : Prop where
 nm : c.name < 2 ^ 160
 ad : c.at_ < 2 ^ 48
 sl : c.silent <= 1
 ne : c.name ≠ own
structure GoodB (own i : Nat) (b : Bucket) : Prop where
 kl : b.known.length <= 8
 wl : b.waiting.length <= 8
 kn : (b.known.map (·.name)).Nodup
 wn : (b.waiting.map (·.name)).Nodup
 kw : ∀ x ∈ b.known, ∀ y ∈ b.waiting, x.name ≠ y.name
 kc : ∀ c ∈ b.known, GoodC own c /\ place own c.name = i
 wc : ∀ c ∈ b.waiting, GoodC own c /\ place own c.name = i /\ c.silent = 0
theorem qfg (own i : Nat) : GoodB own i {} := ⟨by decide, by decide, .nil, .nil, (by intro x h; cases h), (by intro x h; cases h), (by intro x h; cases h)⟩
theorem qbK {l : List Nat} {a : Nat} (h : l.Nodup) (n : a ∉ l) : (l ++ [a]).Nodup := by
 rw [List.nodup_append]
 refine ⟨h, by simp, ?_⟩
 intro x hx y hy e
 rw [List.mem_singleton] at hy
 subst hy; subst e
 exact n hx
theorem qbh {l : List Contact} {p : Contact -> Bool} (h : (l.map (·.name)).Nodup) : ((l.filter p).map (·.name)).Nodup := (List.filter_sublist.map _).nodup h
theorem qer {own i : Nat} {b : Bucket} {c : Contact} (g : GoodB own i b) (hn : c.name < 2 ^ 160) (ha : c.at_ < 2 ^ 48) (ho : c.name ≠ own) (hp : place own c.name = i) : GoodB own i (heardIn b c) := by
 have gc : GoodC own ⟨c.name, c.at_, 0⟩ := ⟨hn, ha, Nat.zero_le 1, ho⟩
 unfold heardIn
 split
 ·rename_i x hx
  have hm : x ∈ b.known := List.mem_of_find?_eq_some hx
  have he : x.name = c.name := by simpa using List.find?_some hx
  split
  ·have hnin : c.name ∉ (b.known.filter fun y => y.name != c.name).map (·.name) := by
    intro h
    obtain ⟨y, hy, e⟩ := List.mem_map.mp h
    have := (List.mem_filter.mp hy).2
    simp [e] at this
   refine ⟨?_, g.wl, ?_, g.wn, ?_, ?_, g.wc⟩
   ·obtain ⟨j, hj⟩ := List.getElem?_of_mem hm
    show (b.known.filter (fun (y : Contact) => y.name != c.name) ++ [{ x with silent := 0 }] : List Contact).length <= 8
    rw [<- he, qbA g.kn hj, List.length_append, List.length_eraseIdx, if_pos (List.getElem?_eq_some_iff.mp hj).1]
    have := g.kl
    have := (List.getElem?_eq_some_iff.mp hj).1
    simp
    omega
   ·show ((b.known.filter (fun (y : Contact) => y.name != c.name) ++ [{ x with silent := 0 }] : List Contact).map Contact.name).Nodup
    rw [List.map_append]
    refine qbK (qbh g.kn) ?_
    show x.name ∉ _
    rw [he]
    exact hnin
   ·intro y hy z hz
    rcases List.mem_append.mp hy with hy | hy
    ·exact g.kw y (List.mem_filter.mp hy).1 z hz
    ·rw [List.mem_singleton.mp hy]
     exact g.kw x hm z hz
   ·intro y hy
    rcases List.mem_append.mp hy with hy | hy
    ·exact g.kc y (List.mem_filter.mp hy).1
    ·rw [List.mem_singleton.mp hy]
     have := g.kc x hm
     exact ⟨⟨this.1.nm, this.1.ad, Nat.zero_le 1, this.1.ne⟩, this.2⟩
  ·exact g
 ·rename_i hx
  have hno := qeb.mp hx
  have hnin : c.name ∉ b.known.map (·.name) := by
   intro h
   obtain ⟨y, hy, e⟩ := List.mem_map.mp h
   exact hno y hy e
  have hnw : c.name ∉ (b.waiting.filter fun y => y.name != c.name).map (·.name) := by
   intro h
   obtain ⟨y, hy, e⟩ := List.mem_map.mp h
   have := (List.mem_filter.mp hy).2
   simp [e] at this
  split
  ·rename_i hl
   refine ⟨?_, Nat.le_trans (List.length_filter_le _ _) g.wl, ?_, qbh g.wn, ?_, ?_, fun y hy => g.wc y (List.mem_filter.mp hy).1⟩
   ·show (b.known ++ [_]).length <= 8
    rw [List.length_append]
    have : b.known.length < 8 := hl
    simp
    omega
   ·show ((b.known ++ [_] : List Contact).map Contact.name).Nodup
    rw [List.map_append]
    exact qbK g.kn hnin
   ·intro y hy z hz
    rcases List.mem_append.mp hy with hy | hy
    ·exact g.kw y hy z (List.mem_filter.mp hz).1
    ·rw [List.mem_singleton.mp hy]
     have := (List.mem_filter.mp hz).2
     intro e
     simp [<- e] at this
   ·intro y hy
    rcases List.mem_append.mp hy with hy | hy
    ·exact g.kc y hy
    ·rw [List.mem_singleton.mp hy]
     exact ⟨gc, hp⟩
  ·have sub : ∀ y ∈ ((b.waiting.filter fun y => y.name != c.name) ++ [⟨c.name, c.at_, 0⟩] : List Contact).drop (((b.waiting.filter fun y => y.name != c.name) ++ [⟨c.name, c.at_, 0⟩] : List Contact).length - K), y ∈ b.waiting \/ y = ⟨c.name, c.at_, 0⟩ := by
    intro y hy
    rcases List.mem_append.mp (List.mem_of_mem_drop hy) with hy | hy
    ·exact .inl (List.mem_filter.mp hy).1
    ·exact .inr (List.mem_singleton.mp hy)
   refine ⟨g.kl, ?_, g.kn, ?_, ?_, g.kc, ?_⟩
   ·show (List.drop _ _).length <= 8
    rw [List.length_drop]
    show _ - (_ - 8) <= 8
    omega
   ·show ((List.drop _ _ : List Contact).map Contact.name).Nodup
    refine ((List.drop_sublist _ _).map _).nodup ?_
    rw [List.map_append]
    exact qbK (qbh g.wn) hnw
   ·intro y hy z hz
    rcases sub z hz with hz | rfl
    ·exact g.kw y hy z hz
    ·exact hno y hy
   ·intro y hy
    rcases sub y hy with hy | rfl
    ·exact g.wc y hy
    ·exact ⟨gc, hp, rfl⟩
theorem qe5 {l : List Contact} {x : Contact} (h : x ∈ l.getLast?.toList) : x ∈ l := by
 cases e : l.getLast? with
 | none => rw [e] at h; cases h
 | some y =>
  rw [e] at h
  simp at h
  subst h
  exact List.mem_of_getLast? e
theorem qd8 {own i : Nat} {b : Bucket} {c : Contact} (g : GoodB own i b) : GoodB own i (silentIn b c) := by
 unfold silentIn
 split
 ·exact g
 ·rename_i x hx
  have hm : x ∈ b.known := List.mem_of_find?_eq_some hx
  have he : x.name = c.name := by
   have := List.find?_some hx
   simp at this
   exact this.1
  split
  ·have hnm : ∀ l : List Contact, (l.map fun y => if y.name = c.name then { y with silent := 1 } else y).map (·.name) = l.map (·.name) := by
    intro l
    rw [List.map_map]
    refine List.map_congr_left fun y _ => ?_
    show (if y.name = c.name then ({ y with silent := 1 } : Contact) else y).name = y.name
    split <;> rfl
   have hin : ∀ y ∈ b.known.map (fun y => if y.name = c.name then { y with silent := 1 } else y), ∃ z ∈ b.known, y.name = z.name /\ y.at_ = z.at_ /\ y.silent <= 1 := by
    intro y hy
    obtain ⟨z, hz, rfl⟩ := List.mem_map.mp hy
    refine ⟨z, hz, ?_⟩
    split
    ·exact ⟨rfl, rfl, Nat.le_refl _⟩
    ·exact ⟨rfl, rfl, (g.kc z hz).1.sl⟩
   refine ⟨?_, g.wl, ?_, g.wn, ?_, ?_, g.wc⟩
   ·show (List.map _ _).length <= 8
    rw [List.length_map]
    exact g.kl
   ·show ((List.map _ _ : List Contact).map Contact.name).Nodup
    rw [hnm]
    exact g.kn
   ·intro y hy z hz
    obtain ⟨u, hu, e, _⟩ := hin y hy
    rw [e]
    exact g.kw u hu z hz
   ·intro y hy
    obtain ⟨u, hu, e1, e2, e3⟩ := hin y hy
    have := g.kc u hu
    exact ⟨⟨by rw [e1]; exact this.1.nm, by rw [e2]; exact this.1.ad, e3, by rw [e1]; exact this.1.ne⟩, by rw [e1]; exact this.2⟩
  ·obtain ⟨j, hj⟩ := List.getElem?_of_mem hm
   have hjl := (List.getElem?_eq_some_iff.mp hj).1
   have key1 : ∀ y ∈ (b.known.filter fun y => y.name != c.name) ++ b.waiting.getLast?.toList, y ∈ b.known \/ y ∈ b.waiting := by
    intro y hy
    rcases List.mem_append.mp hy with hy | hy
    ·exact .inl (List.mem_filter.mp hy).1
    ·exact .inr (qe5 hy)
   have hw : ∀ z ∈ b.waiting.dropLast, z ∈ b.waiting := fun z hz => (List.dropLast_sublist _).subset hz
   refine ⟨?_, ?_, ?_, ((List.dropLast_sublist _).map _).nodup g.wn, ?_, ?_, fun y hy => g.wc y (hw y hy)⟩
   ·show (_ ++ _ : List Contact).length <= 8
    rw [List.length_append, <- he, qbA g.kn hj, List.length_eraseIdx, if_pos hjl]
    have := g.kl
    have : b.waiting.getLast?.toList.length <= 1 := by cases b.waiting.getLast? <;> simp
    omega
   ·show (List.dropLast _).length <= 8
    rw [List.length_dropLast]
    have := g.wl
    omega
   ·show ((_ ++ _ : List Contact).map Contact.name).Nodup
    rw [List.map_append]
    cases e : b.waiting.getLast? with
    | none => simpa using qbh g.kn
    | some y =>
     refine qbK (qbh g.kn) ?_
     intro h
     obtain ⟨z, hz, ez⟩ := List.mem_map.mp h
     exact g.kw z (List.mem_filter.mp hz).1 y (List.mem_of_getLast? e) ez
   ·intro y hy z hz
    rcases List.mem_append.mp hy with hy | hy
    ·exact g.kw y (List.mem_filter.mp hy).1 z (hw z hz)
    ·cases e : b.waiting.getLast? with
     | none => rw [e] at hy; cases hy
     | some u =>
      rw [e] at hy
      have hy : y = u := by simpa using hy
      subst hy
      obtain ⟨r, hr⟩ := List.getLast?_eq_some_iff.mp e
      rw [hr] at hz
      rw [List.dropLast_concat] at hz
      have := g.wn
      rw [hr, List.map_append, List.nodup_append] at this
      intro q
      exact this.2.2 z.name (qcK hz) y.name (by simp) q.symm
   ·intro y hy
    rcases key1 y hy with h | h
    ·exact g.kc y h
    ·exact ⟨(g.wc y h).1, (g.wc y h).2.1⟩
theorem qfD {own n : Nat} (ho : own < 2 ^ 160) (hn : n < 2 ^ 160) (ne : n ≠ own) : place own n < 160 := by
 unfold place
 have h1 : Nat.xor own n < 2 ^ 160 := Nat.xor_lt_two_pow ho hn
 have h2 : Nat.xor own n ≠ 0 := fun e => ne (qcT.mp e).symm
 exact (Nat.log2_lt h2).mpr h1
structure GoodF (own : Nat) (f : Found) : Prop where
 nm : f.1.name < 2 ^ 160
 ad : f.1.at_ < 2 ^ 48
 sl : f.1.silent = 0
 ne : f.1.name ≠ own
 st : f.2 <= 3
structure GoodS (own : Nat) (x : Search) : Prop where
 tg : x.target < 2 ^ 160
 le : x.found.length <= 64
 so : x.found.Pairwise (fun f g => Nat.xor f.1.name x.target < Nat.xor g.1.name x.target)
 ea : ∀ f ∈ x.found, GoodF own f
structure GoodO (own now : Nat) (se : Option Search) (o : Open) : Prop where
 nm : o.to_.name < 2 ^ 160
 ad : o.to_.at_ < 2 ^ 48
 sl : o.to_.silent = 0
 ne : o.to_.name ≠ own
 si : o.since <= now
 wh : o.what <= 3
 se : o.what = 1 -> ∃ x, se = some x /\ ∃ f ∈ x.found, f.1.name = o.to_.name
def slots : Option Search -> Nat
 | none => 0
 | some x => 64 - (x.found.filter fun f => f.2 != 0).length
def Marks (lid chance : Nat) (opens : List Open) (se : Option Search) : Prop :=
 ∃ seed n, ∃ js : List Nat, chance = stAt seed n /\ js.Pairwise (· < ·) /\ (∀ j ∈ js, j <= n) /\ opens.map (·.mark) = js.map (fun j => mixed (stAt seed j)) /\ n + slots se <= lid
structure GoodK (l : List Kept) : Prop where
 nd : (l.map (·.key)).Nodup
 le : l.length <= 128
 ea : ∀ x ∈ l, x.bytes.length <= 512 /\ (∀ y ∈ x.bytes, y < 256) /\ x.key < 2 ^ 160
structure GoodR (r : Option Bytes × List Contact) : Prop where
 by_ : ∀ b, r.1 = some b -> b.length <= 512 /\ ∀ y ∈ b, y < 256
 le : r.2.length <= 8
 ea : ∀ c ∈ r.2, c.name < 2 ^ 160 /\ c.at_ < 2 ^ 48 /\ c.silent = 0
structure GoodU (l : List (Nat × Bytes)) : Prop where
 le : l.length <= 256
 ea : ∀ x ∈ l, x.1 < 2 ^ 48 /\ x.2.length <= 600 /\ ∀ y ∈ x.2, y < 256
structure Good (lid : Nat) (s : Abs) : Prop where
 own : s.own < 2 ^ 160
 bl : s.buckets.length = 160
 bs : ∀ i b, s.buckets[i]? = some b -> GoodB s.own i b
 op : ∀ o ∈ s.opens, GoodO s.own s.now s.search o
 ms : Marks lid s.chance s.opens s.search
 kp : GoodK s.kept
 se : ∀ x, s.search = some x -> GoodS s.own x
 re : ∀ r, s.result = some r -> GoodR r
 ou : GoodU s.out
theorem Marks.mono {a b c : Nat} {o : List Open} {se : Option Search} (h : Marks a c o se) (l : a <= b) : Marks b c o se := by
 obtain ⟨s, n, js, h1, h2, h3, h4, h5⟩ := h
 exact ⟨s, n, js, h1, h2, h3, h4, Nat.le_trans h5 l⟩
theorem Good.mono {a b : Nat} {s : Abs} (g : Good a s) (l : a <= b) : Good b s := ⟨g.own, g.bl, g.bs, g.op, g.ms.mono l, g.kp, g.se, g.re, g.ou⟩
theorem Marks.nodup {lid c : Nat} {o : List Open} {se : Option Search} (h : Marks lid c o se) (hl : lid < 2 ^ 64) : (o.map (·.mark)).Nodup := by
 obtain ⟨s, n, js, h1, h2, h3, h4, h5⟩ := h
 rw [h4]
 have : ∀ js : List Nat, js.Pairwise (· < ·) -> (∀ j ∈ js, j <= n) -> (js.map (fun j => mixed (stAt s j))).Nodup := by
  intro js
  induction js with
  | nil => intro _ _; exact .nil
  | cons j r ih =>
   intro hp hn
   have hp' := List.pairwise_cons.mp hp
   rw [List.map_cons, List.nodup_cons]
   refine ⟨?_, ih hp'.2 fun i hi => hn i (List.mem_cons_of_mem _ hi)⟩
   intro hm
   obtain ⟨i, hi, e⟩ := List.mem_map.mp hm
   have hi1 := hn i (List.mem_cons_of_mem _ hi)
   have hj1 := hn j List.mem_cons_self
   have := qin (seed := s) (i := i) (j := j) (by omega) (by omega) e
   have := hp'.1 i hi
   omega
 exact this js h2 h3
theorem qfy {l : List Open} (nd : (l.map (·.mark)).Nodup) {j : Nat} {x : Open} (h : l[j]? = some x) : l.filter (fun y => y.mark != x.mark) = l.eraseIdx j := by
 induction l generalizing j with
 | nil => simp at h
 | cons a l ih =>
  rw [List.map_cons, List.nodup_cons] at nd
  cases j with
  | zero =>
   simp at h
   subst h
   rw [List.filter_cons_of_neg (by simp), List.eraseIdx_cons_zero]
   refine List.filter_eq_self.mpr fun y hy => ?_
   simp only [bne_iff_ne, ne_eq]
   intro e
   exact nd.1 (List.mem_map.mpr ⟨y, hy, e⟩)
  | succ j =>
   have h' : l[j]? = some x := by simpa using h
   have hx : x ∈ l := List.mem_of_getElem? h'
   rw [List.eraseIdx_cons_succ, List.filter_cons_of_pos, ih nd.2 h']
   simp only [bne_iff_ne, ne_eq]
   intro e
   exact nd.1 (List.mem_map.mpr ⟨x, hx, e.symm⟩)
theorem Marks.filter {lid c : Nat} {o : List Open} {se : Option Search} (p : Nat -> Bool) (h : Marks lid c o se) : Marks lid c (o.filter fun x => p x.mark) se := by
 obtain ⟨s, n, js, h1, h2, h3, h4, h5⟩ := h
 refine ⟨s, n, js.filter (fun j => p (mixed (stAt s j))), h1, h2.sublist List.filter_sublist, fun j hj => h3 j (List.mem_filter.mp hj).1, ?_, h5⟩
 have e1 : (o.filter fun x => p x.mark).map (·.mark) = (o.map (·.mark)).filter p := by
  rw [List.filter_map]; rfl
 have e2 : (js.filter fun j => p (mixed (stAt s j))).map (fun j => mixed (stAt s j)) = (js.map (fun j => mixed (stAt s j))).filter p := by
  rw [List.filter_map]; rfl
 rw [e1, e2, h4]
theorem Marks.same {lid c : Nat} {o o' : List Open} {se se' : Option Search} (h : Marks lid c o se) (e : o'.map (·.mark) = o.map (·.mark)) (l : slots se' <= slots se) : Marks lid c o' se' := by
 obtain ⟨s, n, js, h1, h2, h3, h4, h5⟩ := h
 exact ⟨s, n, js, h1, h2, h3, e.trans h4, by omega⟩
theorem Marks.ask {lid c : Nat} {o : List Open} {x : Open} {se se' : Option Search} (h : Marks lid c o se) (e : x.mark = mixed (goOn c)) (l : slots se' + 1 <= slots se) : Marks lid (goOn c) (o ++ [x]) se' := by
 obtain ⟨s, n, js, h1, h2, h3, h4, h5⟩ := h
 refine ⟨s, n + 1, js ++ [n + 1], by rw [h1, qcA], ?_, ?_, ?_, by omega⟩
 ·rw [List.pairwise_append]
  refine ⟨h2, by simp, ?_⟩
  intro a ha b hb
  rw [List.mem_singleton.mp hb]
  have := h3 a ha
  omega
 ·intro j hj
  rcases List.mem_append.mp hj with hj | hj
  ·have := h3 j hj; omega
  ·rw [List.mem_singleton.mp hj]; exact Nat.le_refl _
 ·rw [List.map_append, List.map_append, h4]
  congr 1
  simp only [List.map_cons, List.map_nil]
  rw [e, h1, qcA]
theorem Marks.ask1 {lid c : Nat} {o : List Open} {x : Open} {se : Option Search} (h : Marks lid c o se) (e : x.mark = mixed (goOn c)) : Marks (lid + 1) (goOn c) (o ++ [x]) se := by
 obtain ⟨s, n, js, h1, h2, h3, h4, h5⟩ := h
 have h' : Marks (lid + 1) (goOn c) (o ++ [x]) se := by
  refine ⟨s, n + 1, js ++ [n + 1], by rw [h1, qcA], ?_, ?_, ?_, by omega⟩
  ·rw [List.pairwise_append]
   refine ⟨h2, by simp, ?_⟩
   intro a ha b hb
   rw [List.mem_singleton.mp hb]
   have := h3 a ha
   omega
  ·intro j hj
   rcases List.mem_append.mp hj with hj | hj
   ·have := h3 j hj; omega
   ·rw [List.mem_singleton.mp hj]; exact Nat.le_refl _
  ·rw [List.map_append, List.map_append, h4]
   congr 1
   simp only [List.map_cons, List.map_nil]
   rw [e, h1, qcA]
 exact h'
def GoodY : Body -> Prop
 | .nodes l => l.length <= 8
 | .value b => b.length <= 512 /\ ∀ y ∈ b, y < 256
 | .store _ b => b.length <= 512 /\ ∀ y ∈ b, y < 256
 | _ => True
theorem qhJ (l : List Contact) : (l.flatMap fun x => be 20 x.name ++ be 6 x.at_).length = 26 * l.length := by
 induction l with
 | nil => rfl
 | cons c l ih => rw [List.flatMap_cons, List.length_append, ih, List.length_append, qam, qam, List.length_cons]; omega
theorem qh7 (l : List Contact) : ∀ y ∈ l.flatMap fun x => be 20 x.name ++ be 6 x.at_, y < 256 := by
 intro y hy
 obtain ⟨c, _, h⟩ := List.mem_flatMap.mp hy
 rcases List.mem_append.mp h with h | h
 ·exact qdZ _ _ y h
 ·exact qdZ _ _ y h
theorem w_ping (m o : Nat) : written ⟨m, o, .ping⟩ = [0] ++ (be 8 m ++ (be 20 o ++ [])) := rfl
theorem w_pong (m o : Nat) : written ⟨m, o, .pong⟩ = [1] ++ (be 8 m ++ (be 20 o ++ [])) := rfl
theorem w_find (m o t : Nat) : written ⟨m, o, .find t⟩ = [2] ++ (be 8 m ++ (be 20 o ++ be 20 t)) := rfl
theorem qkQ (m o : Nat) (l : List Contact) : written ⟨m, o, .nodes l⟩ = [3] ++ (be 8 m ++ (be 20 o ++ l.length :: l.flatMap fun x => be 20 x.name ++ be 6 x.at_)) := rfl
theorem w_want (m o t : Nat) : written ⟨m, o, .want t⟩ = [4] ++ (be 8 m ++ (be 20 o ++ be 20 t)) := rfl
theorem qkX (m o : Nat) (b : Bytes) : written ⟨m, o, .value b⟩ = [5] ++ (be 8 m ++ (be 20 o ++ (be 2 b.length ++ b))) := rfl
theorem ql2 (m o k : Nat) (b : Bytes) : written ⟨m, o, .store k b⟩ = [6] ++ (be 8 m ++ (be 20 o ++ (be 20 k ++ (be 2 b.length ++ b)))) := rfl
theorem qhY (m o : Nat) : written ⟨m, o, .stored⟩ = [7] ++ (be 8 m ++ (be 20 o ++ [])) := rfl
theorem qet (m o : Nat) {b : Body} (g : GoodY b) : (written ⟨m, o, b⟩).length <= 600 /\ ∀ y ∈ written ⟨m, o, b⟩, y < 256 := by
 have hd : ∀ (k : Nat) (r : List Nat), k < 256 -> r.length <= 571 -> (∀ y ∈ r, y < 256) -> ([k] ++ (be 8 m ++ (be 20 o ++ r))).length <= 600 /\ ∀ y ∈ [k] ++ (be 8 m ++ (be 20 o ++ r)), y < 256 := by
  intro k r hk hr hy
  refine ⟨?_, ?_⟩
  ·simp only [List.length_append, qam, List.length_singleton]; omega
  ·intro y h
   simp only [List.mem_append, List.mem_singleton] at h
   rcases h with rfl | h | h | h
   ·exact hk
   ·exact qdZ _ _ y h
   ·exact qdZ _ _ y h
   ·exact hy y h
 cases b with
 | ping => rw [w_ping]; exact hd 0 [] (by decide) (by decide) (by intro y h; cases h)
 | pong => rw [w_pong]; exact hd 1 [] (by decide) (by decide) (by intro y h; cases h)
 | find t => rw [w_find]; exact hd 2 _ (by decide) (by rw [qam]; decide) (qdZ _ _)
 | want t => rw [w_want]; exact hd 4 _ (by decide) (by rw [qam]; decide) (qdZ _ _)
 | stored => rw [qhY]; exact hd 7 [] (by decide) (by decide) (by intro y h; cases h)
 | nodes l =>
  have hl : l.length <= 8 := g
  rw [qkQ]
  refine hd 3 _ (by decide) ?_ ?_
  ·rw [List.length_cons, qhJ]; omega
  ·intro y h
   rcases List.mem_cons.mp h with rfl | h
   ·omega
   ·exact qh7 l y h
 | value v =>
  obtain ⟨h1, h2⟩ := g
  rw [qkX]
  refine hd 5 _ (by decide) ?_ ?_
  ·rw [List.length_append, qam]; omega
  ·intro y h
   rcases List.mem_append.mp h with h | h
   ·exact qdZ _ _ y h
   ·exact h2 y h
 | store k v =>
  obtain ⟨h1, h2⟩ := g
  rw [ql2]
  refine hd 6 _ (by decide) ?_ ?_
  ·rw [List.length_append, List.length_append, qam, qam]; omega
  ·intro y h
   rcases List.mem_append.mp h with h | h
   ·exact qdZ _ _ y h
   ·rcases List.mem_append.mp h with h | h
    ·exact qdZ _ _ y h
    ·exact h2 y h
theorem qb9 {lid : Nat} {s : Abs} (g : Good lid s) {a m o : Nat} {b : Body} (ha : a < 2 ^ 48) (gy : GoodY b) : Good lid (put s a ⟨m, o, b⟩) := by
 unfold put
 split
 ·exact g
 ·rename_i h
  have h : s.out.length < 256 := by
   have : ¬ 256 <= s.out.length := h
   omega
  refine ⟨g.own, g.bl, g.bs, g.op, g.ms, g.kp, g.se, g.re, ?_, ?_⟩
  ·show (s.out ++ [_]).length <= 256
   rw [List.length_append]; simp; omega
  ·intro x hx
   rcases List.mem_append.mp hx with hx | hx
   ·exact g.ou.ea x hx
   ·rw [List.mem_singleton.mp hx]
    exact ⟨ha, qet m o gy⟩
theorem qbS {x : Search} {n k : Nat} {f : Found} (h : f ∈ x.found) : ∃ g ∈ (mark x n k).found, g.1 = f.1 := by
 refine ⟨_, List.mem_map.mpr ⟨f, h, rfl⟩, ?_⟩
 split <;> rfl
theorem qbH {own : Nat} {x : Search} {n k : Nat} (g : GoodS own x) (hk : k <= 3) : GoodS own (mark x n k) := by
 refine ⟨g.tg, by show (List.map _ _).length <= 64; rw [List.length_map]; exact g.le, ?_, ?_⟩
 ·show (List.map _ _).Pairwise _
  rw [List.pairwise_map]
  refine g.so.imp fun {a b} h => ?_
  show Nat.xor (if a.1.name = n then (a.1, k) else a).1.name x.target < Nat.xor (if b.1.name = n then (b.1, k) else b).1.name x.target
  have e : ∀ a : Found, (if a.1.name = n then (a.1, k) else a).1 = a.1 := by intro a; split <;> rfl
  rw [e, e]
  exact h
 ·intro f hf
  obtain ⟨f0, h0, rfl⟩ := List.mem_map.mp hf
  have := g.ea f0 h0
  split
  ·exact ⟨this.nm, this.ad, this.sl, this.ne, hk⟩
  ·exact this
def cnt (l : List Found) : Nat := (l.filter fun f => f.2 != 0).length
theorem qbw (f : Found) (l : List Found) : cnt (f :: l) = (if f.2 = 0 then 0 else 1) + cnt l := by
 unfold cnt
 by_cases h : f.2 = 0
 ·rw [List.filter_cons_of_neg (by simp [h]), if_pos h, Nat.zero_add]
 ·rw [List.filter_cons_of_pos (by simp [h]), if_neg h, List.length_cons, Nat.add_comm]
theorem cnt_le (l : List Found) : cnt l <= l.length := List.length_filter_le _ _
theorem qfV (l : List Found) (n k : Nat) (hk : k ≠ 0) : cnt l <= cnt (l.map fun f => if f.1.name = n then (f.1, k) else f) := by
 induction l with
 | nil => exact Nat.le_refl _
 | cons f l ih =>
  rw [List.map_cons, qbw, qbw]
  by_cases h : f.1.name = n
  ·rw [if_pos h]
   show _ <= (if k = 0 then 0 else 1) + _
   rw [if_neg hk]
   split <;> omega
  ·rw [if_neg h]; omega
theorem qhO (l : List Found) {f : Found} (hf : f ∈ l) (h0 : f.2 = 0) : cnt l + 1 <= cnt (l.map fun g => if g.1.name = f.1.name then (g.1, 1) else g) := by
 induction l with
 | nil => cases hf
 | cons g l ih =>
  rw [List.map_cons, qbw, qbw]
  have h1 := qfV l f.1.name 1 (by decide)
  rcases List.mem_cons.mp hf with rfl | hf
  ·rw [if_pos rfl, if_pos h0]
   show _ <= (if 1 = 0 then 0 else 1) + _
   rw [if_neg (by decide)]
   omega
  ·have := ih hf
   by_cases h : g.1.name = f.1.name
   ·rw [if_pos h]
    show _ <= (if (1 : Nat) = 0 then 0 else 1) + _
    rw [if_neg (show ¬ (1 : Nat) = 0 by decide)]
    split <;> omega
   ·rw [if_neg h]; omega
theorem qbM (x : Search) (n k : Nat) (hk : k ≠ 0) : slots (some (mark x n k)) <= slots (some x) := by
 have := qfV x.found n k hk
 show 64 - cnt _ <= 64 - cnt x.found
 unfold mark
 show 64 - cnt (List.map _ _) <= _
 omega
theorem qfu {own : Nat} {x : Search} (g : GoodS own x) {f : Found} (hf : f ∈ x.found) (h0 : f.2 = 0) : slots (some (mark x f.1.name 1)) + 1 <= slots (some x) := by
 have h1 := qhO x.found hf h0
 have h2 := cnt_le (x.found.map fun g => if g.1.name = f.1.name then (g.1, 1) else g)
 rw [List.length_map] at h2
 have := g.le
 show 64 - cnt (x.found.map fun g => if g.1.name = f.1.name then (g.1, 1) else g) + 1 <= 64 - cnt x.found
 omega
theorem qg6 (l : List Found) (p : Found -> Bool) : cnt (l.filter p) + cnt (l.filter fun f => !p f) = cnt l := by
 induction l with
 | nil => rfl
 | cons f l ih =>
  rw [qbw]
  by_cases h : p f = true
  ·rw [List.filter_cons_of_pos h, List.filter_cons_of_neg (by simp [h]), qbw]; omega
  ·rw [List.filter_cons_of_neg h, List.filter_cons_of_pos (by simp [h]), qbw]; omega
theorem qgo (a b : List Found) : cnt (a ++ b) = cnt a + cnt b := by unfold cnt; rw [List.filter_append, List.length_append]
theorem qgw (own : Nat) (x : Search) (c : Contact) : slots (some (more own x c)) = slots (some x) := by
 unfold more
 split
 ·rfl
 ·show 64 - cnt (_ ++ _) = 64 - cnt x.found
  rw [qgo, qbw, if_pos rfl, Nat.zero_add, qg6]
theorem qei {own : Nat} {x : Search} {c : Contact} (g : GoodS own x) (hn : c.name < 2 ^ 160) (ha : c.at_ < 2 ^ 48) : GoodS own (more own x c) := by
 unfold more
 split
 ·exact g
 ·rename_i h
  have h1 : c.name ≠ own := fun e => h (.inl e)
  have h2 : ∀ f ∈ x.found, f.1.name ≠ c.name := by
   intro f hf e
   exact h (.inr (.inl (List.any_eq_true.mpr ⟨f, hf, by simp [e]⟩)))
  have h3 : ¬ 64 <= x.found.length := fun e => h (.inr (.inr e))
  refine ⟨g.tg, ?_, ?_, ?_⟩
  ·show (_ ++ _ :: _ : List Found).length <= 64
   have : ∀ (l : List Found) (p : Found -> Bool), (l.filter p).length + (l.filter fun f => !p f).length = l.length := by
    intro l p
    induction l with
    | nil => rfl
    | cons f l ih =>
     by_cases h : p f = true
     ·rw [List.filter_cons_of_pos h, List.filter_cons_of_neg (by simp [h])]; simp only [List.length_cons]; omega
     ·rw [List.filter_cons_of_neg h, List.filter_cons_of_pos (by simp [h])]; simp only [List.length_cons]; omega
   have := this x.found fun f => decide (Nat.xor f.1.name x.target < Nat.xor c.name x.target)
   rw [List.length_append, List.length_cons]
   generalize (List.filter (fun f : Found => decide (f.fst.name.xor x.target < c.name.xor x.target)) x.found).length = A at *
   have e : ∀ B : Nat, A + B = x.found.length -> A + (B + 1) <= 64 := by intro B hB; omega
   exact e _ this
  ·show (_ ++ _ :: _ : List Found).Pairwise _
   rw [List.pairwise_append]
   refine ⟨g.so.sublist List.filter_sublist, List.pairwise_cons.mpr ⟨?_, g.so.sublist List.filter_sublist⟩, ?_⟩
   ·intro b hb
    have hb' := List.mem_filter.mp hb
    have hle : ¬ Nat.xor b.1.name x.target < Nat.xor c.name x.target := by simpa using hb'.2
    have hne : Nat.xor b.1.name x.target ≠ Nat.xor c.name x.target := fun e => h2 b hb'.1 (qc0 e)
    show Nat.xor c.name x.target < Nat.xor b.1.name x.target
    omega
   ·intro a ha b hb
    have ha' : Nat.xor a.1.name x.target < Nat.xor c.name x.target := by simpa using (List.mem_filter.mp ha).2
    rcases List.mem_cons.mp hb with rfl | hb
    ·exact ha'
    ·have hle : ¬ Nat.xor b.1.name x.target < Nat.xor c.name x.target := by simpa using (List.mem_filter.mp hb).2
     show Nat.xor a.1.name x.target < Nat.xor b.1.name x.target
     omega
  ·intro f hf
   rcases List.mem_append.mp hf with hf | hf
   ·exact g.ea f (List.mem_filter.mp hf).1
   ·rcases List.mem_cons.mp hf with rfl | hf
    ·exact ⟨hn, ha, rfl, h1, Nat.zero_le _⟩
    ·exact g.ea f (List.mem_filter.mp hf).1
theorem qim {own : Nat} {x : Search} {c : Contact} {f : Found} (h : f ∈ x.found) : f ∈ (more own x c).found := by
 unfold more
 split
 ·exact h
 ·show f ∈ (_ ++ _ :: _ : List Found)
  by_cases q : Nat.xor f.1.name x.target < Nat.xor c.name x.target
  ·exact List.mem_append_left _ (List.mem_filter.mpr ⟨h, by simpa using q⟩)
  ·exact List.mem_append_right _ (List.mem_cons_of_mem _ (List.mem_filter.mpr ⟨h, by simpa using q⟩))
theorem qds (own : Nat) (x : Search) (c : Contact) : (more own x c).target = x.target /\ (more own x c).value = x.value := by unfold more; split <;> exact ⟨rfl, rfl⟩
theorem qcM {lid : Nat} {s : Abs} (g : Good lid s) {c : Contact} (hn : c.name < 2 ^ 160) (ha : c.at_ < 2 ^ 48) : Good lid { s with buckets := heard s.own s.buckets c } := by
 unfold heard
 split
 ·exact g
 ·rename_i ne
  have hp := qfD g.own hn ne
  refine ⟨g.own, by show (List.set _ _ _).length = 160; rw [List.length_set]; exact g.bl, ?_, g.op, g.ms, g.kp, g.se, g.re, g.ou⟩
  intro i b hb
  have hb : (s.buckets.set (place s.own c.name) (heardIn (bucket s.buckets (place s.own c.name)) c))[i]? = some b := hb
  by_cases e : place s.own c.name = i
  ·subst e
   have hl : place s.own c.name < s.buckets.length := by rw [g.bl]; exact hp
   rw [List.getElem?_set_self hl] at hb
   cases hb
   refine qer ?_ hn ha ne rfl
   unfold bucket
   rw [List.getD_eq_getElem?_getD, List.getElem?_eq_getElem hl]
   exact g.bs _ _ (List.getElem?_eq_getElem hl)
  ·rw [List.getElem?_set_ne e] at hb
   exact g.bs i b hb
theorem qdf {lid : Nat} {s : Abs} (g : Good lid s) {c : Contact} : Good lid { s with buckets := silent s.own s.buckets c } := by
 unfold silent
 split
 ·exact g
 ·rename_i ne
  refine ⟨g.own, by show (List.set _ _ _).length = 160; rw [List.length_set]; exact g.bl, ?_, g.op, g.ms, g.kp, g.se, g.re, g.ou⟩
  intro i b hb
  have hb : (s.buckets.set (place s.own c.name) (silentIn (bucket s.buckets (place s.own c.name)) c))[i]? = some b := hb
  by_cases e : place s.own c.name = i
  ·subst e
   by_cases hl : place s.own c.name < s.buckets.length
   ·rw [List.getElem?_set_self hl] at hb
    cases hb
    refine qd8 ?_
    unfold bucket
    rw [List.getD_eq_getElem?_getD, List.getElem?_eq_getElem hl]
    exact g.bs _ _ (List.getElem?_eq_getElem hl)
   ·rw [List.set_eq_of_length_le (by omega)] at hb
    exact g.bs _ b hb
  ·rw [List.getElem?_set_ne e] at hb
   exact g.bs i b hb
theorem qjK (s : Abs) (c : Contact) (what : Nat) (b : Body) : ask s c what b = put { s with chance := goOn s.chance, opens := s.opens ++ [⟨mixed (goOn s.chance), ⟨c.name, c.at_, 0⟩, s.now, what⟩] } c.at_ ⟨mixed (goOn s.chance), s.own, b⟩ := rfl
theorem qf2 {lid lid' : Nat} {s : Abs} {c : Contact} {what : Nat} {b : Body} {se : Option Search} (g : Good lid s) (gc : c.name < 2 ^ 160 /\ c.at_ < 2 ^ 48 /\ c.name ≠ s.own) (hw : what <= 3) (gy : GoodY b)
  (hse : ∀ x, se = some x -> GoodS s.own x) (ho : ∀ o ∈ s.opens, GoodO s.own s.now se o) (hw1 : what = 1 -> ∃ x, se = some x /\ ∃ f ∈ x.found, f.1.name = c.name)
  (hm : ∀ x : Open, x.mark = mixed (goOn s.chance) -> Marks lid' (goOn s.chance) (s.opens ++ [x]) se) : Good lid' (ask { s with search := se } c what b) := by
 have h1 := hm ⟨mixed (goOn s.chance), ⟨c.name, c.at_, 0⟩, s.now, what⟩ rfl
 rw [qjK]
 dsimp only
 generalize mixed (goOn s.chance) = m at h1 ⊢
 generalize goOn s.chance = ch at h1 ⊢
 refine qb9 (lid := lid') (s := ⟨s.own, s.now, ch, s.buckets, s.opens ++ [⟨m, ⟨c.name, c.at_, 0⟩, s.now, what⟩], s.kept, se, s.result, s.out⟩) ⟨g.own, g.bl, g.bs, ?_, h1, g.kp, hse, g.re, g.ou⟩ gc.2.1 gy
 intro o h
 rcases List.mem_append.mp h with h | h
 ·exact ho o h
 ·rw [List.mem_singleton.mp h]
  exact ⟨gc.1, gc.2.1, rfl, gc.2.2, Nat.le_refl _, hw, hw1⟩
theorem qfU {lid : Nat} {s : Abs} {c : Contact} {what : Nat} {b : Body} (g : Good lid s) (gc : c.name < 2 ^ 160 /\ c.at_ < 2 ^ 48 /\ c.name ≠ s.own) (hw : what <= 3) (h1 : what ≠ 1) (gy : GoodY b) : Good (lid + 1) (ask s c what b) :=
 qf2 (se := s.search) g gc hw gy g.se g.op (fun e => absurd e h1) fun x e => g.ms.ask1 e
theorem qch {x : Search} {f : Found} (h : f ∈ counted x) : f ∈ x.found /\ f.2 ≠ 3 := by
 have := List.mem_filter.mp (List.mem_of_mem_take h)
 exact ⟨this.1, by simpa using this.2⟩
theorem qfC (x : Search) : (counted x).length <= 8 := by
 unfold counted
 rw [List.length_take]
 exact Nat.min_le_left _ _
theorem qdJ {lid : Nat} {s : Abs} {r : Option Bytes × List Contact} (g : Good lid s) (gr : GoodR r) : Good lid (close s r) := by
 refine ⟨g.own, g.bl, g.bs, ?_, ?_, g.kp, (by intro x h; cases h), (by intro q h; cases h; exact gr), g.ou⟩
 ·intro o h
  obtain ⟨o', h', rfl⟩ := List.mem_map.mp h
  have := g.op o' h'
  split
  ·exact ⟨this.nm, this.ad, this.sl, this.ne, this.si, Nat.le_refl 3, by intro e; cases e⟩
  ·rename_i ne
   exact ⟨this.nm, this.ad, this.sl, this.ne, this.si, this.wh, fun e => absurd e ne⟩
 ·refine g.ms.same ?_ (Nat.zero_le _)
  show (List.map _ (List.map _ _)) = _
  rw [List.map_map]
  refine List.map_congr_left fun o _ => ?_
  show (if o.what = 1 then ({ o with what := 3 } : Open) else o).mark = o.mark
  split <;> rfl
theorem qaR {lid : Nat} : ∀ (n : Nat) (s : Abs), Good lid s -> Good lid (goSearch n s)
 | 0, s, g => g
 | n + 1, s, g => by
  unfold goSearch
  split
  ·exact g
  ·rename_i x hx
   have gx := g.se x hx
   split
   ·split
    ·rename_i f hf
     have hm := qch (List.mem_of_find?_eq_some hf)
     have h0 : f.2 = 0 := by simpa using List.find?_some hf
     have gf := gx.ea f hm.1
     refine qaR n _ (qf2 (se := some (mark x f.1.name 1)) g ⟨gf.nm, gf.ad, gf.ne⟩ (by decide) ?_ ?_ ?_ ?_ ?_)
     ·split <;> trivial
     ·intro y e; cases e; exact qbH gx (by decide)
     ·intro o ho
      have := g.op o ho
      refine ⟨this.nm, this.ad, this.sl, this.ne, this.si, this.wh, fun e => ?_⟩
      obtain ⟨y, ey, f', hf', en⟩ := this.se e
      rw [hx] at ey
      cases ey
      obtain ⟨f2, h2, e2⟩ := qbS (n := f.1.name) (k := 1) hf'
      exact ⟨_, rfl, f2, h2, by rw [e2]; exact en⟩
     ·intro _
      obtain ⟨f2, h2, e2⟩ := qbS (n := f.1.name) (k := 1) hm.1
      exact ⟨_, rfl, f2, h2, by rw [e2]⟩
     ·intro o e
      refine g.ms.ask e ?_
      rw [hx]
      exact qfu gx hm.1 h0
    ·split
     ·exact g
     ·refine qdJ g ⟨(by intro b h; cases h), ?_, ?_⟩
      ·show (List.map _ _).length <= 8
       rw [List.length_map]
       exact qfC x
      ·intro c hc
       obtain ⟨f, hf, rfl⟩ := List.mem_map.mp hc
       have := gx.ea f (qch hf).1
       exact ⟨this.nm, this.ad, this.sl⟩
   ·exact g
theorem qbr {lid : Nat} {s : Abs} {x y : Search} (g : Good lid s) (hx : s.search = some x) (gy : GoodS s.own y) (hs : slots (some y) <= slots (some x)) (hf : ∀ f ∈ x.found, ∃ f' ∈ y.found, f'.1 = f.1) : Good lid { s with search := some y } := by
 refine ⟨g.own, g.bl, g.bs, ?_, g.ms.same rfl (by rw [hx]; exact hs), g.kp, (by intro z e; cases e; exact gy), g.re, g.ou⟩
 intro o ho
 have := g.op o ho
 refine ⟨this.nm, this.ad, this.sl, this.ne, this.si, this.wh, fun e => ?_⟩
 obtain ⟨z, ez, f, hf', en⟩ := this.se e
 rw [hx] at ez
 cases ez
 obtain ⟨f2, h2, e2⟩ := hf f hf'
 exact ⟨_, rfl, f2, h2, by rw [e2]; exact en⟩
def GoodZ : Body -> Prop
 | .nodes l => ∀ c ∈ l, c.name < 2 ^ 160 /\ c.at_ < 2 ^ 48
 | .value b => b.length <= 512 /\ ∀ y ∈ b, y < 256
 | .store k b => k < 2 ^ 160 /\ b.length <= 512 /\ ∀ y ∈ b, y < 256
 | .find k => k < 2 ^ 160
 | .want k => k < 2 ^ 160
 | _ => True
theorem qbJ {own : Nat} : ∀ (l : List Contact) (x : Search), GoodS own x -> (∀ c ∈ l, c.name < 2 ^ 160 /\ c.at_ < 2 ^ 48) ->
  GoodS own (l.foldl (more own) x) /\ slots (some (l.foldl (more own) x)) = slots (some x) /\ (∀ f ∈ x.found, f ∈ (l.foldl (more own) x).found)
 | [], x, g, _ => ⟨g, rfl, fun _ h => h⟩
 | c :: l, x, g, h => by
  have hc := h c List.mem_cons_self
  obtain ⟨h1, h2, h3⟩ := qbJ l (more own x c) (qei g hc.1 hc.2) fun d hd => h d (List.mem_cons_of_mem _ hd)
  exact ⟨h1, h2.trans (qgw own x c), fun f hf => h3 f (qim hf)⟩
theorem qdT {lid : Nat} {s : Abs} {o : Open} {b : Body} (g : Good lid s) (gz : GoodZ b) : Good lid (answered s o b) := by
 unfold answered
 split
 ·exact g
 ·split
  ·exact g
  ·rename_i x hx
   have gx := g.se x hx
   have gm : GoodS s.own (mark x o.to_.name 2) := qbH gx (by decide)
   have base : Good lid { s with search := some (mark x o.to_.name 2) } := qbr g hx gm (qbM x _ 2 (by decide)) fun f hf => qbS hf
   split
   ·rename_i l
    obtain ⟨h1, h2, h3⟩ := qbJ l _ gm gz
    refine qaR 8 _ (qbr g hx h1 (by rw [h2]; exact qbM x _ 2 (by decide)) fun f hf => ?_)
    obtain ⟨f', hf', e⟩ := qbS (n := o.to_.name) (k := 2) hf
    exact ⟨f', h3 f' hf', e⟩
   ·rename_i v
    split
    ·exact qdJ g ⟨(by intro b h; cases h; exact gz), Nat.zero_le _, (by intro c h; cases h)⟩
    ·exact qaR 8 _ base
   ·exact qaR 8 _ base
theorem qb7 {lid : Nat} {s : Abs} (g : Good lid s) (m : Nat) : Good lid { s with opens := s.opens.filter fun x => x.mark != m } :=
 ⟨g.own, g.bl, g.bs, fun o h => g.op o (List.mem_filter.mp h).1, g.ms.filter fun n => n != m, g.kp, g.se, g.re, g.ou⟩
theorem qg1 {lid : Nat} {s : Abs} (g : Good lid s) {k : Nat} {b : Bytes} (h1 : b.length <= 512) (h2 : ∀ y ∈ b, y < 256) (h3 : k < 2 ^ 160) : Good lid (keep s k b) := by
 unfold keep
 dsimp only
 split
 ·exact g
 ·rename_i h
  refine ⟨g.own, g.bl, g.bs, g.op, g.ms, ⟨?_, ?_, ?_⟩, g.se, g.re, g.ou⟩
  ·show ((_ ++ [_] : List Kept).map Kept.key).Nodup
   rw [List.map_append]
   refine qbK ((List.filter_sublist.map _).nodup g.kp.nd) ?_
   intro hm
   obtain ⟨y, hy, e⟩ := List.mem_map.mp hm
   have := (List.mem_filter.mp hy).2
   simp at this
   exact this e
  ·show (_ ++ [_] : List Kept).length <= 128
   rw [List.length_append]
   simp
   simp at h
   omega
  ·intro x hx
   rcases List.mem_append.mp hx with hx | hx
   ·exact g.kp.ea x (List.mem_filter.mp hx).1
   ·rw [List.mem_singleton.mp hx]
    exact ⟨h1, h2, h3⟩
theorem qa0 (bs : List Bucket) (t : Nat) : (nearest bs t).length <= 8 := by
 rw [qcb, List.length_take]
 exact Nat.min_le_left _ _
theorem qbP {bs : List Bucket} {t : Nat} {c : Contact} (h : c ∈ nearest bs t) : ∃ b ∈ bs, c ∈ b.known := by
 rw [qcb] at h
 exact List.mem_flatMap.mp ((qb8 t _).mem_iff.mp (List.mem_of_mem_take h))
theorem Good.known {lid : Nat} {s : Abs} (g : Good lid s) {b : Bucket} {c : Contact} (hb : b ∈ s.buckets) (hc : c ∈ b.known) : GoodC s.own c := by
 obtain ⟨i, hi⟩ := List.getElem?_of_mem hb
 exact ((g.bs i b hi).kc c hc).1
theorem qhZ {lid : Nat} {s : Abs} {a : Nat} {l : Letter} (g : Good lid s) (ha : a < 2 ^ 48) (hs : l.sender < 2 ^ 160) (gz : GoodZ l.body) : Good lid (got s a l) := by
 unfold got
 dsimp only
 have gh : Good lid { s with buckets := heard s.own s.buckets ⟨l.sender, a, 0⟩ } := qcM g hs ha
 split
 ·split
  ·exact g
  ·rename_i o ho
   exact qdT (qb7 gh o.mark) gz
 ·split
  ·exact qb9 gh ha trivial
  ·exact qb9 gh ha (qa0 _ _)
  ·rename_i k e
   split
   ·rename_i x hx
    have := g.kp.ea x (List.mem_of_find?_eq_some hx)
    exact qb9 gh ha ⟨this.1, this.2.1⟩
   ·exact qb9 gh ha (qa0 _ _)
  ·rename_i k b e
   rw [e] at gz
   exact qb9 (qg1 gh gz.2.1 gz.2.2 gz.1) ha trivial
  ·exact g
theorem qgH {lid : Nat} {s : Abs} (g : Good lid s) (m : Nat) : Good lid (late s m) := by
 unfold late
 split
 ·exact g
 ·rename_i o ho
  have gt : Good lid { s with opens := s.opens.filter (fun x => x.mark != m), buckets := silent s.own s.buckets o.to_ } := qdf (qb7 g m)
  dsimp only
  split
  ·exact gt
  ·split
   ·exact gt
   ·rename_i x hx
    have hx : s.search = some x := hx
    exact qaR 8 _ (qbr gt hx (qbH (g.se x hx) (by decide)) (qbM x _ 3 (by decide)) fun f hf => qbS hf)
theorem qcC {lid : Nat} : ∀ (l : List Nat) (s : Abs), Good lid s -> Good lid (l.foldl late s)
 | [], s, g => g
 | m :: l, s, g => qcC l _ (qgH g m)
theorem qdN {lid : Nat} {s : Abs} (g : Good lid s) (ms : Nat) : Good lid { s with now := s.now + ms, kept := s.kept.filter fun x => decide (s.now + ms < x.till) } :=
 ⟨g.own, g.bl, g.bs, fun o ho => have := g.op o ho; ⟨this.nm, this.ad, this.sl, this.ne, Nat.le_trans this.si (Nat.le_add_right _ _), this.wh, this.se⟩, g.ms,
  ⟨(List.filter_sublist.map _).nodup g.kp.nd, Nat.le_trans (List.length_filter_le _ _) g.kp.le, fun x hx => g.kp.ea x (List.mem_filter.mp hx).1⟩, g.se, g.re, g.ou⟩
theorem qhQ {lid : Nat} {s : Abs} (g : Good lid s) (ms : Nat) : Good lid (time s ms) := qcC _ _ (qdN g ms)
theorem qeh {own seed : Nat} (h1 : own < 2 ^ 160) (h2 : seed < 2 ^ 64) (lid : Nat) : Good lid { own := own, chance := seed } := by
 refine ⟨h1, List.length_replicate, ?_, (by intro o h; cases h), ⟨seed, 0, [], (qgY h2).symm, .nil, (by intro j h; cases h), rfl, Nat.zero_le _⟩, ⟨.nil, Nat.zero_le _, (by intro x h; cases h)⟩, (by intro x h; cases h), (by intro x h; cases h), ⟨Nat.zero_le _, (by intro x h; cases h)⟩⟩
 intro i b hb
 have hb : (List.replicate 160 ({} : Bucket))[i]? = some b := hb
 have : b = {} := List.eq_of_mem_replicate (List.mem_of_getElem? hb)
 subst this
 exact qfg own i
theorem qc6 {b : List Nat} {n : Nat} (h : ∀ x ∈ b, x < 256) (hl : b.length <= n) : num b < 256 ^ n :=
 Nat.lt_of_lt_of_le (num_lt b h) (Nat.pow_le_pow_right (by decide) hl)
theorem p20 : 256 ^ 20 = 2 ^ 160 := by decide +kernel
theorem p6 : 256 ^ 6 = 2 ^ 48 := by decide +kernel
theorem p8 : 256 ^ 8 = 2 ^ 64 := by decide +kernel
theorem num20 {b : List Nat} (h : ∀ x ∈ b, x < 256) (hl : b.length <= 20) : num b < 2 ^ 160 := p20 ▸ qc6 h hl
theorem num6 {b : List Nat} (h : ∀ x ∈ b, x < 256) (hl : b.length <= 6) : num b < 2 ^ 48 := p6 ▸ qc6 h hl
theorem num8 {b : List Nat} (h : ∀ x ∈ b, x < 256) (hl : b.length <= 8) : num b < 2 ^ 64 := p8 ▸ qc6 h hl
theorem qdi {b : List Nat} (h : ∀ x ∈ b, x < 256) (n : Nat) : ∀ x ∈ b.take n, x < 256 := fun x hx => h x (List.mem_of_mem_take hx)
theorem qb5 {b : List Nat} (h : ∀ x ∈ b, x < 256) (n : Nat) : ∀ x ∈ b.drop n, x < 256 := fun x hx => h x (List.mem_of_mem_drop hx)
theorem qdv (b : List Nat) (n : Nat) : (b.take n).length <= n := by rw [List.length_take]; exact Nat.min_le_left _ _
theorem qcx : ∀ (n : Nat) (b : List Nat), (∀ x ∈ b, x < 256) -> ∀ c ∈ contacts n b, c.name < 2 ^ 160 /\ c.at_ < 2 ^ 48
 | 0, _, _, c, hc => by cases hc
 | n + 1, b, h, c, hc => by
  rcases List.mem_cons.mp hc with rfl | hc
  ·exact ⟨num20 (qdi h 20) (qdv _ _), num6 (qdi (qb5 h 20) 6) (qdv _ _)⟩
  ·exact qcx n (b.drop 26) (qb5 h 26) c hc
theorem qdr {b : List Nat} {l : Letter} (h : ∀ x ∈ b, x < 256) (e : letterOf b = some l) : l.sender < 2 ^ 160 /\ l.mark < 2 ^ 64 /\ GoodZ l.body := by
 have hs : num ((b.drop 9).take 20) < 2 ^ 160 := num20 (qdi (qb5 h 9) 20) (qdv _ _)
 have hm : num ((b.drop 1).take 8) < 2 ^ 64 := num8 (qdi (qb5 h 1) 8) (qdv _ _)
 have hr := qb5 h 29
 have fin : ∀ {x : Body}, some (⟨num ((b.drop 1).take 8), num ((b.drop 9).take 20), x⟩ : Letter) = some l -> GoodZ x -> l.sender < 2 ^ 160 /\ l.mark < 2 ^ 64 /\ GoodZ l.body := by
  intro x ex gx
  cases ex
  exact ⟨hs, hm, gx⟩
 unfold letterOf at e
 dsimp only at e
 split at e
 ·cases e
 ·split at e
  ·split at e
   ·exact fin e trivial
   ·cases e
  ·split at e
   ·split at e
    ·exact fin e trivial
    ·cases e
   ·split at e
    ·split at e
     ·rename_i q
      exact fin e (num20 hr (Nat.le_of_eq q))
     ·cases e
    ·split at e
     ·split at e
      ·exact fin e (qcx _ _ (qb5 hr 1))
      ·cases e
     ·split at e
      ·split at e
       ·rename_i q
        exact fin e (num20 hr (Nat.le_of_eq q))
       ·cases e
      ·split at e
       ·split at e
        ·rename_i q
         have q2 : num ((b.drop 29).take 2) <= 512 := q.2.1
         refine fin e ⟨?_, qb5 hr 2⟩
         rw [List.length_drop]
         omega
        ·cases e
       ·split at e
        ·split at e
         ·rename_i q
          have q2 : num (((b.drop 29).drop 20).take 2) <= 512 := q.2.1
          refine fin e ⟨num20 (qdi hr 20) (qdv _ _), ?_, qb5 hr 22⟩
          rw [List.length_drop]
          omega
         ·cases e
        ·split at e
         ·split at e
          ·exact fin e trivial
          ·cases e
         ·cases e
def CallOk : Call -> Prop
 | .init => True
 | .own n seed => (∀ x ∈ n, x < 256) /\ n.length = 20 /\ seed < 2 ^ 64
 | .know n _ => (∀ x ∈ n, x < 256) /\ n.length = 20
 | .come _ b n => (∀ x ∈ b, x < 256) /\ n = b.length
 | .ping n => (∀ x ∈ n, x < 256) /\ n.length = 20
 | .search n _ => (∀ x ∈ n, x < 256) /\ n.length = 20
 | .store n k b m => (∀ x ∈ n, x < 256) /\ n.length = 20 /\ (∀ x ∈ k, x < 256) /\ k.length = 20 /\ (∀ x ∈ b, x < 256) /\ m = b.length
 | .near n _ => (∀ x ∈ n, x < 256) /\ n.length = 20
 | _ => True
theorem qcX {lid : Nat} {s : Abs} {n : Nat} {c : Contact} (g : Good lid s) (h : knownBy s n = some c) : GoodC s.own c /\ c.name = n := by
 unfold knownBy at h
 obtain ⟨b, hb, hc⟩ := List.mem_flatMap.mp (List.mem_of_find?_eq_some h)
 exact ⟨g.known hb hc, by simpa using List.find?_some h⟩
theorem qbn {own : Nat} : ∀ (bs : List Bucket) (off : Nat), (∀ i b, bs[i]? = some b -> GoodB own (off + i) b) -> ((bs.flatMap fun b => b.known).map (·.name)).Nodup /\ ∀ c ∈ bs.flatMap fun b => b.known, off <= place own c.name
 | [], _, _ => ⟨.nil, by intro c h; cases h⟩
 | b :: bs, off, h => by
  obtain ⟨h1, h2⟩ := qbn bs (off + 1) fun i b hb => by
   have := h (i + 1) b (by simpa using hb)
   rwa [show off + (i + 1) = off + 1 + i by omega] at this
  have gb : GoodB own (off + 0) b := h 0 b rfl
  constructor
  ·rw [List.flatMap_cons, List.map_append, List.nodup_append]
   refine ⟨gb.kn, h1, ?_⟩
   intro x hx y hy e
   obtain ⟨c, hc, rfl⟩ := List.mem_map.mp hx
   obtain ⟨d, hd, rfl⟩ := List.mem_map.mp hy
   have := h2 d hd
   have := (gb.kc c hc).2
   rw [e] at this
   omega
  ·intro c hc
   rw [List.flatMap_cons] at hc
   rcases List.mem_append.mp hc with hc | hc
   ·have := (gb.kc c hc).2
    omega
   ·have := h2 c hc
    omega
theorem Good.known_nodup {lid : Nat} {s : Abs} (g : Good lid s) : ((s.buckets.flatMap fun b => b.known).map (·.name)).Nodup :=
 (qbn s.buckets 0 fun i b hb => by rw [Nat.zero_add]; exact g.bs i b hb).1
theorem Good.nearest_lt {lid : Nat} {s : Abs} (g : Good lid s) (t : Nat) : (nearest s.buckets t).Pairwise fun a b => Nat.xor a.name t < Nat.xor b.name t := by
 rw [qcb]
 refine List.Pairwise.sublist (List.take_sublist _ _) ?_
 have h1 := qcQ t (s.buckets.flatMap fun b => b.known)
 have h2 : ((sortN t (s.buckets.flatMap fun b => b.known)).map (·.name)).Nodup := ((qb8 t _).map _).nodup_iff.mpr g.known_nodup
 have h3 : (sortN t (s.buckets.flatMap fun b => b.known)).Pairwise fun a b => a.name ≠ b.name := List.pairwise_map.mp h2
 refine (h1.and h3).imp fun {a b} h => ?_
 have : Nat.xor a.name t <= Nat.xor b.name t := h.1
 have : Nat.xor a.name t ≠ Nat.xor b.name t := fun e => h.2 (qc0 e)
 omega
theorem qgP {lid : Nat} {s : Abs} {c : Call} (g : Good lid s) (ok : CallOk c) : Good (lid + 65) (does s c).1 := by
 have g' : Good (lid + 65) s := g.mono (by omega)
 cases c with
 | init => exact qeh (by decide) (by decide) _
 | own n seed => exact qeh (num20 ok.1 (Nat.le_of_eq ok.2.1)) ok.2.2 _
 | know n a =>
  dsimp only [does]
  split
  ·exact g'
  ·rename_i h
   refine (qcM g' (c := ⟨num n, a, 0⟩) (num20 ok.1 (Nat.le_of_eq ok.2)) ?_)
   show a < 2 ^ 48
   have : ¬ 2 ^ 48 <= a := fun e => h (.inl e)
   omega
 | come a b n =>
  dsimp only [does]
  split
  ·exact g'
  ·rename_i h
   split
   ·exact g'
   ·rename_i l hl
    split
    ·exact g'
    ·have := qdr ok.1 hl
     refine qhZ g' ?_ this.1 this.2.2
     have : ¬ 2 ^ 48 <= a := fun e => h (.inr (.inr e))
     omega
 | time ms =>
  dsimp only [does]
  split
  ·exact g'
  ·exact qhQ g' _
 | ping n =>
  dsimp only [does]
  split
  ·exact g'
  ·rename_i c hc
   split
   ·exact g'
   ·have := (qcX g hc).1
    exact (qfU (b := .ping) g ⟨this.nm, this.ad, this.ne⟩ (by decide) (by decide) trivial).mono (by omega)
 | store n k b m =>
  dsimp only [does]
  split
  ·exact g'
  ·rename_i hm
   split
   ·exact g'
   ·rename_i c hc
    split
    ·exact g'
    ·have := (qcX g hc).1
     have e : m = b.length := ok.2.2.2.2.2
     refine (qfU (b := .store (num k) b) g ⟨this.nm, this.ad, this.ne⟩ (by decide) (by decide) ⟨?_, ok.2.2.2.2.1⟩).mono (by omega)
     have : ¬ (512 : Int) < m := fun q => hm (.inr q)
     omega
 | search n v =>
  dsimp only [does]
  split
  ·exact g'
  ·rename_i h
   split
   ·exact g'
   ·have hn : s.search = none := by
     cases e : s.search with
     | none => rfl
     | some x => exact absurd (.inl (by rw [e]; rfl)) h
    have hmem : ∀ c ∈ nearest s.buckets (num n), GoodC s.own c := by
     intro c hc
     obtain ⟨b, hb, hk⟩ := qbP hc
     exact g.known hb hk
    have hlen := qa0 s.buckets (num n)
    dsimp only
    refine qaR 8 _ ?_
    refine ⟨g.own, g.bl, g.bs, ?_, ?_, g.kp, ?_, (by intro r q; cases q), g.ou⟩
    ·intro o ho
     have := g.op o ho
     refine ⟨this.nm, this.ad, this.sl, this.ne, this.si, this.wh, fun e => ?_⟩
     obtain ⟨x, ex, _⟩ := this.se e
     rw [hn] at ex
     cases ex
    ·obtain ⟨sd, k, js, h1, h2, h3, h4, h5⟩ := g.ms
     refine ⟨sd, k, js, h1, h2, h3, h4, ?_⟩
     have : ∀ x : Search, slots (some x) <= 64 := fun x => Nat.sub_le _ _
     have := this ⟨num n, decide (v ≠ 0), (nearest s.buckets (num n)).map fun c => (⟨c.name, c.at_, 0⟩, 0)⟩
     rw [hn] at h5
     have h6 : slots none = 0 := rfl
     show k + slots (some _) <= _
     omega
    ·intro x ex
     cases ex
     refine ⟨num20 ok.1 (Nat.le_of_eq ok.2), ?_, ?_, ?_⟩
     ·show (List.map _ _).length <= 64
      rw [List.length_map]
      omega
     ·show (List.map _ _).Pairwise _
      rw [List.pairwise_map]
      exact g.nearest_lt (num n)
     ·intro f hf
      obtain ⟨c, hc, rfl⟩ := List.mem_map.mp hf
      have := hmem c hc
      exact ⟨this.nm, this.ad, rfl, this.ne, Nat.zero_le _⟩
 | result k =>
  dsimp only [does]
  split
  ·exact g'
  ·split
   ·exact g'
   ·split <;> exact g'
 | value k =>
  dsimp only [does]
  split
  ·split <;> exact g'
  ·exact g'
 | send k =>
  dsimp only [does]
  split
  ·exact g'
  ·rename_i x r e
   split
   ·exact g'
   ·refine ⟨g'.own, g'.bl, g'.bs, g'.op, g'.ms, g'.kp, g'.se, g'.re, ?_, ?_⟩
    ·have := g.ou.le
     rw [e] at this
     simp at this
     show r.length <= 256
     omega
    ·intro y hy
     exact g.ou.ea y (by rw [e]; exact List.mem_cons_of_mem _ hy)
 | near n k =>
  dsimp only [does]
  split <;> exact g'
theorem qd1 {α β : Type} (f : α -> β) : ∀ {ps : List β} {l : List α}, ps.Perm (l.map f) -> ∃ l' : List α, l'.Perm l /\ ps = l'.map f := by
 have key : ∀ {ps qs : List β}, ps.Perm qs -> ∀ l : List α, qs = l.map f -> ∃ l' : List α, l'.Perm l /\ ps = l'.map f := by
  intro ps qs p
  induction p with
  | nil =>
   intro l e
   exact ⟨l, .refl _, e⟩
  | cons x p ih =>
   intro l e
   cases l with
   | nil => cases e
   | cons a l =>
    have e' := List.cons.inj e
    obtain ⟨l', h1, h2⟩ := ih l e'.2
    exact ⟨a :: l', h1.cons a, by rw [h2, e'.1]; rfl⟩
  | swap x y r =>
   intro l e
   match l, e with
   | a :: b :: l, e =>
    have e1 := List.cons.inj e
    have e2 := List.cons.inj e1.2
    exact ⟨b :: a :: l, .swap a b l, by rw [e1.1, e2.1, e2.2]; rfl⟩
  | trans p q ih1 ih2 =>
   intro l e
   obtain ⟨l1, h1, h2⟩ := ih2 l e
   obtain ⟨l2, h3, h4⟩ := ih1 l1 h2
   exact ⟨l2, h3.trans h1, h4⟩
 intro ps l p
 exact key p l rfl
theorem qhD {own : Nat} {x : Search} {c : Contact} (h : ¬ (c.name = own \/ (x.found.any fun f => f.1.name == c.name) = true \/ 64 <= x.found.length)) : (more own x c).found.Perm (x.found ++ [(⟨c.name, c.at_, 0⟩, 0)]) := by
 unfold more
 rw [if_neg h]
 show (_ ++ _ :: _ : List Found).Perm _
 have sp : ∀ (l : List Found) (p : Found -> Bool), (l.filter p ++ l.filter fun f => !p f).Perm l := by
  intro l p
  induction l with
  | nil => exact .refl _
  | cons f l ih =>
   by_cases q : p f = true
   ·rw [List.filter_cons_of_pos q, List.filter_cons_of_neg (by simp [q])]
    exact ih.cons f
   ·rw [List.filter_cons_of_neg q, List.filter_cons_of_pos (by simp [q])]
    exact List.perm_middle.trans (ih.cons f)
 refine List.perm_middle.trans ?_
 refine ((sp x.found _).cons _).trans ?_
 exact (List.perm_append_comm (l₁ := [_]) (l₂ := x.found))
theorem qlC {own : Nat} {x : Search} {c : Contact} (g : GoodS own x) (hn : c.name < 2 ^ 160) (ha : c.at_ < 2 ^ 48) (h : ¬ (c.name = own \/ (x.found.any fun f => f.1.name == c.name) = true \/ 64 <= x.found.length))
  {l : List Found} (p : l.Perm (x.found ++ [(⟨c.name, c.at_, 0⟩, 0)])) (s : l.Pairwise fun f f' => Nat.xor f.1.name x.target <= Nat.xor f'.1.name x.target) : l = (more own x c).found := by
 have gm := qei (c := c) g hn ha
 have hp := p.trans (qhD h).symm
 have so := gm.so
 rw [(qds own x c).1] at so
 refine hp.eq_of_pairwise (le := fun f f' => Nat.xor f.1.name x.target <= Nat.xor f'.1.name x.target) ?_ s (so.imp fun h => Nat.le_of_lt h)
 intro a b ha hb h1 h2
 have ha := hp.mem_iff.mp ha
 have e : Nat.xor a.1.name x.target = Nat.xor b.1.name x.target := Nat.le_antisymm h1 h2
 have one : ∀ (l : List Found), l.Pairwise (fun f g => Nat.xor f.1.name x.target < Nat.xor g.1.name x.target) -> a ∈ l -> b ∈ l -> a = b := by
  intro l
  induction l with
  | nil => intro _ h; cases h
  | cons f l ih =>
   intro hp h1 h2
   have hp' := List.pairwise_cons.mp hp
   rcases List.mem_cons.mp h1 with q1 | h1
   ·rcases List.mem_cons.mp h2 with q2 | h2
    ·rw [q1, q2]
    ·have := hp'.1 b h2
     rw [<- q1] at this
     omega
   ·rcases List.mem_cons.mp h2 with q2 | h2
    ·have := hp'.1 a h1
     rw [<- q2] at this
     omega
    ·exact ih hp'.2 h1 h2
 exact one _ so ha hb
def askedN (x : Search) : Nat := (x.found.filter fun f => f.2 == 1).length
def nextOf (x : Search) : Option Found := if askedN x < 3 then (counted x).find? fun f => f.2 == 0 else none
theorem qkC {n : Nat} {s : Abs} {x : Search} {f : Found} (h : s.search = some x) (hf : nextOf x = some f) :
  goSearch (n + 1) s = goSearch n (ask { s with search := some (mark x f.1.name 1) } f.1 1 (if x.value = true then .want x.target else .find x.target)) := by
 unfold nextOf at hf
 split at hf
 ·rename_i h3
  rw [goSearch, h]
  dsimp only
  rw [if_pos (show (List.filter (fun f : Found => f.snd == 1) x.found).length < ASKS from h3), hf]
 ·cases hf
theorem qkP {n : Nat} {s : Abs} {x : Search} (h : s.search = some x) (hf : nextOf x = none) :
  goSearch (n + 1) s = if askedN x = 0 then close s (none, (counted x).map fun f => f.1) else s := by
 rw [goSearch, h]
 dsimp only
 unfold nextOf at hf
 split at hf
 ·rename_i h3
  rw [if_pos (show (List.filter (fun f : Found => f.snd == 1) x.found).length < ASKS from h3), hf]
  dsimp only
  by_cases q : (x.found.any fun f => f.2 == 1) = true
  ·rw [if_pos q]
   have : askedN x ≠ 0 := by
    obtain ⟨f, hf, e⟩ := List.any_eq_true.mp q
    intro z
    have := List.length_eq_zero_iff.mp z
    have hm : f ∈ x.found.filter fun f => f.2 == 1 := List.mem_filter.mpr ⟨hf, e⟩
    rw [this] at hm
    cases hm
   rw [if_neg this]
  ·rw [if_neg q]
   have : askedN x = 0 := by
    unfold askedN
    rw [List.length_eq_zero_iff, List.filter_eq_nil_iff]
    intro f hf e
    exact q (List.any_eq_true.mpr ⟨f, hf, e⟩)
   rw [if_pos this]
 ·rename_i h3
  rw [if_neg (show ¬ (List.filter (fun f : Found => f.snd == 1) x.found).length < ASKS from h3)]
  have h4 : ¬ askedN x < 3 := h3
  rw [if_neg (by omega)]
def bodyOf (k : Nat) (r : List Nat) : Option Body :=
 if k = 0 then (if r = [] then some .ping else none)
 else if k = 1 then (if r = [] then some .pong else none)
 else if k = 2 then (if r.length = 20 then some (.find (num r)) else none)
 else if k = 3 then (if 1 <= r.length /\ r.headD 0 <= 8 /\ r.length = 1 + 26 * r.headD 0 then some (.nodes (contacts (r.headD 0) (r.drop 1))) else none)
 else if k = 4 then (if r.length = 20 then some (.want (num r)) else none)
 else if k = 5 then (if 2 <= r.length /\ num (r.take 2) <= 512 /\ r.length = 2 + num (r.take 2) then some (.value (r.drop 2)) else none)
 else if k = 6 then (if 22 <= r.length /\ num ((r.drop 20).take 2) <= 512 /\ r.length = 22 + num ((r.drop 20).take 2) then some (.store (num (r.take 20)) (r.drop 22)) else none)
 else if k = 7 then (if r = [] then some .stored else none)
 else none
theorem qdp (b : List Nat) : letterOf b = if b.length < 29 then none else (bodyOf (b.headD 99) (b.drop 29)).map fun x => ⟨num ((b.drop 1).take 8), num ((b.drop 9).take 20), x⟩ := by
 unfold letterOf bodyOf
 dsimp only
 by_cases h : b.length < 29
 ·rw [if_pos h, if_pos h]
 ·rw [if_neg h, if_neg h]
  generalize b.headD 99 = k
  generalize b.drop 29 = r
  split
  ·split <;> rfl
  ·split
   ·split <;> rfl
   ·split
    ·split <;> rfl
    ·split
     ·by_cases c : 1 <= r.length /\ r.headD 0 <= 8 /\ r.length = 1 + 26 * r.headD 0
      ·rw [if_pos c]; exact if_pos c
      ·rw [if_neg c]; exact if_neg c
     ·split
      ·split <;> rfl
      ·split
       ·by_cases c : 2 <= r.length /\ num (r.take 2) <= 512 /\ r.length = 2 + num (r.take 2)
        ·rw [if_pos c]; exact if_pos c
        ·rw [if_neg c]; exact if_neg c
       ·split
        ·by_cases c : 22 <= r.length /\ num ((r.drop 20).take 2) <= 512 /\ r.length = 22 + num ((r.drop 20).take 2)
         ·rw [if_pos c]; exact if_pos c
         ·rw [if_neg c]; exact if_neg c
        ·split
         ·split <;> rfl
         ·rfl
theorem qe7 {k : Nat} {r : List Nat} {x : Body} (h : bodyOf k r = some x) : kindOf x = k := by
 unfold bodyOf at h
 repeat' split at h
 all_goals first | (cases h; subst_vars; rfl) | (cases h; done) | skip
theorem qfv {k : Nat} {r : List Nat} (h : 8 <= k) : bodyOf k r = none := by
 unfold bodyOf
 rw [if_neg (by omega), if_neg (by omega), if_neg (by omega), if_neg (by omega), if_neg (by omega), if_neg (by omega), if_neg (by omega), if_neg (by omega)]
def nameIn : Body -> Nat
 | .find t => t
 | .want t => t
 | .store k _ => k
 | _ => 0
def peopleIn : Body -> List Contact
 | .nodes l => l
 | _ => []
def bytesIn : Body -> List Nat
 | .value b => b
 | .store _ b => b
 | _ => []
theorem qdq : ∀ (n : Nat) (b : List Nat) (i : Nat), i < n -> (contacts n b)[i]? = some ⟨num ((b.drop (26 * i)).take 20), num ((b.drop (26 * i + 20)).take 6), 0⟩
 | 0, _, _, h => by omega
 | n + 1, b, 0, _ => by simp [contacts]
 | n + 1, b, i + 1, h => by
  show (_ :: contacts n (b.drop 26))[i + 1]? = _
  rw [List.getElem?_cons_succ, qdq n (b.drop 26) i (by omega), List.drop_drop, List.drop_drop]
  rw [show 26 + 26 * i = 26 * (i + 1) by omega, show 26 + (26 * i + 20) = 26 * (i + 1) + 20 by omega]
theorem qbu : ∀ (n : Nat) (b : List Nat), (contacts n b).length = n
 | 0, _ => rfl
 | n + 1, b => congrArg (· + 1) (qbu n (b.drop 26))
theorem GoodS.nodup {own : Nat} {x : Search} (g : GoodS own x) : (x.found.map (·.1.name)).Nodup := by
 rw [List.nodup_iff_pairwise_ne, List.pairwise_map]
 refine g.so.imp fun {a b} h e => ?_
 rw [e] at h
 exact Nat.lt_irrefl _ h
theorem qfb {k : Nat} : ∀ {l : List Found} {j : Nat} {f : Found}, (l.map (·.1.name)).Nodup -> l[j]? = some f -> (l.map fun g => if g.1.name = f.1.name then (g.1, k) else g) = l.set j (f.1, k)
 | [], _, _, _, h => by cases h
 | g :: l, 0, f, nd, h => by
  cases h
  rw [List.map_cons, List.nodup_cons] at nd
  rw [List.map_cons, if_pos rfl, List.set_cons_zero]
  congr 1
  have : l.map (fun g' : Found => if g'.1.name = g.1.name then (g'.1, k) else g') = l.map id := by
   refine List.map_congr_left fun g' hg => ?_
   rw [if_neg fun z => nd.1 (List.mem_map.mpr ⟨g', hg, z⟩)]
   rfl
  rw [this, List.map_id]
 | g :: l, j + 1, f, nd, h => by
  rw [List.map_cons, List.nodup_cons] at nd
  rw [List.map_cons, List.set_cons_succ, <- qfb nd.2 h]
  congr 1
  rw [if_neg fun z => nd.1 (List.mem_map.mpr ⟨f, List.mem_of_getElem? h, z.symm⟩)]
theorem qhf {own : Nat} {x : Search} {c : Contact} (ho : c.name ≠ own) (hl : x.found.length < 64) (hk : ∀ f ∈ x.found, Nat.xor f.1.name x.target < Nat.xor c.name x.target) : more own x c = ⟨x.target, x.value, x.found ++ [(⟨c.name, c.at_, 0⟩, 0)]⟩ := by
 unfold more
 rw [if_neg]
 ·have h1 : x.found.filter (fun f => decide (Nat.xor f.1.name x.target < Nat.xor c.name x.target)) = x.found := List.filter_eq_self.mpr fun f hf => decide_eq_true (hk f hf)
  have h2 : (x.found.filter fun f => !decide (Nat.xor f.1.name x.target < Nat.xor c.name x.target)) = [] := List.filter_eq_nil_iff.mpr fun f hf => by rw [decide_eq_true (hk f hf)]; decide
  dsimp only
  rw [h1, h2]
 ·rintro (h | h | h)
  ·exact ho h
  ·obtain ⟨f, hf, e⟩ := List.any_eq_true.mp h
   have := hk f hf
   rw [show f.1.name = c.name by simpa using e] at this
   omega
  ·omega
def fresh (c : Contact) : Found := (⟨c.name, c.at_, 0⟩, 0)
theorem qeE {own t : Nat} {v : Bool} : ∀ (l : List Contact) (fs : List Found), (fs ++ l.map fresh).Pairwise (fun f g : Found => Nat.xor f.1.name t < Nat.xor g.1.name t) -> (∀ c ∈ l, c.name ≠ own) -> fs.length + l.length <= 64 ->
  l.foldl (more own) ⟨t, v, fs⟩ = ⟨t, v, fs ++ l.map fresh⟩
 | [], fs, _, _, _ => by simp
 | c :: l, fs, hp, ho, hl => by
  rw [List.length_cons] at hl
  rw [List.foldl_cons, qhf (ho c List.mem_cons_self) (by show fs.length < 64; omega)]
  ·show List.foldl (more own) ⟨t, v, fs ++ [fresh c]⟩ l = _
   rw [qeE l]
   ·simp
   ·simpa using hp
   ·exact fun d hd => ho d (List.mem_cons_of_mem _ hd)
   ·rw [List.length_append, List.length_singleton]; omega
  ·intro f hf
   rw [List.pairwise_append] at hp
   exact hp.2.2 f hf (fresh c) (by simp)
theorem qiz : ∀ (js : List Nat) (n : Nat), js.Pairwise (· < ·) -> (∀ j ∈ js, j < n) -> js.length <= n := by
 intro js
 induction js using qhP with
 | h0 => intro n _ _; exact Nat.zero_le _
 | h1 l a ih =>
  intro n hp hb
  rw [List.pairwise_append] at hp
  have := ih a hp.1 fun j hj => hp.2.2 j hj a (by simp)
  have := hb a (by simp)
  rw [List.length_append, List.length_singleton]
  omega
theorem Marks.len {lid c : Nat} {o : List Open} {se : Option Search} (h : Marks lid c o se) : o.length <= lid + 1 := by
 obtain ⟨s, n, js, h1, h2, h3, h4, h5⟩ := h
 have e := congrArg List.length h4
 rw [List.length_map, List.length_map] at e
 have := qiz js (n + 1) h2 fun j hj => Nat.lt_succ_of_le (h3 j hj)
 omega
def keepL (l : List Rc50.Kept) (c : Rc50.Kept) : List Rc50.Kept := match l.findIdx? fun x => x.key == c.key with
 | some j => l.set j c
 | none => if l.length < 128 then l ++ [c] else l
theorem qhp {l r : List Rc50.Kept} (p : l.Perm r) (nd : (l.map (·.key)).Nodup) (n : Nat) : (l.find? fun x => x.key == n) = r.find? fun x => x.key == n := by
 have one : ∀ a b, a ∈ l -> b ∈ l -> a.key = b.key -> a = b := by
  intro a b ha hb e
  clear p
  induction l with
  | nil => cases ha
  | cons c l ih =>
   rw [List.map_cons, List.nodup_cons] at nd
   rcases List.mem_cons.mp ha with rfl | ha'
   ·rcases List.mem_cons.mp hb with rfl | hb'
    ·rfl
    ·exact absurd (List.mem_map.mpr ⟨b, hb', e.symm⟩) nd.1
   ·rcases List.mem_cons.mp hb with rfl | hb'
    ·exact absurd (List.mem_map.mpr ⟨a, ha', e⟩ : b.key ∈ l.map (·.key)) nd.1
    ·exact ih nd.2 ha' hb'
 cases h1 : l.find? fun x => x.key == n with
 | none =>
  symm
  rw [List.find?_eq_none] at h1 ⊢
  exact fun x hx => h1 x (p.mem_iff.mpr hx)
 | some a =>
  have ha := List.mem_of_find?_eq_some h1
  have ka : a.key = n := by simpa using List.find?_some h1
  cases h2 : r.find? fun x => x.key == n with
  | none => exact absurd (List.find?_eq_none.mp h2 a (p.mem_iff.mp ha)) (by simp [ka])
  | some b =>
   have hb := List.mem_of_find?_eq_some h2
   have kb : b.key = n := by simpa using List.find?_some h2
   rw [one a b ha (p.mem_iff.mpr hb) (ka.trans kb.symm)]
theorem qhg {l : List Rc50.Kept} {s : Abs} {k : Nat} {b : Bytes} (p : l.Perm s.kept) (nd : (l.map (·.key)).Nodup) (hl : l.length <= 128) : (keepL l ⟨k, b, s.now + 3600000⟩).Perm (keep s k b).kept := by
 have pf := p.filter fun x => x.key != k
 unfold keepL keep
 dsimp only
 cases h : l.findIdx? fun x => x.key == k with
 | none =>
  rw [List.findIdx?_eq_none_iff] at h
  have e : (l.filter fun x => x.key != k) = l := List.filter_eq_self.mpr fun x hx => by
   have := h x hx
   simpa using this
  rw [e] at pf
  have el := pf.length_eq
  dsimp only
  by_cases q : l.length < 128
  ·rw [if_pos q, if_neg (by omega)]
   exact pf.append_right _
  ·rw [if_neg q, if_pos (by omega)]
   exact p
 | some j =>
  obtain ⟨hj, h1, _⟩ := List.findIdx?_eq_some_iff_getElem.mp h
  have ek : l[j].key = k := by simpa using h1
  have fe : ∀ {l : List Rc50.Kept} {j : Nat} (hj : j < l.length), (l.map (·.key)).Nodup -> l[j].key = k -> (l.filter fun x => x.key != k) = l.eraseIdx j := by
   intro l
   induction l with
   | nil => intro j hj; cases hj
   | cons c l ih =>
    intro j hj nd ek
    rw [List.map_cons, List.nodup_cons] at nd
    cases j with
    | zero =>
     rw [List.getElem_cons_zero] at ek
     rw [List.filter_cons_of_neg (by simp [ek]), List.eraseIdx_cons_zero]
     refine List.filter_eq_self.mpr fun x hx => ?_
     have : x.key ≠ k := fun z => nd.1 (List.mem_map.mpr ⟨x, hx, z.trans ek.symm⟩)
     simpa using this
    | succ j =>
     rw [List.getElem_cons_succ] at ek
     have hj' : j < l.length := Nat.lt_of_succ_lt_succ hj
     have : c.key ≠ k := fun z => nd.1 (List.mem_map.mpr ⟨l[j], List.getElem_mem hj', ek.trans z.symm⟩)
     rw [List.filter_cons_of_pos (by simpa using this), List.eraseIdx_cons_succ, ih hj' nd.2 ek]
  have e := fe hj nd ek
  have el := pf.length_eq
  rw [e, List.length_eraseIdx, if_pos hj] at el
  dsimp only
  rw [if_neg (by omega)]
  have ps : ∀ {l : List Rc50.Kept} {j : Nat} (hj : j < l.length) (c : Rc50.Kept), (l.set j c).Perm (l.eraseIdx j ++ [c]) := by
   intro l
   induction l with
   | nil => intro j hj; cases hj
   | cons d l ih =>
    intro j hj c
    cases j with
    | zero => rw [List.set_cons_zero, List.eraseIdx_cons_zero]; exact (List.perm_append_comm (l₁ := [c])).trans (.refl _)
    | succ j => rw [List.set_cons_succ, List.eraseIdx_cons_succ]; exact (ih (Nat.lt_of_succ_lt_succ hj) c).cons d
  refine (ps hj _).trans ?_
  rw [<- e]
  exact pf.append_right _
theorem qey {x : Search} {f : Found} (h : nextOf x = some f) : f ∈ x.found /\ f.2 = 0 /\ askedN x < 3 := by
 unfold nextOf at h
 split at h
 ·rename_i h3
  refine ⟨(qch (List.mem_of_find?_eq_some h)).1, ?_, h3⟩
  simpa using List.find?_some h
 ·cases h
theorem qge {own : Nat} {x : Search} (g : GoodS own x) {f : Found} (hf : f ∈ x.found) (h0 : f.2 = 0) : askedN (mark x f.1.name 1) = askedN x + 1 := by
 obtain ⟨j, hj⟩ := List.getElem?_of_mem hf
 have hlt : j < x.found.length := (List.getElem?_eq_some_iff.mp hj).1
 unfold askedN mark
 dsimp only
 rw [qfb g.nodup hj, <- List.countP_eq_length_filter, <- List.countP_eq_length_filter, List.countP_set hlt]
 have e : x.found[j] = f := (List.getElem?_eq_some_iff.mp hj).2
 rw [e, h0]
 simp
def intsOf (l : List Nat) : List Int := l.map fun (y : Nat) => (y : Int)
def rowI (l : List Nat) : List Int := ((l.length : Nat) : Int) :: intsOf l
def codeOf : Rc50.Call -> Nat
 | .init => 0
 | .own _ _ => 1
 | .know _ _ => 2
 | .come _ _ _ => 3
 | .time _ => 4
 | .ping _ => 5
 | .search _ _ => 6
 | .result _ => 7
 | .value _ => 8
 | .store _ _ _ _ => 9
 | .send _ => 10
 | .near _ _ => 11
def enc : Rc50.Call -> List Int
 | .init => []
 | .own nm seed => (seed : Int) :: rowI nm
 | .know nm a => (a : Int) :: rowI nm
 | .come a b _ => (a : Int) :: rowI b
 | .time ms => [ms]
 | .ping nm => rowI nm
 | .search nm v => v :: rowI nm
 | .result k => [k]
 | .value k => [k]
 | .store nm key b _ => rowI nm ++ (rowI key ++ rowI b)
 | .send k => [k]
 | .near nm k => k :: rowI nm
def CallIn (C : Rc50.Call) : Prop := CallOk C /\ match C with
 | .come _ b _ => b.length <= 1024
 | .store _ _ b _ => b.length <= 512
 | _ => True
theorem qaW {l : List Int} (h : (l.all fun (z : Int) => Rc50Neutral.natural z 8) = true) : intsOf (Rc50Neutral.natsOf l) = l /\ ∀ y ∈ Rc50Neutral.natsOf l, y < 256 := by
 have h' : ∀ z ∈ l, 0 <= z /\ z < 256 := by
  intro z hz
  have := List.all_eq_true.mp h z hz
  unfold Rc50Neutral.natural at this
  simp only [Bool.and_eq_true, decide_eq_true_eq] at this
  exact this
 constructor
 ·unfold intsOf Rc50Neutral.natsOf
  rw [List.map_map]
  have : l.map ((fun (y : Nat) => (y : Int)) ∘ Int.toNat) = l.map id := List.map_congr_left fun z hz => by
   show ((z.toNat : Nat) : Int) = z
   have := h' z hz
   omega
  rw [this, List.map_id]
 ·intro y hy
  obtain ⟨z, hz, rfl⟩ := List.mem_map.mp hy
  have := h' z hz
  omega
theorem qiO {r x t : List Int} (h : PyFlat.row r = some (x, t)) : r = ((x.length : Nat) : Int) :: (x ++ t) := by
 unfold PyFlat.row at h
 split at h
 ·cases h
 ·split at h
  ·rename_i n r hn
   injection h with h
   injection h with h1 h2
   subst h1 h2
   rw [List.take_append_drop, List.length_take, Nat.min_eq_left hn.2, Int.toNat_of_nonneg hn.1]
  ·cases h
theorem qbQ {r t : List Int} {xs : List (List Int)} (h : PyFlat.rows 1 r = some (xs, t)) : ∃ x, xs = [x] /\ r = ((x.length : Nat) : Int) :: (x ++ t) := by
 unfold PyFlat.rows at h
 split at h
 ·cases h
 ·rename_i x s hx
  have : PyFlat.rows 0 s = some ([], s) := rfl
  rw [this] at h
  injection h with h
  injection h with h1 h2
  subst h1 h2
  exact ⟨x, rfl, qiO hx⟩
theorem qeL {k : Nat} {r t : List Int} {xs : List (List Int)} (h : PyFlat.rows (k + 1) r = some (xs, t)) : ∃ x ys s, xs = x :: ys /\ r = ((x.length : Nat) : Int) :: (x ++ s) /\ PyFlat.rows k s = some (ys, t) := by
 unfold PyFlat.rows at h
 split at h
 ·cases h
 ·rename_i x s hx
  split at h
  ·cases h
  ·rename_i ys t' hy
   injection h with h
   injection h with h1 h2
   subst h1 h2
   exact ⟨x, ys, s, rfl, qiO hx, hy⟩
theorem qb0 {r t : List Int} {xs : List (List Int)} (h : PyFlat.rows 0 r = some (xs, t)) : xs = [] /\ r = t := by
 have e : PyFlat.rows 0 r = some ([], r) := rfl
 rw [e] at h
 injection h with h
 injection h with h1 h2
 exact ⟨h1.symm, h2⟩
theorem nat64 {b : Int} (h : Rc50Neutral.natural b 64 = true) : ((b.toNat : Nat) : Int) = b /\ b.toNat < 2 ^ 64 := by
 unfold Rc50Neutral.natural at h
 simp only [Bool.and_eq_true, decide_eq_true_eq] at h
 omega
theorem qa6 {a : List Int} (h : (a.all fun (z : Int) => Rc50Neutral.natural z 8) = true) : rowI (Rc50Neutral.natsOf a) = ((a.length : Nat) : Int) :: a := by
 unfold rowI
 rw [(qaW h).1]
 unfold Rc50Neutral.natsOf
 rw [List.length_map]
theorem qa4 (a : List Int) : (Rc50Neutral.natsOf a).length = a.length := List.length_map _
theorem qft {p : Int} {nk : Nat × Nat} (h : PyRc50.shape p = some nk) :
  (p = 0 /\ nk = (0, 0)) \/ (p = 1 /\ nk = (1, 1)) \/ (p = 2 /\ nk = (1, 1)) \/ (p = 3 /\ nk = (1, 1)) \/ (p = 4 /\ nk = (1, 0)) \/ (p = 5 /\ nk = (0, 1)) \/ (p = 6 /\ nk = (1, 1)) \/ (p = 7 /\ nk = (1, 0)) \/ (p = 8 /\ nk = (1, 0)) \/ (p = 9 /\ nk = (0, 3)) \/ (p = 10 /\ nk = (1, 0)) \/ (p = 11 /\ nk = (1, 1)) := by
 unfold PyRc50.shape at h
 by_cases z : p = 0
 ·rw [if_pos z] at h; injection h with h; subst h; exact .inl ⟨z, rfl⟩
 rw [if_neg z] at h
 clear z
 by_cases z : p = 1
 ·rw [if_pos z] at h; injection h with h; subst h; exact .inr (.inl ⟨z, rfl⟩)
 rw [if_neg z] at h
 clear z
 by_cases z : p = 2
 ·rw [if_pos z] at h; injection h with h; subst h; exact .inr (.inr (.inl ⟨z, rfl⟩))
 rw [if_neg z] at h
 clear z
 by_cases z : p = 3
 ·rw [if_pos z] at h; injection h with h; subst h; exact .inr (.inr (.inr (.inl ⟨z, rfl⟩)))
 rw [if_neg z] at h
 clear z
 by_cases z : p = 4
 ·rw [if_pos z] at h; injection h with h; subst h; exact .inr (.inr (.inr (.inr (.inl ⟨z, rfl⟩))))
 rw [if_neg z] at h
 clear z
 by_cases z : p = 5
 ·rw [if_pos z] at h; injection h with h; subst h; exact .inr (.inr (.inr (.inr (.inr (.inl ⟨z, rfl⟩)))))
 rw [if_neg z] at h
 clear z
 by_cases z : p = 6
 ·rw [if_pos z] at h; injection h with h; subst h; exact .inr (.inr (.inr (.inr (.inr (.inr (.inl ⟨z, rfl⟩))))))
 rw [if_neg z] at h
 clear z
 by_cases z : p = 7
 ·rw [if_pos z] at h; injection h with h; subst h; exact .inr (.inr (.inr (.inr (.inr (.inr (.inr (.inl ⟨z, rfl⟩)))))))
 rw [if_neg z] at h
 clear z
 by_cases z : p = 8
 ·rw [if_pos z] at h; injection h with h; subst h; exact .inr (.inr (.inr (.inr (.inr (.inr (.inr (.inr (.inl ⟨z, rfl⟩))))))))
 rw [if_neg z] at h
 clear z
 by_cases z : p = 9
 ·rw [if_pos z] at h; injection h with h; subst h; exact .inr (.inr (.inr (.inr (.inr (.inr (.inr (.inr (.inr (.inl ⟨z, rfl⟩)))))))))
 rw [if_neg z] at h
 clear z
 by_cases z : p = 10
 ·rw [if_pos z] at h; injection h with h; subst h; exact .inr (.inr (.inr (.inr (.inr (.inr (.inr (.inr (.inr (.inr (.inl ⟨z, rfl⟩))))))))))
 rw [if_neg z] at h
 clear z
 by_cases z : p = 11
 ·rw [if_pos z] at h; injection h with h; subst h; exact .inr (.inr (.inr (.inr (.inr (.inr (.inr (.inr (.inr (.inr (.inr (⟨z, rfl⟩)))))))))))
 rw [if_neg z] at h
 clear z
 cases h
theorem qmc {l t : List Int} {c : List (List Int)} (h : PyFlat.call PyRc50.shape l = some (c, t)) (ha : Rc50Neutral.asked1 (PyRc50.whole c) = true) :
  ∃ C : Rc50.Call, l = ((codeOf C : Nat) : Int) :: (enc C ++ t) /\ CallIn C /\ Rc50Neutral.callOf (PyRc50.whole c) = some C := by
 unfold PyFlat.call at h
 split at h
 ·cases h
 ·rename_i p r
  split at h
  ·cases h
  ·rename_i n k hs
   split at h
   ·cases h
   ·rename_i hlen
    split at h
    ·cases h
    ·rename_i xs t' hr
     injection h with h
     injection h with h1 h2
     subst h1 h2
     have one : ∀ {r : List Int}, ¬ r.length < 1 -> ∃ x s, r = x :: s := by
      intro r hr
      cases r with
      | nil => exact absurd (by decide) hr
      | cons x s => exact ⟨x, s, rfl⟩
     rcases qft hs with ⟨rfl, e⟩ | ⟨rfl, e⟩ | ⟨rfl, e⟩ | ⟨rfl, e⟩ | ⟨rfl, e⟩ | ⟨rfl, e⟩ | ⟨rfl, e⟩ | ⟨rfl, e⟩ | ⟨rfl, e⟩ | ⟨rfl, e⟩ | ⟨rfl, e⟩ | ⟨rfl, e⟩ <;> (injection e with e1 e2; subst e1 e2)
     ·obtain ⟨rfl, rfl⟩ := qb0 hr
      exact ⟨.init, rfl, ⟨trivial, trivial⟩, rfl⟩
     ·obtain ⟨x, s, rfl⟩ := one hlen
      obtain ⟨a, rfl, e⟩ := qbQ hr
      replace e : s = _ := e
      subst e
      replace ha : ((a.all (fun (z : Int) => Rc50Neutral.natural z 8) && decide (a.length = 20)) && (Rc50Neutral.natural x 64)) = true := ha
      simp only [Bool.and_eq_true, decide_eq_true_eq] at ha
      obtain ⟨⟨h1, h2⟩, h3⟩ := ha
      refine ⟨.own (Rc50Neutral.natsOf a) x.toNat, ?_, ⟨⟨(qaW h1).2, by rw [qa4]; exact h2, (nat64 h3).2⟩, trivial⟩, rfl⟩
      show _ = (1 : Int) :: (((x.toNat : Nat) : Int) :: rowI (Rc50Neutral.natsOf a) ++ _)
      rw [qa6 h1, (nat64 h3).1]
      rfl
     ·obtain ⟨x, s, rfl⟩ := one hlen
      obtain ⟨a, rfl, e⟩ := qbQ hr
      replace e : s = _ := e
      subst e
      replace ha : ((a.all (fun (z : Int) => Rc50Neutral.natural z 8) && decide (a.length = 20)) && (Rc50Neutral.natural x 64)) = true := ha
      simp only [Bool.and_eq_true, decide_eq_true_eq] at ha
      obtain ⟨⟨h1, h2⟩, h3⟩ := ha
      refine ⟨.know (Rc50Neutral.natsOf a) x.toNat, ?_, ⟨⟨(qaW h1).2, by rw [qa4]; exact h2⟩, trivial⟩, rfl⟩
      show _ = (2 : Int) :: (((x.toNat : Nat) : Int) :: rowI (Rc50Neutral.natsOf a) ++ _)
      rw [qa6 h1, (nat64 h3).1]
      rfl
     ·obtain ⟨x, s, rfl⟩ := one hlen
      obtain ⟨a, rfl, e⟩ := qbQ hr
      replace e : s = _ := e
      subst e
      replace ha : (Rc50Neutral.natural x 64 && ((a.all (fun (z : Int) => Rc50Neutral.natural z 8) && Rc50Neutral.long a (a.length : Int) 1 1024) && (Rc50Neutral.whole32 (a.length : Int)))) = true := ha
      simp only [Bool.and_eq_true, decide_eq_true_eq] at ha
      obtain ⟨h3, ⟨h1, h2⟩, _⟩ := ha
      have hl : a.length <= 1024 := by
       unfold Rc50Neutral.long at h2
       have h2 := of_decide_eq_true h2
       split at h2 <;> omega
      refine ⟨.come x.toNat (Rc50Neutral.natsOf a) (a.length : Int), ?_, ⟨⟨(qaW h1).2, by rw [qa4]⟩, by show (Rc50Neutral.natsOf a).length <= 1024; rw [qa4]; exact hl⟩, rfl⟩
      show _ = (3 : Int) :: (((x.toNat : Nat) : Int) :: rowI (Rc50Neutral.natsOf a) ++ _)
      rw [qa6 h1, (nat64 h3).1]
      rfl
     ·obtain ⟨x, s, rfl⟩ := one hlen
      obtain ⟨rfl, e⟩ := qb0 hr
      replace e : s = _ := e
      subst e
      exact ⟨.time x, rfl, ⟨trivial, trivial⟩, rfl⟩
     ·obtain ⟨a, rfl, e⟩ := qbQ hr
      replace e : r = _ := e
      subst e
      replace ha : (a.all (fun (z : Int) => Rc50Neutral.natural z 8) && decide (a.length = 20)) = true := ha
      simp only [Bool.and_eq_true, decide_eq_true_eq] at ha
      obtain ⟨h1, h2⟩ := ha
      refine ⟨.ping (Rc50Neutral.natsOf a), ?_, ⟨⟨(qaW h1).2, by rw [qa4]; exact h2⟩, trivial⟩, rfl⟩
      show _ = (5 : Int) :: (rowI (Rc50Neutral.natsOf a) ++ _)
      rw [qa6 h1]
      rfl
     ·obtain ⟨x, s, rfl⟩ := one hlen
      obtain ⟨a, rfl, e⟩ := qbQ hr
      replace e : s = _ := e
      subst e
      replace ha : ((a.all (fun (z : Int) => Rc50Neutral.natural z 8) && decide (a.length = 20)) && (Rc50Neutral.whole32 x)) = true := ha
      simp only [Bool.and_eq_true, decide_eq_true_eq] at ha
      obtain ⟨⟨h1, h2⟩, h3⟩ := ha
      refine ⟨.search (Rc50Neutral.natsOf a) x, ?_, ⟨⟨(qaW h1).2, by rw [qa4]; exact h2⟩, trivial⟩, rfl⟩
      show _ = (6 : Int) :: (x :: rowI (Rc50Neutral.natsOf a) ++ _)
      rw [qa6 h1]
      rfl
     ·obtain ⟨x, s, rfl⟩ := one hlen
      obtain ⟨rfl, e⟩ := qb0 hr
      replace e : s = _ := e
      subst e
      exact ⟨.result x, rfl, ⟨trivial, trivial⟩, rfl⟩
     ·obtain ⟨x, s, rfl⟩ := one hlen
      obtain ⟨rfl, e⟩ := qb0 hr
      replace e : s = _ := e
      subst e
      exact ⟨.value x, rfl, ⟨trivial, trivial⟩, rfl⟩
     ·obtain ⟨a, ys, s1, rfl, e, hr⟩ := qeL hr
      obtain ⟨b, zs, s2, rfl, e2, hr⟩ := qeL hr
      obtain ⟨d, rfl, e3⟩ := qbQ hr
      replace e : r = _ := e
      subst e2 e3
      subst e
      replace ha : ((a.all (fun (z : Int) => Rc50Neutral.natural z 8) && decide (a.length = 20)) && ((b.all (fun (z : Int) => Rc50Neutral.natural z 8) && decide (b.length = 20)) && ((d.all (fun (z : Int) => Rc50Neutral.natural z 8) && Rc50Neutral.long d (d.length : Int) 1 512) && (Rc50Neutral.whole32 (d.length : Int))))) = true := ha
      simp only [Bool.and_eq_true, decide_eq_true_eq] at ha
      obtain ⟨⟨h1, h2⟩, ⟨h3, h4⟩, ⟨h5, h6⟩, _⟩ := ha
      have hl : d.length <= 512 := by
       unfold Rc50Neutral.long at h6
       have h6 := of_decide_eq_true h6
       split at h6 <;> omega
      refine ⟨.store (Rc50Neutral.natsOf a) (Rc50Neutral.natsOf b) (Rc50Neutral.natsOf d) (d.length : Int), ?_, ⟨⟨(qaW h1).2, by rw [qa4]; exact h2, (qaW h3).2, by rw [qa4]; exact h4, (qaW h5).2, by rw [qa4]⟩, by show (Rc50Neutral.natsOf d).length <= 512; rw [qa4]; exact hl⟩, rfl⟩
      show _ = (9 : Int) :: ((rowI (Rc50Neutral.natsOf a) ++ (rowI (Rc50Neutral.natsOf b) ++ rowI (Rc50Neutral.natsOf d))) ++ _)
      rw [qa6 h1, qa6 h3, qa6 h5]
      simp
     ·obtain ⟨x, s, rfl⟩ := one hlen
      obtain ⟨rfl, e⟩ := qb0 hr
      replace e : s = _ := e
      subst e
      exact ⟨.send x, rfl, ⟨trivial, trivial⟩, rfl⟩
     ·obtain ⟨x, s, rfl⟩ := one hlen
      obtain ⟨a, rfl, e⟩ := qbQ hr
      replace e : s = _ := e
      subst e
      replace ha : ((a.all (fun (z : Int) => Rc50Neutral.natural z 8) && decide (a.length = 20)) && (Rc50Neutral.whole32 x)) = true := ha
      simp only [Bool.and_eq_true, decide_eq_true_eq] at ha
      obtain ⟨⟨h1, h2⟩, h3⟩ := ha
      refine ⟨.near (Rc50Neutral.natsOf a) x, ?_, ⟨⟨(qaW h1).2, by rw [qa4]; exact h2⟩, trivial⟩, rfl⟩
      show _ = (11 : Int) :: (x :: rowI (Rc50Neutral.natsOf a) ++ _)
      rw [qa6 h1]
      rfl
theorem qgu {f : Nat} {l : List Int} {cs : List (List (List Int))} (h : PyFlat.calls PyRc50.shape f l = some cs) (hl : l ≠ []) : ∃ c ds t f', cs = c :: ds /\ PyFlat.call PyRc50.shape l = some (c, t) /\ PyFlat.calls PyRc50.shape f' t = some ds := by
 cases l with
 | nil => exact absurd rfl hl
 | cons p r =>
  cases f with
  | zero => cases h
  | succ f =>
   unfold PyFlat.calls at h
   split at h
   ·cases h
   ·rename_i c t hc
    split at h
    ·cases h
    ·rename_i ds hd
     injection h with h
     exact ⟨c, ds, t, f, h.symm, hc, hd⟩
theorem qhr {f : Nat} {cs : List (List (List Int))} (h : PyFlat.calls PyRc50.shape f [] = some cs) : cs = [] := by
 unfold PyFlat.calls at h
 injection h with h
 exact h.symm
end NM
namespace NM
open PySem L2
abbrev As := Hp -> Prop
def Sb (h H : Hp) : Prop := ∀ b o, h b = some o -> H b = some o
def Dj (h k : Hp) : Prop := ∀ b, h b = none \/ k b = none
def uni (h k : Hp) : Hp := fun b => match h b with | some o => some o | none => k b
def emp : Hp := fun _ => none
def cel (a : Addr) (o : HO) : Hp := fun b => if b = a then some o else none
def Pt (a : Addr) (o : HO) : As := fun h => h = cel a o
def star (P Q : As) : As := fun h => ∃ h1 h2, Dj h1 h2 /\ h = uni h1 h2 /\ P h1 /\ Q h2
def stars : List As -> As
 | [] => fun h => h = emp
 | P :: l => star P (stars l)
theorem qd2 {h k : Hp} {b : Addr} {o : HO} (e : h b = some o) : uni h k b = some o := by unfold uni; rw [e]
theorem qeN {h k : Hp} {b : Addr} (e : h b = none) : uni h k b = k b := by unfold uni; rw [e]
theorem qhW {h k : Hp} {b : Addr} {o : HO} (d : Dj h k) (e : k b = some o) : uni h k b = some o := by
 rcases d b with z | z
 ·rw [qeN z]; exact e
 ·rw [z] at e; cases e
theorem qaT {h k : Hp} {b : Addr} : uni h k b = none ↔ h b = none /\ k b = none := by
 unfold uni
 cases e : h b with
 | none => simp
 | some o => simp
theorem Dj.symm {h k : Hp} (d : Dj h k) : Dj k h := fun b => (d b).symm
theorem qfT {h k : Hp} (d : Dj h k) : uni h k = uni k h := by
 funext b
 cases e : h b with
 | some o => rw [qd2 e, qhW d.symm e]
 | none =>
  rw [qeN e]
  cases e2 : k b with
  | some o => rw [qd2 e2]
  | none => rw [qeN e2, e]
theorem qeu (h k l : Hp) : uni (uni h k) l = uni h (uni k l) := by
 funext b
 unfold uni
 cases h b <;> rfl
theorem qfw (h : Hp) : uni h emp = h := by
 funext b
 unfold uni emp
 cases h b <;> rfl
theorem Dj.emp (h : Hp) : Dj h emp := fun b => .inr rfl
theorem Dj.uni_left {h k l : Hp} : Dj (uni h k) l ↔ Dj h l /\ Dj k l := by
 constructor
 ·intro d
  refine ⟨fun b => ?_, fun b => ?_⟩
  ·rcases d b with z | z
   ·exact .inl (qaT.mp z).1
   ·exact .inr z
  ·rcases d b with z | z
   ·exact .inl (qaT.mp z).2
   ·exact .inr z
 ·rintro ⟨d1, d2⟩ b
  rcases d1 b with z | z
  ·rcases d2 b with y | y
   ·exact .inl (qaT.mpr ⟨z, y⟩)
   ·exact .inr y
  ·exact .inr z
theorem Dj.uni_right {h k l : Hp} : Dj h (uni k l) ↔ Dj h k /\ Dj h l := by
 constructor
 ·intro d
  have := Dj.uni_left.mp d.symm
  exact ⟨this.1.symm, this.2.symm⟩
 ·rintro ⟨d1, d2⟩
  exact (Dj.uni_left.mpr ⟨d1.symm, d2.symm⟩).symm
theorem qc9 {P Q : As} {h : Hp} (s : star P Q h) : star Q P h := by
 obtain ⟨h1, h2, d, e, p, q⟩ := s
 exact ⟨h2, h1, d.symm, by rw [e, qfT d], q, p⟩
theorem qdI {P Q R : As} {h : Hp} (s : star P (star Q R) h) : star (star P Q) R h := by
 obtain ⟨h1, _, d, e, p, h2, h3, d2, rfl, q, r⟩ := s
 have d' := Dj.uni_right.mp d
 exact ⟨uni h1 h2, h3, Dj.uni_left.mpr ⟨d'.2, d2⟩, by rw [e, qeu], ⟨h1, h2, d'.1, rfl, p, q⟩, r⟩
theorem star_assoc' {P Q R : As} {h : Hp} (s : star (star P Q) R h) : star P (star Q R) h := by
 obtain ⟨_, h3, d, e, ⟨h1, h2, d2, rfl, p, q⟩, r⟩ := s
 have d' := Dj.uni_left.mp d
 exact ⟨h1, uni h2 h3, Dj.uni_right.mpr ⟨d2, d'.1⟩, by rw [e, qeu], p, h2, h3, d'.2, rfl, q, r⟩
theorem qbB {P P' Q Q' : As} {h : Hp} (s : star P Q h) (f : ∀ h, P h -> P' h) (g : ∀ h, Q h -> Q' h) : star P' Q' h := by
 obtain ⟨h1, h2, d, e, p, q⟩ := s
 exact ⟨h1, h2, d, e, f _ p, g _ q⟩
theorem qgR {P Q R : As} {h : Hp} (s : star P (star Q R) h) : star Q (star P R) h :=
 star_assoc' (qbB (qdI s) (fun _ => qc9) fun _ x => x)
theorem qbb {l l' : List As} (p : l.Perm l') : ∀ {h : Hp}, stars l h -> stars l' h := by
 induction p with
 | nil => intro h s; exact s
 | cons x p ih => intro h s; exact qbB s (fun _ x => x) fun _ => ih
 | swap x y l => intro h s; exact qgR s
 | trans p q ih1 ih2 => intro h s; exact ih2 (ih1 s)
theorem qd5 {P : As} {h : Hp} (p : P h) : star P (fun h => h = emp) h := ⟨h, emp, Dj.emp h, (qfw h).symm, p, rfl⟩
theorem qa5 {P : As} {h : Hp} : stars [P] h ↔ P h := by
 constructor
 ·rintro ⟨h1, h2, d, e, p, rfl⟩
  rw [e, qfw]
  exact p
 ·intro p; exact qd5 p
theorem qbv {l k : List As} {h : Hp} : stars (l ++ k) h ↔ star (stars l) (stars k) h := by
 induction l generalizing h with
 | nil =>
  constructor
  ·intro s; exact qc9 (qd5 s)
  ·intro s
   obtain ⟨h1, h2, d, e, rfl, q⟩ := s
   have : h = h2 := by rw [e, qfT d, qfw]
   rw [this]; exact q
 | cons P l ih =>
  constructor
  ·intro s
   exact qdI (qbB s (fun _ x => x) fun _ x => ih.mp x)
  ·intro s
   exact qbB (star_assoc' s) (fun _ x => x) fun _ x => ih.mpr x
theorem qa7 {α : Type} : ∀ {l : List α} {i : Nat} {x : α}, l[i]? = some x -> l.Perm (x :: l.eraseIdx i)
 | [], i, x, h => by simp at h
 | a :: l, 0, x, h => by
  simp at h
  subst h
  exact .refl _
 | a :: l, i + 1, x, h => by
  have h' : l[i]? = some x := by simpa using h
  rw [List.eraseIdx_cons_succ]
  exact ((qa7 h').cons a).trans (.swap x a _)
theorem qbe {α : Type} : ∀ {l : List α} {i : Nat} {x y : α}, l[i]? = some x -> (l.set i y).Perm (y :: l.eraseIdx i)
 | [], i, x, y, h => by simp at h
 | a :: l, 0, x, y, h => by
  rw [List.set_cons_zero, List.eraseIdx_cons_zero]
 | a :: l, i + 1, x, y, h => by
  have h' : l[i]? = some x := by simpa using h
  rw [List.set_cons_succ, List.eraseIdx_cons_succ]
  exact ((qbe h').cons a).trans (.swap y a _)
theorem qeK {a : Addr} {o : HO} {h : Hp} (p : Pt a o h) : h a = some o := by rw [p]; unfold cel; rw [if_pos rfl]
theorem Sb.refl (H : Hp) : Sb H H := fun _ _ e => e
theorem Sb.left {h k H : Hp} (s : Sb (uni h k) H) : Sb h H := fun b o e => s b o (qd2 e)
theorem Sb.right {h k H : Hp} (d : Dj h k) (s : Sb (uni h k) H) : Sb k H := fun b o e => s b o (qhW d e)
theorem Sb.upd {h H : Hp} {a : Addr} {o : HO} (s : Sb h H) : Sb (L2.upd h a o) (L2.upd H a o) := by
 intro b u e
 by_cases q : b = a
 ·subst q; rw [qaf] at e ⊢; exact e
 ·rw [qaq q] at e ⊢; exact s b u e
structure Fm (H h H' h' : Hp) : Prop where
 keep : ∀ b o, H b = some o -> h b = none -> H' b = some o
 news : ∀ b, h' b ≠ none -> h b ≠ none \/ H b = none
theorem Fm.refl (H h : Hp) : Fm H h H h := ⟨fun _ _ e _ => e, fun _ n => .inl n⟩
theorem Fm.trans {H0 h0 H h H' h' : Hp} (x : Fm H0 h0 H h) (y : Fm H h H' h') : Fm H0 h0 H' h' := by
 refine ⟨fun b o e n => ?_, fun b n => ?_⟩
 ·refine y.keep b o (x.keep b o e n) ?_
  cases q : h b with
  | none => rfl
  | some u =>
   rcases x.news b (by rw [q]; simp) with z | z
   ·exact absurd n z
   ·rw [e] at z; cases z
 ·rcases y.news b n with z | z
  ·exact x.news b z
  ·by_cases q : h0 b = none
   ·refine .inr ?_
    cases e : H0 b with
    | none => rfl
    | some o => rw [x.keep b o e q] at z; cases z
   ·exact .inl q
theorem Fm.side {H h1 h2 H' h1' : Hp} (s : Sb (uni h1 h2) H) (d : Dj h1 h2) (y : Fm H h1 H' h1') (s' : Sb h1' H') : Dj h1' h2 /\ Sb (uni h1' h2) H' /\ Fm H (uni h1 h2) H' (uni h1' h2) := by
 have dj : Dj h1' h2 := by
  intro b
  cases q : h2 b with
  | none => exact .inr rfl
  | some o =>
   refine .inl ?_
   cases e : h1' b with
   | none => rfl
   | some u =>
    rcases y.news b (by rw [e]; simp) with z | z
    ·rcases d b with y | y
     ·exact absurd y z
     ·rw [y] at q; cases q
    ·rw [s b o (qhW d q)] at z; cases z
 refine ⟨dj, ?_, ?_, ?_⟩
 ·intro b o e
  cases q : h1' b with
  | some u => rw [qd2 q] at e; cases e; exact s' b o q
  | none =>
   rw [qeN q] at e
   refine y.keep b o (s b o (qhW d e)) ?_
   rcases d b with z | z
   ·exact z
   ·rw [z] at e; cases e
 ·intro b o e n
  exact y.keep b o e (qaT.mp n).1
 ·intro b n
  by_cases q : h1' b = none
  ·rw [qeN q] at n
   refine .inl fun z => n (qaT.mp z).2
  ·rcases y.news b q with z | z
   ·exact .inl fun y => z (qaT.mp y).1
   ·exact .inr z
def Sl (H0 h0 H : Hp) (l : List As) : Prop := ∃ h, Sb h H /\ stars l h /\ Fm H0 h0 H h
section
variable {H0 h0 H : Hp} {l : List As} {i : Nat} {a : Addr} {o o' : HO} {P P' : As}
theorem Sl.init {h : Hp} (s : Sb h H) (p : P h) : Sl H h H [P] := ⟨h, s, qa5.mpr p, Fm.refl H h⟩
theorem Sl.perm {l' : List As} (c : Sl H0 h0 H l) (p : l.Perm l') : Sl H0 h0 H l' := let ⟨h, s, q, f⟩ := c; ⟨h, s, qbb p q, f⟩
theorem Sl.pull (c : Sl H0 h0 H l) (i : Nat) (e : l[i]? = some P) : Sl H0 h0 H (P :: l.eraseIdx i) := c.perm (qa7 e)
theorem Sl.head (c : Sl H0 h0 H (P :: l)) : ∃ h1, P h1 /\ Sb h1 H := by
 obtain ⟨h, s, ⟨h1, h2, d, rfl, p, q⟩, f⟩ := c
 exact ⟨h1, p, s.left⟩
theorem Sl.get (c : Sl H0 h0 H l) (i : Nat) (e : l[i]? = some (Pt a o)) : H a = some o := by
 obtain ⟨h1, p, s⟩ := (c.pull i e).head
 exact s a o (qeK p)
theorem Sl.set0 (c : Sl H0 h0 H (Pt a o :: l)) : Sl H0 h0 (upd H a o') (Pt a o' :: l) := by
 obtain ⟨h, s, ⟨h1, h2, d, rfl, p, q⟩, f⟩ := c
 have p : h1 = cel a o := p
 have dj : Dj (cel a o') h2 := by
  intro b
  rcases d b with z | z
  ·rw [p] at z
   refine .inl ?_
   unfold cel at z ⊢
   split
   ·rename_i e; rw [if_pos e] at z; cases z
   ·rfl
  ·exact .inr z
 have ha2 : h2 a = none := by
  rcases d a with z | z
  ·rw [p] at z; unfold cel at z; rw [if_pos rfl] at z; cases z
  ·exact z
 have e : uni (cel a o') h2 = upd (uni h1 h2) a o' := by
  funext b
  by_cases q : b = a
  ·subst q
   rw [qaf]
   exact qd2 (by unfold cel; rw [if_pos rfl])
  ·rw [qaq q, p]
   unfold uni cel
   rw [if_neg q, if_neg q]
 refine ⟨uni (cel a o') h2, by rw [e]; exact s.upd, ⟨cel a o', h2, dj, rfl, rfl, q⟩, f.trans ⟨fun b u hb hn => ?_, fun b hn => ?_⟩⟩
 ·have : b ≠ a := by
   rintro rfl
   have := (qaT.mp hn).1
   rw [p] at this; unfold cel at this; rw [if_pos rfl] at this; cases this
  rw [qaq this]; exact hb
 ·rw [e] at hn
  by_cases q : b = a
  ·subst q
   refine .inl fun z => ?_
   have := (qaT.mp z).1
   rw [p] at this; unfold cel at this; rw [if_pos rfl] at this; cases this
  ·rw [qaq q] at hn; exact .inl hn
theorem Sl.set (c : Sl H0 h0 H l) (i : Nat) (e : l[i]? = some (Pt a o)) : Sl H0 h0 (upd H a o') (l.set i (Pt a o')) :=
 (c.pull i e).set0.perm (qbe e).symm
theorem Sl.new (c : Sl H0 h0 H l) (n : H a = none) : Sl H0 h0 (upd H a o) (Pt a o :: l) := by
 obtain ⟨h, s, q, f⟩ := c
 have hn : h a = none := by
  cases e : h a with
  | none => rfl
  | some u => rw [s a u e] at n; cases n
 have dj : Dj (cel a o) h := by
  intro b
  by_cases e : b = a
  ·subst e; exact .inr hn
  ·exact .inl (by unfold cel; rw [if_neg e])
 have e : uni (cel a o) h = upd h a o := by
  funext b
  by_cases q : b = a
  ·subst q; rw [qaf]; exact qd2 (by unfold cel; rw [if_pos rfl])
  ·rw [qaq q]; exact qeN (by unfold cel; rw [if_neg q])
 refine ⟨uni (cel a o) h, by rw [e]; exact s.upd, ⟨cel a o, h, dj, rfl, rfl, q⟩, f.trans ⟨fun b u hb _ => ?_, fun b hb => ?_⟩⟩
 ·have : b ≠ a := by rintro rfl; rw [n] at hb; cases hb
  rw [qaq this]; exact hb
 ·rw [e] at hb
  by_cases q : b = a
  ·subst q; exact .inr n
  ·rw [qaq q] at hb; exact .inl hb
theorem Sl.lay (c : Sl H0 h0 H l) (n : H a = none) : Sl H0 h0 (upd H a o) l := by
 obtain ⟨h, s, q, f⟩ := c
 refine ⟨h, fun b u e => ?_, q, f.trans ⟨fun b u hb _ => ?_, fun b hb => .inl hb⟩⟩
 ·have : b ≠ a := by rintro rfl; rw [s _ _ e] at n; cases n
  rw [qaq this]; exact s b u e
 ·have : b ≠ a := by rintro rfl; rw [n] at hb; cases hb
  rw [qaq this]; exact hb
theorem Sl.call0 (c : Sl H0 h0 H (P :: l)) : ∃ h1, P h1 /\ Sb h1 H /\ ∀ {H' h1' : Hp} {P' : As}, P' h1' -> Sb h1' H' -> Fm H h1 H' h1' -> Sl H0 h0 H' (P' :: l) := by
 obtain ⟨h, s, ⟨h1, h2, d, rfl, p, q⟩, f⟩ := c
 refine ⟨h1, p, s.left, fun {H' h1' P'} p' s' y => ?_⟩
 obtain ⟨dj, sb, fr⟩ := Fm.side s d y s'
 exact ⟨uni h1' h2, sb, ⟨h1', h2, dj, rfl, p', q⟩, f.trans fr⟩
theorem Sl.call (c : Sl H0 h0 H l) (i : Nat) (e : l[i]? = some P) : ∃ h1, P h1 /\ Sb h1 H /\ ∀ {H' h1' : Hp} {P' : As}, P' h1' -> Sb h1' H' -> Fm H h1 H' h1' -> Sl H0 h0 H' (l.set i P') := by
 obtain ⟨h1, p, s, k⟩ := (c.pull i e).call0
 exact ⟨h1, p, s, fun p' s' y => (k p' s' y).perm (qbe e).symm⟩
theorem Sl.imp0 (c : Sl H0 h0 H (P :: l)) (f : ∀ h, P h -> P' h) : Sl H0 h0 H (P' :: l) := let ⟨h, s, q, r⟩ := c; ⟨h, s, qbB q f fun _ x => x, r⟩
theorem Sl.drop0 (c : Sl H0 h0 H (P :: l)) : Sl H0 h0 H l := by
 obtain ⟨h, s, ⟨h1, h2, d, rfl, p, q⟩, f⟩ := c
 refine ⟨h2, s.right d, q, f.keep, fun b n => f.news b fun z => n (qaT.mp z).2⟩
theorem Sl.open0 {k : List As} (c : Sl H0 h0 H (stars k :: l)) : Sl H0 h0 H (k ++ l) := let ⟨h, s, q, r⟩ := c; ⟨h, s, qbv.mpr q, r⟩
theorem Sl.fold0 {k : List As} (c : Sl H0 h0 H (k ++ l)) : Sl H0 h0 H (stars k :: l) := let ⟨h, s, q, r⟩ := c; ⟨h, s, qbv.mp q, r⟩
theorem Sl.ex0 {α : Type} {R : α -> As} (c : Sl H0 h0 H ((fun h => ∃ x, R x h) :: l)) : ∃ x, Sl H0 h0 H (R x :: l) := by
 obtain ⟨h, s, ⟨h1, h2, d, e, ⟨x, p⟩, q⟩, r⟩ := c
 exact ⟨x, h, s, ⟨h1, h2, d, e, p, q⟩, r⟩
end
def Each {α : Type} (R : α -> As) (ps : List α) : As := stars (ps.map R)
section
variable {α : Type} {R : α -> As} {ps : List α} {H0 h0 H : Hp} {l : List As} {x : α} {j : Nat}
theorem Sl.focus0 (c : Sl H0 h0 H (Each R ps :: l)) (e : ps[j]? = some x) : Sl H0 h0 H (R x :: Each R (ps.eraseIdx j) :: l) := by
 have c1 : Sl H0 h0 H (stars (R x :: (ps.eraseIdx j).map R) :: l) := c.imp0 fun h q => qbb ((qa7 e).map R) q
 exact (Sl.fold0 (k := (ps.eraseIdx j).map R) (l := R x :: l) ((c1.open0).perm (by
  show (R x :: ((ps.eraseIdx j).map R ++ l)).Perm _
  exact List.perm_middle.symm))).perm (.swap _ _ _)
theorem Sl.back0 {y : α} {qs : List α} (c : Sl H0 h0 H (R y :: Each R ps :: l)) (p : qs.Perm (y :: ps)) : Sl H0 h0 H (Each R qs :: l) := by
 have c1 : Sl H0 h0 H (stars [R y, Each R ps] :: l) := Sl.fold0 (k := [R y, Each R ps]) c
 refine c1.imp0 fun h q => qbb (p.map R).symm ?_
 exact qbB q (fun _ x => x) fun _ x => qa5.mp x
theorem Sl.reord0 {qs : List α} (c : Sl H0 h0 H (Each R ps :: l)) (p : ps.Perm qs) : Sl H0 h0 H (Each R qs :: l) := c.imp0 fun h q => qbb (p.map R) q
theorem Sl.join0 {qs : List α} (c : Sl H0 h0 H (Each R ps :: Each R qs :: l)) : Sl H0 h0 H (Each R (ps ++ qs) :: l) := by
 have c1 : Sl H0 h0 H (stars [Each R ps, Each R qs] :: l) := Sl.fold0 (k := [Each R ps, Each R qs]) c
 refine c1.imp0 fun h q => ?_
 unfold Each
 rw [List.map_append]
 exact qbv.mpr (qbB q (fun _ x => x) fun _ x => qa5.mp x)
end
end NM
namespace NM
open PySem PySem.Spec PyProof.Rows L2
section
variable {X : Cx}
theorem qai {x : Str} {i : Int} {pos : Pos} (hg : Gl X x) (hm : ∃ t, X.mg x = some (.int i t)) (hd : (x == ("__debug__" : Str)) = false := by decide) : PE X (.Name x pos) (tC (.int i)) :=
 let ⟨_, h⟩ := hm; qha hg h ⟨_, rfl⟩ hd
theorem qg4 : MtR X "int.bit_length" (fun x xs H Q => ∃ i : Int, x = .int i /\ xs = [] /\ Q (.int (Builtin.Int.intBits i)) H) := by
 intro pins s σ H x xs v us Q I rx rxs h
 obtain ⟨i, rfl, rfl, q⟩ := h
 obtain ⟨t, rfl⟩ := rx
 cases rxs
 exact call_int_bit_length ⟨.int _, H, I.tok _, ⟨_, rfl⟩, q⟩
theorem qhE {P : Program} {w : World} {kvs : List (Key × V)} {vs : List (Key × Value)} (rel : KV kvs vs) : ∀ {l : List Value}, l.length = kvs.length -> (∀ (j : Nat) (v : Value), l[j]? = some v -> ∃ k x, vs[j]? = some (k, x) /\ (mixKind P w).is k v = true) -> Vals (kvs.map fun p => kV p.1) l := by
 induction rel with
 | nil =>
  intro l hl _
  cases l with
  | nil => exact .nil
  | cons a l => cases hl
 | @cons p q ps qs hq t ih =>
  intro l hl hv
  cases l with
  | nil => cases hl
  | cons v l =>
   obtain ⟨k, x, h1, h2⟩ := hv 0 v rfl
   have h1' : q = (k, x) := by simpa using h1
   refine .cons ?_ (ih (by simpa using hl) fun j u hu => ?_)
   ·show L2.RelV (kV p.1) v
    rw [hq.1, h1']
    rw [qgm] at h2
    rcases qaI h2 with ⟨i, t, e1, e2⟩ | ⟨y, t, e1, e2⟩
    ·have e1 : k = Sum.inl i := e1
     rw [e1, e2]
     exact ⟨t, rfl⟩
    ·have e1 : k = Sum.inr y := e1
     rw [e1, e2]
     exact ⟨t, rfl⟩
   ·obtain ⟨k', x', h3, h4⟩ := hv (j + 1) u (by simpa using hu)
    exact ⟨k', x', by simpa using h3, h4⟩
theorem qdD (hc : X.calm = true) : CallR X (.type "list") (fun xs H Q => ∃ d kvs, xs = [.ref d] /\ H d = some (.dK kvs) /\ ∀ l, H l = none -> Q (.ref l) (upd H l (.lst (kvs.map fun p => kV p.1)))) := by
 intro pins s σ H xs us Q I r h
 obtain ⟨d, kvs, rfl, hd, q⟩ := h
 obtain ⟨u, rfl, rx⟩ := vals1 r
 cases rx
 obtain ⟨hz, hlo, vs, rel, o, es, ep, h1, h2, h3, h4, h5, h6⟩ := qid I.hok hd
 have hlen : vs.length = kvs.length := rel.length.symm
 refine PySem.W.kdl_call (PySem.W.kdl_dict (knd := mixKind X.prog X.w) (kvs := vs) (ep := ep) hlo) (I.ok.hd hc) ⟨o, es, h1, h2, h3, h4, h5, h6⟩ (by rw [hlen]; exact hz) fun h' tk acc c hk hD hacc => ?_
 have hv : Vals (kvs.map fun p => kV p.1) acc.toList := qhE (P := X.prog) (w := X.w) rel (by rw [Array.length_toList, hacc.1, hlen]) fun j v e => hacc.2 j v (by rw [<- Array.getElem?_toList]; exact e)
 refine ⟨.ref s.heap.objs.size, _, I.laid (t' := tk) hk (Nat.le_refl _) (show ObjOk X.prog X.w _ h' _ (.lst _) from ⟨by rw [List.length_map]; exact hz, acc.toList, c, hv, by simpa using hD⟩), rfl, q _ (I.hok.fresh (Nat.le_refl _))⟩
end
theorem qfr (l : Addr) (items : Array Value) (n : Nat) (dd : Option Addr) (sl : Array (Option Value)) (x : Value) (e : Value -> Bool) (j : Nat) (hj : j < items.size) (hit : e items[j] = true) (k : Nat) (hz : items.size <= sizeLine) :
  ∀ i : Nat, j - i = k -> i <= j -> (∀ m (hm : m < items.size), i <= m -> m < j -> e items[m] = false) -> Meets (Builtin.«list.remove.loop» ⟨[.ref l, x, rawInt i], []⟩)
   (fun A R s => s.heap.get? l = some { cls := .type "list", dict := dd, data := .seq items n, slots := sl } /\ (∀ y, y ∈ items -> SeqAt.EqAt A.in1 s y x (e y)) /\ R (.ok (.ret .none)) { s with heap := s.heap.update l (Obj.mapSeq fun xs => xs.eraseIdxIfInBounds j) }) := by
 induction k with
 | zero =>
  intro i hk hij hno prog w A R s h
  obtain ⟨hp, g, d, tk, os⟩ := s
  obtain ⟨hl, he, h⟩ := h
  obtain rfl : i = j := by omega
  wp_walk using wpAny_loadPart' hl
  rw [show items[((i : Nat) : Int).toNat]? = some items[i] by simp [hj]]
  refine wpAny_bind (he _ (Array.getElem_mem hj) prog w _ _ ?_)
  rw [hit]
  have hz' : (items.eraseIdxIfInBounds i).size <= sizeLine + 1 := Nat.le_trans (PySem.MeetsSeq.size_erased items _) (Nat.le_succ_of_le hz)
  wp_walk using (wpAny_updateSeq hl rfl (hz := hz) (_hz' := hz')), wpAny_loadPart' hl
  simpa using h
 | succ k ih =>
  intro i hk hij hno prog w A R s h
  obtain ⟨hp, g, d, tk, os⟩ := s
  obtain ⟨hl, he, h⟩ := h
  have hlt : i < items.size := by omega
  wp_walk using wpAny_loadPart' hl
  rw [show items[((i : Nat) : Int).toNat]? = some items[i] by simp [hlt]]
  refine wpAny_bind (he _ (Array.getElem_mem hlt) prog w _ _ ?_)
  rw [hno i hlt (Nat.le_refl _) (by omega)]
  wp_walk
  rw [show ((i : Int) + 1) = ((i + 1 : Nat) : Int) by push_cast; rfl]
  refine ⟨plainId_quiet PySem.MeetsSeq.plain_remove_loop _, codeAny_builtin PySem.MeetsSeq.entry_remove_loop ?_⟩
  rw [Around.under_plainId PySem.MeetsSeq.plain_remove_loop _]
  exact ih (i + 1) (by omega) (by omega) (fun m hm h1 h2 => hno m hm (by omega) h2) prog w A R _ ⟨hl, he, h⟩
theorem qho (l : Addr) (items : Array Value) (n : Nat) (dd : Option Addr) (sl : Array (Option Value)) (x : Value) (e : Value -> Bool) (j : Nat) (hj : j < items.size) (hit : e items[j] = true)
  (hno : ∀ m (hm : m < items.size), m < j -> e items[m] = false) (hz : items.size <= sizeLine) : Meets (Builtin.«list.remove» ⟨[.ref l, x], []⟩)
   (fun A R s => s.heap.get? l = some { cls := .type "list", dict := dd, data := .seq items n, slots := sl } /\ (∀ y, y ∈ items -> SeqAt.EqAt A.in1 s y x (e y)) /\ R (.ok (.ret .none)) { s with heap := s.heap.update l (Obj.mapSeq fun xs => xs.eraseIdxIfInBounds j) }) := by
 intro prog w A R s h
 obtain ⟨hp, g, d, tk, os⟩ := s
 obtain ⟨hl, he, h⟩ := h
 wp_walk using wpAny_loadPart' hl
 refine ⟨plainId_quiet PySem.MeetsSeq.plain_remove_loop _, codeAny_builtin PySem.MeetsSeq.entry_remove_loop ?_⟩
 rw [Around.under_plainId PySem.MeetsSeq.plain_remove_loop _]
 exact qfr l items n dd sl x e j hj hit _ hz 0 rfl (Nat.zero_le _) (fun m hm _ h2 => hno m hm h2) prog w A R _ ⟨hl, he, h⟩
def strKeysB (es : List DictEntry) : Bool := es.all fun e => match e.key with | .str _ _ => true | _ => false
def CmpK (K : PySem.W.Frag) (C : Addr) : Prop := ∃ nm q N bs hdct sn sub ab col dd k0 k1 k2 k3 k5 newId oc od es n sl,
 K.lookup C = some (excClassObj nm q C N bs [.type "object"] hdct sn sub ab col dd k0 k1 k2 k3 k5 newId) /\ K.lookup N = some ⟨oc, od, .dict es n, sl⟩ /\ strKeysB es.toList = true /\
 PySem.W.nsIn K N "__eq__" = some none /\ PySem.W.nsIn K N "__ne__" = some none
theorem qgS {K : PySem.W.Frag} {N : Addr} {oc : Value} {od : Option Addr} {es : Array DictEntry} {k : Nat} {sl : Array (Option Value)} {n : Str} (q : K.lookup N = some ⟨oc, od, .dict es k, sl⟩) (e : PySem.W.nsIn K N n = some none) : nsFind es n = none := by
 unfold PySem.W.nsIn at e
 rw [q] at e
 dsimp only at e
 split at e
 ·cases e
 ·rename_i he
  unfold nsFind findBy
  rw [<- Array.find?_toList, he]
  rfl
theorem CmpK.inst {K : PySem.W.Frag} {C x : Addr} {h : Heap} {o : Obj} (c : CmpK K C) (X : K.In h) (hx : h.get? x = some o) (hc : o.cls = .ref C) : h.CmpInst x C [.type "object"] := by
 obtain ⟨nm, q, N, bs, hdct, sn, sub, ab, col, dd, k0, k1, k2, k3, k5, newId, oc, od, es, n, sl, h1, h2, h3, h4, h5⟩ := c
 refine ⟨o, nm, q, N, bs, hdct, sn, sub, ab, col, dd, k0, k1, k2, k3, k5, newId, nsFind es, hx, hc, X _ _ h1, ⟨_, es, n, X _ _ h2, rfl, fun e he => ?_, fun _ => rfl⟩, qgS h2 h4, qgS h2 h5⟩
 have := List.all_eq_true.mp h3 e (by simpa using he)
 cases e' : e.key <;> rw [e'] at this <;> first | exact ⟨_, _, rfl⟩ | cases this
theorem qgZ {K : PySem.W.Frag} {C D x y dx dy : Addr} {A : Around} {s : Shared} (c : CmpK K C) (d : CmpK K D) (X : K.In s.heap) (hu : A.units < cLine) (hx : s.heap.get? x = some (PySem.W.instObj C dx)) (hy : s.heap.get? y = some (PySem.W.instObj D dy)) :
  SeqAt.EqAt A s (.ref x) (.ref y) (decide (x = y)) := by
 by_cases e : x = y
 ·subst e
  rw [decide_eq_true rfl]
  exact SeqAt.EqAt.same _
 ·rw [decide_eq_false e]
  refine SeqAt.EqAt.of_refs e fun prog w E Q hq => ?_
  obtain ⟨hp, g, dr, tk, os⟩ := s
  exact richCompare_eq_other PySem.F.cmp_object PySem.F.cmp_object (c.inst X hx rfl) (d.inst X hy rfl) e hu hq
section
variable {X : Cx}
def rRemove (K : PySem.W.Frag) : V -> List V -> Hp -> VK -> Prop := fun x vs H Q => ∃ (l a : Addr) (as : List Addr) (j : Nat), x = .ref l /\ vs = [.ref a] /\ H l = some (.lst (as.map V.ref)) /\ as[j]? = some a /\ (∀ m, m < j -> as[m]? ≠ some a) /\
 (∀ b, b ∈ as -> ∃ C dx fs, H b = some (.ins C dx fs) /\ CmpK K C) /\ Q .non (upd H l (.lst ((as.eraseIdx j).map V.ref)))
def isRefTo (a : Addr) : Value -> Bool
 | .ref b => decide (b = a)
 | _ => false
theorem qdl : ∀ {as : List Addr} {us : List Value}, Vals (as.map V.ref) us -> us = as.map Value.ref
 | [], _, .nil => rfl
 | _ :: _, _, .cons r t => by rw [qdl t, show _ = Value.ref _ from r]; rfl
theorem qbE {α β : Type} (f : α -> β) : ∀ (l : List α) (i : Nat), (l.eraseIdx i).map f = (l.map f).eraseIdx i
 | [], _ => rfl
 | _ :: _, 0 => rfl
 | a :: l, i + 1 => by
  show f a :: (l.eraseIdx i).map f = f a :: (l.map f).eraseIdx i
  rw [qbE f l i]
theorem qdy : ∀ (as : List Addr), Vals (as.map V.ref) (as.map Value.ref)
 | [] => .nil
 | _ :: l => .cons rfl (qdy l)
theorem qc8 (hu : X.A.units + 1 < cLine) : MtM X "list.remove" (rRemove X.K) := by
 intro pins s σ H x vs v us Q I rx rxs h
 obtain ⟨l, a, as, j, rfl, rfl, hl, hj, hno, hob, q⟩ := h
 cases rx
 obtain ⟨u, rfl, ru⟩ := vals1 rxs
 cases ru
 obtain ⟨hz, its, n, hv, hlen, hh⟩ := I.lstM hl
 obtain rfl := qdl hv
 have hjl := (List.getElem?_eq_some_iff.mp hj).1
 have hje := (List.getElem?_eq_some_iff.mp hj).2
 rw [List.length_map] at hz
 have hob' : ∀ b, b ∈ as -> ∃ C dx, s.heap.get? b = some (PySem.W.instObj C dx) /\ CmpK X.K C := by
  intro b hb
  obtain ⟨C, dx, fs, e, c⟩ := hob b hb
  obtain ⟨_, _, _, e2, _⟩ := I.hok b _ e
  exact ⟨C, dx, e2, c⟩
 obtain ⟨Ca, da, ha, ca⟩ := hob' a (List.mem_of_getElem? hj)
 refine call_meets PySem.F.slot_list_remove ⟨_, hh, rfl⟩ PySem.F.entry_list_remove (PySem.F.args_list_remove_2 _ _)
  (qho l (as.map Value.ref).toArray n none #[] (.ref a) (isRefTo a) j (by simpa using hjl) (by simp [isRefTo, hje]) (fun m hm hlt => ?_) (by simpa using hz)) ⟨hh, fun y hy => ?_, ?_⟩
 ·have hm' : m < as.length := by simpa using hm
  have := hno m hlt
  rw [List.getElem?_eq_getElem hm'] at this
  simp [isRefTo]
  intro z
  exact this (by rw [z])
 ·obtain ⟨b, hb, rfl⟩ := List.mem_map.mp (by simpa using hy : y ∈ as.map Value.ref)
  obtain ⟨C, dx, e, c⟩ := hob' b hb
  exact qgZ c ca I.kIn hu e ha
 ·refine ⟨.non, _, I.lset (its' := (as.eraseIdx j).map Value.ref) (t' := s.toks) hl hh ?_ (qdy _) ?_, rfl, q⟩
  ·show (as.map Value.ref).toArray.eraseIdxIfInBounds j = _
   rw [List.eraseIdxIfInBounds_toArray, qbE]
  ·rw [List.length_map]
   have := qb1 as j
   omega
end
end NM
namespace NM
open PySem PySem.Spec PySem.W PyProof.Rows L2
section
variable {prog : Program} {w : World} {A : Around} {s : Shared} {R : Result -> Shared -> Prop}
theorem qfN {f c' : Addr} {name qual : Str} {params : Arguments} {body : Expr} {scope : Scope} {cl : List (Str × Addr)} {pm ctv : Value} {args : Args} {binds : List (Str × Value)}
  (ho : s.heap.get? f = some (kla_obj name qual params body scope cl pm c' ctv)) (hcd : s.heap.CodeRec (.ref c') qual) (hlim : s.heap.NoLimit) (hroom : A.depth < recursionLimit)
  (hbind : bindArgs (kla_fn name qual params body scope cl pm (.ref c') ctv) args = pure binds) (hloc : ∀ y ∈ binds, scope.names.lookup y.1 = some .local)
  (h : ∀ h₁ : Heap, h₁.Ns s.heap.objs.size (fun y => binds.reverse.lookup y) -> (∀ b o, s.heap.get? b = some o -> h₁.get? b = some o) ->
   wpAny (model prog w) (A.deeper (envX qual scope s.heap.objs.size f (.ref c') cl)) (eval body (envX qual scope s.heap.objs.size f (.ref c') cl)) (fun v s' => R (.ok (.ret v)) s') (fun _ _ => False) { s with heap := h₁, toks := s.toks + binds.length })
  (hco : scope.isCoroutine = false) (hgen : scope.isGenerator = false) (hk : scope.kind = .function) (hcell : ∀ x ∈ scope.names, x.2 ≠ .cell) : codeAny (model prog w) A (.call (.ref f) args) R s := by
 refine kla_callFunE hroom ho rfl hco hgen rfl hcd ?_
 rw [hbind]
 refine wpAny_pure (wpAny_newFunctionEnv hcell hloc (fun h₁ hns hsb => ?_) hk)
 have hk₁ : ∀ b o, s.heap.get? b = some o -> h₁.get? b = some o := fun b o e => hsb.extBut b o (Nat.ne_of_lt (Heap.lt_size e)) (Heap.get?_push_of_some _ e)
 refine ⟨hlim.keeps hk₁, ?_⟩
 show codeAny _ _ (.expr body (envX qual scope s.heap.objs.size f (.ref c') cl)) _ _
 exact kla_codeExpr (wpAny_mono (h h₁ hns hk₁) (fun _ _ x => x) fun _ _ x => x.elim)
end
section
variable {prog : Program} {w : World} {A : Around} {E : Value -> Shared -> Prop} {s : Shared} {K : Frag} {env : Env} {a dx C b dy D c : Addr} {mA mB m : Str -> Option Value} {x y fld fld2 : Str} {n t : Int} {tn tt : Tok} {p1 p2 p3 p4 p5 : Pos}
def IntEnd (s : Shared) (k : Int) (v : Value) (s' : Shared) : Prop := ∃ tk t', s' = { s with toks := tk } /\ v = Value.int k t'
theorem qgD {Q : Value -> Shared -> Prop} {v : Value} (hk : env.scope.kind = .function) (hx : env.kindOf x = some .local) (hn : s.heap.Ns env.locals m) (hm : m x = some (.ref a)) (X : K.In s.heap) (O : ObjM s.heap a dx C mA) (cl : Cls K C) (na : NoAttr K C fld)
  (hv : mA fld = some v) (hh : handedIn v = true) (h : Q v { s with toks := s.toks + 1 }) (hb : attributeBase (.Name x p1) fld env (eval (.Name x p1) env) = eval (.Name x p1) env) (hd : (x == ("__debug__" : Str)) = false) :
  wpAny (model prog w) A (eval (.Attribute (.Name x p1) fld p2) env) Q E s :=
 qfz hb (wpAny_Name (wpAny_loadName_local hk hx hn hm (qfh X O (cl.get fld) cl.hd na hv hh h)) hd)
theorem qis (hk : env.scope.kind = .function) (hx : env.kindOf x = some .local) (hn : s.heap.Ns env.locals m) (hm : m x = some (.ref a)) (X : K.In s.heap) (O : ObjM s.heap a dx C mA) (cl : Cls K C) (na : NoAttr K C fld) (hv : mA fld = some (.int n tn))
  (hy : env.kindOf y = some .free) (hc : env.cells.lookup y = some c) (hcell : s.heap.IsCell c (some (.int t tt))) (hb : attributeBase (.Name x p1) fld env (eval (.Name x p1) env) = eval (.Name x p1) env) (hd : (x == ("__debug__" : Str)) = false) (hd2 : (y == ("__debug__" : Str)) = false) (hcd : (y == ("__classdict__" : Str)) = false) :
  wpAny (model prog w) A (eval (.BinOp (.Attribute (.Name x p1) fld p2) .BitXor (.Name y p3) p4) env) (IntEnd s (Builtin.bitXor n t)) E s := by
 refine wpAny_BinOp (qgD hk hx hn hm X O cl na hv rfl ?_ hb hd)
 refine wpAny_Name (wpAny_loadName_free hk hy hc hcell ?_ hcd) hd2
 exact xor_int ⟨_, _, rfl, rfl⟩
theorem qh8 (hk : env.scope.kind = .function) (hx : env.kindOf x = some .local) (hn : s.heap.Ns env.locals m) (hm : m x = some (.ref a)) (X : K.In s.heap) (O : ObjM s.heap a dx C mA) (cl : Cls K C) (na : NoAttr K C fld) (hv : mA fld = some (.int n tn))
  (hy : env.kindOf y = some .free) (hc : env.cells.lookup y = some c) (hcell : s.heap.IsCell c (some (.ref b))) (O2 : ObjM s.heap b dy D mB) (cl2 : Cls K D) (na2 : NoAttr K D fld2) (hv2 : mB fld2 = some (.int t tt))
  (hb : attributeBase (.Name x p1) fld env (eval (.Name x p1) env) = eval (.Name x p1) env) (hb2 : attributeBase (.Name y p3) fld2 env (eval (.Name y p3) env) = eval (.Name y p3) env) (hd : (x == ("__debug__" : Str)) = false) (hd2 : (y == ("__debug__" : Str)) = false) (hcd : (y == ("__classdict__" : Str)) = false) :
  wpAny (model prog w) A (eval (.BinOp (.Attribute (.Name x p1) fld p2) .BitXor (.Attribute (.Name y p3) fld2 p5) p4) env) (IntEnd s (Builtin.bitXor n t)) E s := by
 refine wpAny_BinOp (qgD hk hx hn hm X O cl na hv rfl ?_ hb hd)
 refine qfz hb2 (wpAny_Name (wpAny_loadName_free hk hy hc hcell ?_ hcd) hd2)
 refine qfh (s := { s with toks := s.toks + 1 }) X O2 (cl2.get fld2) cl2.hd na2 hv2 rfl ?_
 exact xor_int ⟨_, _, rfl, rfl⟩
end
def Tb (P : Addr) (pos : Pos) (qual : Str) (H : Hp) : Prop := ∃ ps, H P = some (.tbl ps) /\ TriplesOk ps.toList /\
 (codeAmong pos ps.toList = none \/ ∃ c', codeAmong pos ps.toList = some (.ref c') /\ H c' = some (.ext fun h => h.CodeRec (.ref c') qual))
def TbStep (P : Addr) (pos : Pos) (qual : Str) (H H' : Hp) : Prop := H' = H \/ ∃ ps c', H P = some (.tbl ps) /\ H c' = none /\ codeAmong pos ps.toList = none /\ TriplesOk ps.toList /\
 H' = upd (upd H P (.tbl (ps ++ #[rawInt pos.line, rawInt pos.col, .ref c']))) c' (.ext fun h => h.CodeRec (.ref c') qual)
theorem qcg {c' : Addr} {qual : Str} {h1 h2 : Heap} (x : h1.CodeRec (.ref c') qual) (k : ∀ o, h1.get? c' = some o -> h2.get? c' = some o) : h2.CodeRec (.ref c') qual := by
 obtain ⟨c, o, vs, t, e, g, r⟩ := x
 cases e
 exact ⟨c', o, vs, t, rfl, k o g, r⟩
theorem qcW : ∀ {l : List Value} {i j : Int} {t u : Tok} {v : Value}, TriplesOk l -> TriplesOk (l ++ [.int i t, .int j u, v])
 | [], _, _, _, _, _, _ => trivial
 | .int _ _ :: .int _ _ :: _ :: rest, _, _, _, _, _, h => qcW (l := rest) h
structure LamAt (X : Cx) (c P : Addr) : Prop where
 code : X.env.code = .ref c
 hd : CodeHd X.base c P \/ ∃ h, CodeHd h c P /\ ∀ b o, h.get? b = some o -> X.base.get? b = some o
 bi : ∃ bm ob, X.mg "__builtins__" = some (.ref bm) /\ bm ≠ builtinsNs /\ bm ≠ mainGlobals /\ X.base.get? bm = some ob /\ ob.cls = .type "module" /\ ob.dict = some builtinsNs /\ ob.data = .plain
section
variable {X : Cx} {pins : List (Addr × Obj)} {σ : L2.St} {H : Hp} {s : Shared}
theorem LamAt.chd {c P : Addr} (L : LamAt X c P) (I : L2.Inv X pins σ H s) : CodeHd s.heap c P := by
 rcases L.hd with h | ⟨h, x, k⟩
 ·exact h.keeps I.bk
 ·exact (x.keeps k).keeps I.bk
theorem grown {P c' : Addr} {ps more : Array Value} {h' : Heap} {fo : Obj} {t' : Nat} {qual : Str} (I : L2.Inv X pins σ H s) (hP : H P = some (.tbl ps)) (hx : Heap.ExtBut P s.heap h') (hc : s.heap.objs.size <= c') (hlt : c' < h'.objs.size) (hrec : h'.CodeRec (.ref c') qual)
  (htb : h'.get? P = some (tabObj (ps ++ more))) : L2.Inv X pins σ (upd (upd H P (.tbl (ps ++ more))) c' (.ext fun h => h.CodeRec (.ref c') qual)) { s with heap := h'.push fo, toks := t' } := by
 have hcn : H c' = none := I.hok.fresh hc
 have nePc : P ≠ c' := qat hP hcn
 have k : ∀ b u, b ≠ P -> s.heap.get? b = some u -> (h'.push fo).get? b = some u := fun b u hb e => Heap.get?_push_of_some _ (hx b u hb e)
 have tb : (h'.push fo).get? P = some (tabObj (ps ++ more)) := Heap.get?_push_of_some _ htb
 have neP : ∀ b, H b = none -> b ≠ P := fun b n z => by rw [z, hP] at n; cases n
 have neC : ∀ b u, s.heap.get? b = some u -> b ≠ c' := fun b u e z => by subst z; exact absurd (Heap.lt_size e) (Nat.not_lt.mpr hc)
 refine I.un ⟨fun b u q n _ _ => k b u (neP b n) q, fun b u q n _ _ => ⟨u.slots, k b u (neP b n) q⟩, fun b u q n _ => ?_, fun b u q _ => ?_, fun b xs q => ?_, fun b o u q => ?_, fun b qs q => ?_⟩ fun b o e => ?_
 ·rw [qaq (neC b u q), qaq (neP b n)]; exact n
 ·by_cases z : b = P
  ·subst z; exact ⟨_, tb⟩
  ·exact ⟨u, k b u z q⟩
 ·rw [qaq (qat q hcn), qaq (qfd q hP (by intro z; cases z))]; exact q
 ·rw [qaq (qat q hcn), qaq (qfd q hP (by intro z; cases z))]; exact q
 ·by_cases z : b = P
  ·subst z
   rw [hP] at q; cases q
   exact ⟨more, by rw [qaq nePc, qaf]⟩
  ·exact ⟨#[], by rw [qaq (qat q hcn), qaq z, q]; simp⟩
 ·by_cases z : b = c'
  ·subst z
   rw [qaf] at e; cases e
   obtain ⟨c, oc, vs, t, e2, g, r⟩ := hrec
   cases e2
   exact ⟨⟨b, oc, vs, t, rfl, Heap.get?_push_of_some _ g, r⟩, ⟨oc, Heap.get?_push_of_some _ g⟩, fun h1 h2 x kk => qcg x kk⟩
  ·rw [qaq z] at e
   by_cases y : b = P
   ·subst y
    rw [qaf] at e; cases e
    exact tb
   ·rw [qaq y] at e
    refine (I.hok b o e).stay (fun d v hd q => k d v ?_ q) (fun d q => ?_) fun d xs q => ?_
    ·rcases hd with rfl | hd
     ·exact y
     ·exact qfd hd hP (by intro z; cases z)
    ·rw [qaq (qat q hcn), qaq (qfd q hP (by intro z; cases z))]; exact q
    ·rw [qaq (qat q hcn), qaq (qfd q hP (by intro z; cases z))]; exact q
theorem qh4 {A : Around} {E : Value -> Shared -> Prop} {Q : Value -> Shared -> Prop} {c P : Addr} {params : Arguments} {body : Expr} {scope : Scope} {lpos : Pos} {clos : List (Str × Addr)} (I : L2.Inv X pins σ H s) (L : LamAt X c P) (tb : Tb P lpos (X.env.qual ++ "<lambda>") H)
  (hcl : closureFor scope X.env = pure clos) (hdef : defaultsOf params X.env = ([], []))
  (h : ∀ (f c' : Addr) (ctv pm : Value) (h' : Heap) (tk : Nat) (H' : Hp), L2.Inv X pins σ H' { s with heap := h', toks := tk } -> TbStep P lpos (X.env.qual ++ "<lambda>") H H' -> H' f = none ->
   h'.get? f = some (kla_obj "<lambda>" (X.env.qual ++ "<lambda>") params body scope clos pm c' ctv) -> h'.CodeRec (.ref c') (X.env.qual ++ "<lambda>") -> Q (.ref f) { s with heap := h', toks := tk }) :
  wpAny (model X.prog X.w) A (eval (.Lambda params body scope lpos) X.env) Q E s := by
 obtain ⟨ps, hP, ht, hc⟩ := tb
 have hPs : s.heap.get? P = some (tabObj ps) := I.hok P _ hP
 have hg : s.heap.Ns mainGlobals X.mg := I.mod.glob.keeps I.bk
 have hgP : mainGlobals ≠ P := fun q => by
  obtain ⟨o, es, ep, e, hd, _⟩ := hg
  rw [q, hPs] at e; cases e; cases hd
 obtain ⟨bm, ob, b1, b2, b3, b4, b5, b6, b7⟩ := L.bi
 have b4' := I.bk _ _ b4
 have hbP : bm ≠ P := fun q => by
  rw [q, hPs] at b4'; cases b4'; cases b5
 have hB : s.heap.BuiltinsAt X.mg P := ⟨bm, ob, b1, b2, b3, hbP, b4', b5, b6, b7⟩
 refine kla_eval hdef ?_
 rcases hc with hc | ⟨c', hc, hH⟩
 ·refine kla_makeFunction (mg := X.mg) hcl I.ok.glob hg L.code (L.chd I) hPs ht hc hgP hB fun c' ctv h' tk hx hge hlt hrec htb => ?_
  have J := grown (fo := kla_obj "<lambda>" (X.env.qual ++ "<lambda>") params body scope clos ((X.mg "__name__").getD .none) c' ctv) (t' := tk) I hP hx hge hlt hrec htb
  refine h _ c' ctv _ _ tk _ J (.inr ⟨ps, c', hP, I.hok.fresh hge, hc, ht, rfl⟩) ?_ (Heap.get?_push_size _ rfl) (hrec.push _)
  have sz : s.heap.objs.size <= h'.objs.size := Nat.le_trans hge (Nat.le_of_lt hlt)
  have n1 : h'.objs.size ≠ c' := Nat.ne_of_gt hlt
  have n2 : h'.objs.size ≠ P := Nat.ne_of_gt (Heap.lt_size htb)
  rw [qaq n1, qaq n2]
  exact I.hok.fresh sz
 ·obtain ⟨hrec, _, _⟩ := I.hok c' _ hH
  refine kla_makeFunctionHit (mg := X.mg) hcl I.ok.glob hg L.code (L.chd I) hPs ht hc hB fun ctv h' tk hk hsz => ?_
  have kk : ∀ b o, s.heap.get? b = some o -> (h'.push (kla_obj "<lambda>" (X.env.qual ++ "<lambda>") params body scope clos ((X.mg "__name__").getD .none) c' ctv)).get? b = some o := fun b o e => Heap.get?_push_of_some _ (hk b o e)
  exact h _ c' ctv _ _ tk H (I.kept kk) (.inl rfl) (I.hok.fresh hsz) (Heap.get?_push_size _ rfl) (hrec.keeps kk)
end
section
variable {X : Cx} {pins : List (Addr × Obj)} {σ : L2.St} {H : Hp} {s : Shared}
theorem qgO {H' : Hp} {h' : Heap} {tk : Nat} {m : Str -> Option Value} (I : L2.Inv X pins σ H s) (hm : s.heap.Ns X.env.locals m) (hm' : h'.Ns X.env.locals m) (k : ∀ b o, b ≠ X.env.locals -> s.heap.get? b = some o -> h'.get? b = some o)
  (free : ∀ b o, s.heap.get? b = some o -> H b = none -> H' b = none) (old : ∀ b o, H b = some o -> H' b = some o) (hok : HOk X.prog X.w H' h') : L2.Inv X pins σ H' { s with heap := h', toks := tk } := by
 refine I.step (g' := s.gens) (d' := s.drawn) (ch := []) (fun _ z => nomatch z) (fun b o hL _ _ e _ => k b o hL e) (fun b o hL _ _ e _ => ⟨o.slots, k b o hL e⟩) (fun b o _ e n => free b o e n) (fun b o _ e => ?_) (fun b xs q => old b _ q) (fun b o u q => old b _ q) (fun b ps q => ⟨#[], by rw [old b _ q]; simp⟩) (fun m' hm2 => ?_) hok I.bare
 ·by_cases z : b = X.env.locals
  ·obtain ⟨o', _, _, e', _⟩ := hm'
   exact ⟨o', by rw [z]; exact e'⟩
  ·exact ⟨o, k b o z e⟩
 ·have : m' = m := funext fun y => hm2.agree hm y
  rw [this]; exact hm'
theorem qgV {h' : Heap} (I : L2.Inv X pins σ H s) (k : ∀ b o, b ≠ X.env.locals -> s.heap.get? b = some o -> h'.get? b = some o) : HOk X.prog X.w H h' := fun b o e =>
 (I.hok b o e).stay (fun c u hc q => k c u (by
  rintro rfl
  rcases hc with rfl | hc
  ·rw [I.free] at e; cases e
  ·rw [I.free] at hc; cases hc) q) (fun _ q => q) fun _ _ q => q
end
theorem TbStep.old {P : Addr} {pos : Pos} {qual : Str} {H H' : Hp} (st : TbStep P pos qual H H') {b : Addr} {o : HO} (e : H b = some o) (n : ∀ ps, o ≠ .tbl ps) : H' b = some o := by
 rcases st with rfl | ⟨ps, c', h1, h2, h3, h4, rfl⟩
 ·exact e
 ·rw [qaq (qat e h2), qaq (qfd e h1 (n ps))]; exact e
theorem TbStep.seq {K : Frag} {P a : Addr} {pos : Pos} {qual : Str} {H H' : Hp} {xs : List V} (st : TbStep P pos qual H H') (h : SqL K H a xs) : SqL K H' a xs := by
 rcases h with (h | ⟨o, h⟩) | h
 ·exact .inl (.inl (st.old h (by intro ps z; cases z)))
 ·exact .inl (.inr ⟨o, st.old h (by intro ps z; cases z)⟩)
 ·exact .inr h
theorem obj_is {P : Program} {w : World} {H : Hp} {h : Heap} {a : Addr} {o : HO} (x : ObjOk P w H h a o) : ∃ ob, h.get? a = some ob := by
 cases o with
 | lst xs => obtain ⟨_, _, _, _, e⟩ := x; exact ⟨_, e⟩
 | tup xs => obtain ⟨_, _, _, ob, e, _⟩ := x; exact ⟨_, e⟩
 | dK kvs => obtain ⟨_, _, _, _, o, _, _, e, _⟩ := x; exact ⟨_, e⟩
 | dT kvs => obtain ⟨_, _, _, _, o, _, _, e, _⟩ := x; exact ⟨_, e⟩
 | set S n => obtain ⟨o, _, _, _, e, _⟩ := x; exact ⟨_, e⟩
 | ins C dx fs => obtain ⟨_, _, _, e, _⟩ := x; exact ⟨_, e⟩
 | own y => exact x
 | xd fs => obtain ⟨_, ⟨_, _, _, e, _⟩, _⟩ := x; exact ⟨_, e⟩
 | rng lo hi => obtain ⟨_, _, _, e⟩ := x; exact ⟨_, e⟩
 | frz ob u => obtain ⟨e, _⟩ := x; exact ⟨_, e⟩
 | tbl ps => exact ⟨_, (show h.get? a = some _ from x)⟩
 | met f y => exact ⟨_, (show h.get? a = some _ from x)⟩
 | ext φ => obtain ⟨_, ⟨_, e⟩, _⟩ := x; exact ⟨_, e⟩
def KeyEnd (s : Shared) (k : Int) (v : Value) (s' : Shared) : Prop := ∃ h' tk t', s' = { s with heap := h', toks := tk } /\ v = Value.int k t' /\ ∀ b o, s.heap.get? b = some o -> h'.get? b = some o
def SortR (K : Frag) (P : Addr) (pos : Pos) (qual : Str) (KeyP : L2.St -> Hp -> Addr × Int -> Prop) (σ : L2.St) (Q : VK) (vs : List V) (H1 : Hp) : Prop := ∃ (a : Addr) (l : List (Addr × Int)), vs = [.ref a] /\ SqL K H1 a (l.map fun q => V.ref q.1) /\ l.length <= sizeLine /\
 (∀ q ∈ l, KeyP σ H1 q) /\ Tb P pos qual H1 /\ ∀ H2, TbStep P pos qual H1 H2 -> ∀ (l' : List (Addr × Int)) (p : Addr), l'.Perm l -> l'.Pairwise (fun q r => q.2 <= r.2) -> H2 p = none -> Q (.ref p) (upd H2 p (.lst (l'.map fun q => V.ref q.1)))
def tSort (K : Frag) (P : Addr) (pos : Pos) (qual : Str) (KeyP : L2.St -> Hp -> Addr × Int -> Prop) (te : TE) : TE := fun σ H Q => tCons te tNil σ H (SortR K P pos qual KeyP σ Q)
theorem qf6 {α β γ : Type} (f : α -> β) (g : α -> γ) : ∀ l : List α, (l.map f).zip (l.map g) = l.map fun a => (f a, g a)
 | [] => rfl
 | a :: l => by rw [List.map_cons, List.map_cons, List.map_cons, List.zip_cons_cons, qf6 f g l]
theorem qeT {X : Cx} {e : Expr} {te : TE} {c P : Addr} {params : Arguments} {body : Expr} {scope : Scope} {lpos pos p kpos : Pos} {clos : List (Str × Addr)} {KeyP : L2.St -> Hp -> Addr × Int -> Prop} (he : PE X e te) (L : LamAt X c P) (hg : Gl X "sorted") (hm : X.mg "sorted" = none)
  (hcl : closureFor scope X.env = pure clos) (hdef : defaultsOf params X.env = ([], []))
  (hst : ∀ σ H H' q, TbStep P lpos (X.env.qual ++ "<lambda>") H H' -> KeyP σ H q -> KeyP σ H' q)
  (turn : ∀ (pins : List (Addr × Obj)) (s : Shared) (σ : L2.St) (H : Hp) (f c' : Addr) (ctv pm : Value) (q : Addr × Int), L2.Inv X pins σ H s -> s.heap.get? f = some (kla_obj "<lambda>" (X.env.qual ++ "<lambda>") params body scope clos pm c' ctv) -> s.heap.CodeRec (.ref c') (X.env.qual ++ "<lambda>") -> KeyP σ H q ->
   wpAny (model X.prog X.w) X.A.in1.in1 (call (.ref f) [.ref q.1]) (KeyEnd s q.2) (fun _ _ => False) s)
  (hse : starEach [e] X.env = (false, eval e X.env) :: starEach [] X.env := by rfl) :
  PE X (.Call (.Name "sorted" p) [e] [⟨some "key", .Lambda params body scope lpos, kpos⟩] pos) (tSort X.K P lpos (X.env.qual ++ "<lambda>") KeyP te) := by
 intro pins s σ H Q I h
 refine wpAny_Call_Name_kw (qfJ I hg hm rfl ?_ (by decide) (by decide))
 refine PyProof.Rows.callWith_kw (e := e) (rest := []) (thn (qaa he qad hse pos pins s σ H _ I h) fun us s1 ⟨vs, H1, I1, r1, q1⟩ => ?_) (by rw [hse]; rfl) (by rw [hse]; rfl)
 obtain ⟨a, l, rfl, hS, hz, hK, tb, q1⟩ := q1
 obtain ⟨u, rfl, ru⟩ := vals1 r1
 cases ru
 show wpAny _ _ (evalAll [do let v <- eval (.Lambda params body scope lpos) X.env; standAt pos; pure v]) _ _ s1
 refine wpAny_evalAll_cons (wpAny_bind (qh4 I1 L tb hcl hdef fun f c' ctv pm h2 tk2 H2 I2 st hf2 hfo hcr => wpAny_bind (wpAny_standAt (wpAny_pure (wpAny_evalAll_nil ?_)))))
 show wpAny _ _ (call (.builtin "sorted") [.ref a] [(Str.ofString "key", .ref f)]) _ _ _
 generalize hs2 : ({ s1 with heap := h2, toks := tk2 } : Shared) = s2 at I2
 have hfo : s2.heap.get? f = some (kla_obj "<lambda>" (X.env.qual ++ "<lambda>") params body scope clos pm c' ctv) := by rw [<- hs2]; exact hfo
 have hcr : s2.heap.CodeRec (.ref c') (X.env.qual ++ "<lambda>") := by rw [<- hs2]; exact hcr
 obtain ⟨m, hn, _⟩ := id I2.loc
 obtain ⟨its, rv, hl, _⟩ := I2.list (st.seq hS)
 have eits : its = l.map fun q => Value.ref q.1 := by
  have := qdl (as := l.map (·.1)) (us := its) (by rw [List.map_map]; exact rv)
  rw [this, List.map_map]; rfl
 subst eits
 have all : ∀ b o, b ≠ X.env.locals -> s2.heap.get? b = some o -> (b, o) ∈ Att.ledger s2.heap X.env.locals X.env.locals := fun b o hb e => Att.mem_ledger.mpr ⟨hb, hb, e⟩
 have N0 : News (Att.noObjs s2.heap) X.env.locals s2.heap (Att.ledger s2.heap X.env.locals X.env.locals) := fun ⟨b, o⟩ hb => by
  obtain ⟨n1, _, e⟩ := Att.mem_ledger.mp hb
  exact ⟨e, n1, Att.noObjs_get _ _⟩
 have hfL : f ≠ X.env.locals := fun z => by
  obtain ⟨o, es, ep, e, hd, _⟩ := hn
  rw [<- z, hfo] at e; cases e; cases hd
 refine PyProof.Rows.ksk_sortedAny (kz := l.map (·.2)) (b := false) (f := .ref f) (Att.fr_all hn) N0 hl.isList (by rw [List.length_map, List.length_map]) (by rw [List.length_map]; exact hz) (PyProof.Rows.ksk_s1 _ _) (fun x => PyProof.Rows.ksk_l1 _ _) (fun x => PyProof.Rows.ksk_t1 _ _)
  (fun i v k hv hk h3 tk3 own F3 N3 => ?_) fun D h3 tk3 out cc F3 N3 hlt ko => ?_
 ·
  have k3 : ∀ b o, b ≠ X.env.locals -> s2.heap.get? b = some o -> h3.get? b = some o := fun b o hb e => (N3 (b, o) (List.mem_append_left _ (all b o hb e))).1
  have I3 : L2.Inv X pins σ H2 { s2 with heap := h3, toks := tk3 } := qgO I2 hn F3.ns k3 (fun _ _ _ n => n) (fun _ _ e => e) (qgV I2 k3)
  rw [List.getElem?_map] at hv hk
  cases e : l[i]? with
  | none => rw [e] at hv; cases hv
  | some q =>
   rw [e] at hv hk
   cases hv
   cases hk
   have hcL : c' ≠ X.env.locals := fun z => by
    obtain ⟨o, es, ep, e, hd, _⟩ := hn
    obtain ⟨c2, o2, vs2, t2, ec, g2, d2, _⟩ := hcr
    cases ec
    rw [z, e] at g2; cases g2; rw [hd] at d2; cases d2
   refine wpAny_mono (turn pins _ σ H2 f c' ctv pm q I3 (k3 f _ hfL hfo) (qcg hcr fun o e => k3 c' o hcL e) (hst σ H1 H2 q st (hK q (List.mem_of_getElem? e)))) (fun v s' hq => ?_) fun _ _ x => x
   obtain ⟨h4, tk4, t', rfl, rfl, k4⟩ := hq
   exact ⟨h4, tk4, t', rfl, rfl, F3.kept k4, N3.grown k4⟩
 ·
  have hD := N3 (D, seqObj "list" out cc) (.head _)
  have k3 : ∀ b o, b ≠ X.env.locals -> s2.heap.get? b = some o -> h3.get? b = some o := fun b o hb e => (N3 (b, o) (.tail _ (all b o hb e))).1
  obtain ⟨ps, hp, ho, hw⟩ := ko
  rw [qf6] at hp
  obtain ⟨l', hp', rfl⟩ := qd1 (fun q : Addr × Int => (q.2, Value.ref q.1)) hp
  have hDn : s2.heap.get? D = none := by
   cases e : s2.heap.get? D with
   | none => rfl
   | some o => exact absurd (hlt (D, o) (all D o hD.2.1 e)) (Nat.lt_irrefl _)
  have hHD : H2 D = none := by
   cases e : H2 D with
   | none => rfl
   | some o =>
    obtain ⟨oo, eo⟩ := obj_is (I2.hok D o e)
    rw [hDn] at eo; cases eo
  have hw' : l'.Pairwise (fun q r => q.2 <= r.2) := by
   have := List.pairwise_map.mp hw
   refine this.imp fun {q r} z => ?_
   simpa using z
  have hout : out.toList = (l'.map (·.1)).map Value.ref := by
   rw [ho, List.map_map, List.map_map]; rfl
  have hok2 := qgV I2 k3
  refine ⟨.ref D, upd H2 D (.lst (l'.map fun q => V.ref q.1)), ?_, rfl, q1 H2 st l' D hp' hw' hHD⟩
  refine qgO I2 hn F3.ns k3 (fun b o e n => ?_) (fun b o e => ?_) fun b o e => ?_
  ·rw [qaq (fun z => by rw [z, hDn] at e; cases e)]; exact n
  ·rw [qaq (qat e hHD)]; exact e
  ·by_cases z : b = D
   ·subst z
    rw [qaf] at e; cases e
    refine ⟨by rw [List.length_map, hp'.length_eq]; exact hz, (l'.map (·.1)).map Value.ref, cc, ?_, ?_⟩
    ·have := qdy (l'.map (·.1))
     rw [List.map_map] at this
     exact this
    ·rw [<- hout, Array.toArray_toList]; exact hD.1
   ·rw [qaq z] at e
    exact (hok2 b o e).stay (fun _ _ _ q => q) (fun d q => by rw [qaq (qat q hHD)]; exact q) fun d xs q => by rw [qaq (qat q hHD)]; exact q
end NM
namespace NM
open PySem PySem.Spec PyProof.Rows L2
def OutIs (out : List Int) (r : Result) (s' : Shared) : Prop := ∃ p its n, r = .ok (.ret (.ref p)) /\ s'.heap.get? p = some { cls := .type "list", data := .seq its.toArray n } /\ IntsAre its out
theorem qeG : ∀ {ns : List Int} {us : List Value}, Vals (ns.map V.int) us -> IntsAre us ns
 | [], _, .nil => .nil
 | _ :: _, _, .cons ⟨_, rfl⟩ t => .cons _ _ (qeG t)
def BmAt (mg : Str -> Option Value) (h : Heap) : Prop := ∃ bm ob, mg "__builtins__" = some (.ref bm) /\ bm ≠ builtinsNs /\ bm ≠ mainGlobals /\ h.get? bm = some ob /\ ob.cls = .type "module" /\ ob.dict = some builtinsNs /\ ob.data = .plain
def OnlyT (tabs : List Addr) (H : Hp) : Prop := ∀ b, H b = none \/ (∃ o xs, H b = some (.frz o (.lst xs))) \/ (b ∈ tabs /\ H b = some (.tbl #[]))
theorem qgJ {P : Program} {w : World} {K : PySem.W.Frag} {mg mb : Str -> Option Value} {CX : CXT} {k : Nat} {fa a : Addr} {fd : FuncData} {x : Str} {sp : Sp} {s₁ : Shared} {vs : List Value} {ns out : List Int}
  (KX : K.In s₁.heap) (hns : s₁.heap.Ns mainGlobals mg) (hb : s₁.heap.Ns builtinsNs mb) (hbb : ∀ x : Str, x ≠ "__name__" -> mb x = bootBuiltins x) (hlim : s₁.heap.NoLimit) (hg : s₁.gens = #[])
  (ha : s₁.heap.get? a = some { cls := .type "list", data := .seq vs.toArray }) (hi : IntsAre vs ns) (hl : ns.length <= sizeLine) (hr : Room k callerA) {tabs : List Addr} (hT : ∀ P ∈ tabs, s₁.heap.get? P = some (PySem.W.tabObj #[]) /\ isCodeTable s₁.heap P /\ K.lookup P = none) (hbm : BmAt mg s₁.heap)
  (F : ∀ base : Heap, K.In base -> base.Ns mainGlobals mg -> BmAt mg base -> FnOk P w K mg base CX k fa fd [x] sp) (hbind : ∀ (s : Shared) (u : Value), BindsTo s fd ⟨[u], []⟩ [(x, u)])
  (hsp : ∀ H : Hp, (∀ P ∈ tabs, H P = some (.tbl #[])) -> (∀ b xs, H b ≠ some (.lst xs)) -> SqL K H a (ns.map V.int) -> sp [.ref a] H (fun v H' => ∃ p, v = .ref p /\ H' p = some (.lst (out.map V.int))) fun _ _ _ => False)
  (hCX : ∀ H e s', CX [] H s₁ (fun _ _ _ => False) e s' -> False) :
  codeAny (model P w) callerA (.call (.ref fa) ⟨[.ref a], []⟩) (fun r s' => OutIs out r s' /\ OldK s₁.heap s'.heap /\ s'.os = s₁.os /\ AllBare s'.gens) s₁ := by
 have rv := qeV hi
 have lenV := hi.length
 have core : ∀ H : Hp, OnlyT tabs H -> (∀ P ∈ tabs, H P = some (.tbl #[])) -> SqL K H a (ns.map V.int) -> HOk P w H s₁.heap -> (∀ b, H b ≠ none -> b = a \/ b ∈ tabs) -> (H a ≠ none -> K.lookup a = none) ->
   codeAny (model P w) callerA (.call (.ref fa) ⟨[.ref a], []⟩) (fun r s' => OutIs out r s' /\ OldK s₁.heap s'.heap /\ s'.os = s₁.os /\ AllBare s'.gens) s₁ := by
  intro H hO hTb hS hok hA hK
  have base_of : ∀ {b : Addr} {o : Obj}, s₁.heap.get? b = some o -> H b = none -> (hidT s₁.heap H).get? b = some o := fun e n => qh5 e n
  have noA : ∀ {b : Addr} {o : Obj} {es : Array DictEntry} {ep : Nat}, s₁.heap.get? b = some o -> o.data = .dict es ep -> H b = none := fun {b o es ep} e d => by
   cases q : H b with
   | none => rfl
   | some u =>
    rcases hA b (by rw [q]; simp) with e' | e'
    ·subst e'
     rw [ha] at e; cases e
     have d' : Data.seq vs.toArray _ = Data.dict es ep := d
     cases d'
    ·rw [(hT b e').1] at e; cases e
     have d' : Data.fields #[] = Data.dict es ep := d
     cases d'
  have nsK : ∀ {b : Addr} {m : Str -> Option Value}, s₁.heap.Ns b m -> (hidT s₁.heap H).Ns b m := fun {b m} ⟨o, es, ep, e, d, r⟩ => ⟨o, es, ep, base_of e (noA e d), d, r⟩
  have hKb : K.In (hidT s₁.heap H) := fun b o e => base_of (KX b o e) (by
   cases q : H b with
   | none => rfl
   | some u =>
    rcases hA b (by rw [q]; simp) with e' | e'
    ·subst e'
     rw [hK (by rw [q]; simp)] at e; cases e
    ·rw [(hT b e').2.2] at e; cases e)
  have hM : Mod K mg (hidT s₁.heap H) := ⟨hKb, nsK hns, ⟨mb, nsK hb, hbb⟩, let ⟨mc, h1, h2⟩ := hlim; ⟨mc, nsK h1, h2⟩⟩
  have e0 : Env0 P w K mg (hidT s₁.heap H) callerA [] s₁ H := ⟨rfl, hM, fun b o e => qmu e, Nat.le_of_eq (qhI _ _), trivial, fun b hb => absurd (show b ∈ ([] : List Addr) from hb) (by simp), hok, .of_eq hg⟩
  have hBm : BmAt mg (hidT s₁.heap H) := by
   obtain ⟨bm, ob, b1, b2, b3, b4, b5, b6, b7⟩ := hbm
   refine ⟨bm, ob, b1, b2, b3, base_of b4 ?_, b5, b6, b7⟩
   cases q : H bm with
   | none => rfl
   | some u =>
    rcases hA bm (by rw [q]; simp) with e' | e'
    ·subst e'
     rw [ha] at b4; cases b4
     exact absurd b5 (by show Value.type "list" ≠ .type "module"; decide +kernel)
    ·rw [(hT bm e').1] at b4; cases b4; cases b5
  have noL : ∀ b xs, H b ≠ some (.lst xs) := by
   intro b xs z
   rcases hO b with y | ⟨_, _, y⟩ | ⟨_, y⟩
   ·rw [y] at z; cases z
   ·rw [y] at z; cases z
   ·rw [y] at z; cases z
  refine codeAny_mono ((F _ hKb (nsK hns) hBm).run callerA [] s₁ H ⟨[.ref a], []⟩ [.ref a] [.ref a] _ _ hr e0 (hbind s₁ (.ref a)) (.cons rfl .nil) (hsp H hTb noL hS)) fun r s' h => ?_
  cases r with
  | error e => exact (hCX H e s' h).elim
  | ok fl =>
   cases fl with
   | next => exact False.elim h
   | brk => exact False.elim h
   | cont => exact False.elim h
   | ret u =>
    obtain ⟨v, H', os, bare, un, hok', r', p, rfl, hp⟩ := h
    obtain rfl : u = Value.ref p := r'
    obtain ⟨_, its, n, hv, hh⟩ := hok' p _ hp
    refine ⟨⟨p, its, n, rfl, hh, qeG hv⟩, ⟨fun b o e => ?_, fun b o e => un.there b o e (by simp)⟩, os, bare⟩
    cases q : H b with
    | none => exact .inl (un.keep b o e q (by intro z; exact absurd (show b ∈ ([] : List Addr) from z) (by simp)) (by simp))
    | some u =>
     rcases hO b with z | ⟨ob, xs, z⟩ | ⟨hb, z⟩
     ·rw [q] at z; cases z
     ·have z2 := un.frzs b ob _ z
      obtain ⟨e1, _⟩ := hok b _ z
      obtain ⟨e2, _⟩ := hok' b _ z2
      rw [e] at e1; cases e1
      exact .inl e2
     ·obtain ⟨more, z2⟩ := un.tbls b _ z
      have e2 : s'.heap.get? b = some { cls := .none, data := .fields (#[] ++ more) } := hok' b _ z2
      have e1 := (hT b hb).1
      rw [e] at e1
      cases e1
      exact .inr (.inl ⟨(hT b hb).2.1, rfl, #[], more, rfl, e2⟩)
 have aT : ∀ P ∈ tabs, P ≠ a := fun P hP z => by
  have := (hT P hP).1
  rw [z, ha] at this; cases this
 cases hk : K.lookup a with
 | some o =>
  have e := KX a o hk
  rw [ha] at e
  cases e
  refine core (fun b => if b ∈ tabs then some (.tbl #[]) else none) (fun b => ?_) (fun P hP => if_pos hP) (.inr ⟨_, vs.toArray, _, hk, rfl, rfl, rfl, by rw [List.size_toArray, lenV]; exact hl, by simpa using rv⟩) (fun b u z => ?_) (fun b z => ?_) fun z => ?_
  ·by_cases hb : b ∈ tabs
   ·exact .inr (.inr ⟨hb, if_pos hb⟩)
   ·exact .inl (if_neg hb)
  ·by_cases hb : b ∈ tabs
   ·have z' := (if_pos hb).symm.trans z
    cases z'
    exact (hT b hb).1
   ·have z' := (if_neg hb).symm.trans z
    cases z'
  ·by_cases hb : b ∈ tabs
   ·exact .inr hb
   ·exact absurd (if_neg hb) z
  ·exact absurd (if_neg fun h => aT a h rfl) z
 | none =>
  refine core (fun b => if b = a then some (.frz { cls := .type "list", data := .seq vs.toArray } (.lst (ns.map V.int))) else if b ∈ tabs then some (.tbl #[]) else none) (fun b => ?_) (fun P hP => (if_neg (aT P hP)).trans (if_pos hP)) (.inl (.inr ⟨{ cls := .type "list", data := .seq vs.toArray }, if_pos rfl⟩)) (fun b u z => ?_) (fun b z => ?_) fun _ => hk
  ·by_cases hb : b = a
   ·exact .inr (.inl ⟨_, _, if_pos hb⟩)
   ·by_cases hb2 : b ∈ tabs
    ·exact .inr (.inr ⟨hb2, (if_neg hb).trans (if_pos hb2)⟩)
    ·exact .inl ((if_neg hb).trans (if_neg hb2))
  ·by_cases hb : b = a
   ·have z' := (if_pos hb).symm.trans z
    cases z'
    subst hb
    exact ⟨ha, by rw [List.length_map]; exact hl, vs, _, rv, ha⟩
   ·have z' := (if_neg hb).symm.trans z
    by_cases hb2 : b ∈ tabs
    ·have z2 := (if_pos hb2).symm.trans z'
     cases z2
     exact (hT b hb2).1
    ·have z2 := (if_neg hb2).symm.trans z'
     cases z2
  ·by_cases hb : b = a
   ·exact .inl hb
   ·by_cases hb2 : b ∈ tabs
    ·exact .inr hb2
    ·exact absurd ((if_neg hb).trans (if_neg hb2)) z
abbrev R1 (P : Program) (nm : Str) (least most : Nat) (lo hi : Int) (rl rm : Nat) (rlo rhi : Int) (asked : List Int -> Bool) (f : List Int -> List Int) : PySem.W.OpenSpec :=
 PySem.W.OpenSpec.mk P nm [.list least most (.int lo hi)] (.list rl rm (.int rlo rhi)) asked f
theorem qdG {R : PySem.W.WRecords} {cl : Str -> Option Addr} {h : Heap} : ∀ {its : List Value} {ns : List Int}, IntsAre its ns -> PySem.W.ReadsAllW R cl h its (ns.map PySem.W.WData.int) []
 | _, _, .nil => .nil
 | _, _, .cons n t r => .cons (.int n t) (qdG r)
theorem qiv {P : Program} {nm : Str} {least most rl rm k : Nat} {lo hi rlo rhi : Int} {asked : List Int -> Bool} {f : List Int -> List Int} {q : Program} {loose : List Str} {XP : (Str -> Option Value) -> Heap -> Prop} {YP : World -> Heap -> Prop} {d : DefRec}
  {K : Params -> PySem.W.Frag} {CX : CXT} {sp : PySem.W.Frag -> Sp} {x : Str} (said : (R1 P nm least most lo hi rl rm rlo rhi asked f).wellSaid = true)
  (hn2 : most <= sizeLine) (hdf : d.params.defaults = []) (hr : Room k callerA)
  (hY : ∀ (w : World) (h : Heap), YP w h -> (K w.params).In h) {tabs : List (Addr × Addr)} (hYT : ∀ (w : World) (h : Heap), YP w h -> ∀ q ∈ tabs, h.get? q.2 = some (PySem.W.tabObj #[])) (hTK : ∀ (P : Params), ∀ q ∈ tabs, PySem.W.codeHdIn (K P) q.1 q.2 = true /\ (K P).lookup q.2 = none)
  (F : ∀ (w : World) (mg : Str -> Option Value) (fa : Addr) (h : Heap), (K w.params).In h -> h.Ns mainGlobals mg -> mg d.name = some (.ref fa) ->
   ∃ fd : FuncData, (∀ (s : Shared) (u : Value), BindsTo s fd ⟨[u], []⟩ [(x, u)]) /\
    ∀ base : Heap, (K w.params).In base -> base.Ns mainGlobals mg -> BmAt mg base -> FnOk P w (K w.params) mg base CX k fa fd [x] (sp (K w.params)))
  (hsp : ∀ (K : PySem.W.Frag) (H : Hp) (a : Addr) (ns : List Int), ns.length <= most -> (∀ z ∈ ns, lo <= z /\ z <= hi) -> asked ns = true -> (∀ q ∈ tabs, H q.2 = some (.tbl #[])) -> (∀ b xs, H b ≠ some (.lst xs)) -> SqL K H a (ns.map V.int) ->
   sp K [.ref a] H (fun v H' => ∃ p, v = .ref p /\ H' p = some (.lst ((f ns).map V.int))) fun _ _ _ => False)
  (hCX : ∀ (H : Hp) (s : Shared) (e : Value) (s' : Shared), CX [] H s (fun _ _ _ => False) e s' -> False) :
  PySem.W.WalkOS q loose XP YP (R1 P nm least most lo hi rl rm rlo rhi asked f) d [] (fun f vs => PySem.call f vs) := by
 intro w s₀ s₁ mg mb G Y fa o pm cd doc dV kV ho hd hcd hD hmg hg args vals as hpre hlay hrd hwl hlo
 obtain ⟨⟨ns, u⟩, hin, hask, rfl⟩ := (PySem.W.OpenSpec.pre_iff said args).mp hpre
 have hin0 : (PySem.W.Codec.inList least most (PySem.W.Codec.inInt lo hi) ns && true) = true := hin
 have hin1 : (PySem.W.Codec.inLen least most ns && ns.all (PySem.W.Codec.inInt lo hi)) = true := (Bool.and_eq_true_iff.mp hin0).1
 have hlen : ns.length <= most := by
  have := (Bool.and_eq_true_iff.mp hin1).1
  unfold PySem.W.Codec.inLen PySem.W.Codec.inNat at this
  simp at this
  exact this.2
 have hall : ∀ z ∈ ns, lo <= z /\ z <= hi := by
  intro z hz
  have := List.all_eq_true.mp (Bool.and_eq_true_iff.mp hin1).2 z hz
  unfold PySem.W.Codec.inInt at this
  simpa using this
 have hwl' : PySem.W.WellAll w.params s₁.heap vals [PySem.W.WData.list (ns.map PySem.W.WData.int)] := hwl
 obtain ⟨a, vs, rfl, hobj, hints⟩ : ∃ a vs, vals = [Value.ref a] /\ s₁.heap.get? a = some { cls := .type "list", data := .seq vs.toArray } /\ IntsAre vs ns := by
  cases hwl' with
  | cons w1 w2 =>
   cases w2
   cases w1 with
   | list ho hall => exact ⟨_, _, rfl, ho, Att.ints_of_wellAll ns _ hall⟩
 have KX := hY w _ Y
 obtain ⟨fd, hb, hF⟩ := F w mg fa _ KX G.T.g hmg
 have hT : ∀ P ∈ tabs.map (·.2), s₁.heap.get? P = some (PySem.W.tabObj #[]) /\ isCodeTable s₁.heap P /\ (K w.params).lookup P = none := by
  intro P hP
  obtain ⟨q, hq, rfl⟩ := List.mem_map.mp hP
  have h1 := hYT w _ Y q hq
  have h2 := hTK w.params q hq
  exact ⟨h1, ((PySem.W.codeHd_of_K KX h2.1).tab h1).isCodeTable, h2.2⟩
 have hBm : BmAt mg s₁.heap := by
  obtain ⟨bm, ob, b1, b2, b3, b4, b5, b6⟩ := G.T.bmain
  refine ⟨bm, ob, b1, b2, fun q => ?_, b3, b4, b5, b6⟩
  obtain ⟨o, es, ep, e, hd, _⟩ := G.T.g
  rw [q, e] at b3; cases b3; rw [hd] at b6; cases b6
 refine PySem.W.enter_call (codeAny_mono (qgJ (out := f ns) KX G.T.g G.T.b G.T.builtins G.T.nolimit hg hobj hints (Nat.le_trans hlen hn2) hr hT hBm hF hb (fun H hO hL hS => hsp _ H a ns hlen hall hask (fun q hq => hO q.2 (List.mem_map.mpr ⟨q, hq, rfl⟩)) hL hS) fun H e s' => hCX H s₁ e s') fun r s' hq => ?_)
 obtain ⟨⟨p, its, n, rfl, hp, hi'⟩, h2, h3, h4⟩ := hq
 refine ⟨.inl ⟨.ref p, .list ((f ns).map .int), [p], rfl, fun _ => rfl, .list hp rfl rfl (qdG hi'), ?_, fun h => absurd h Bool.false_ne_true⟩, h2, h3, h4⟩
 exact (PySem.W.OpenSpec.post_iff said hin _ _).mpr rfl
def KDict (K : PySem.W.Frag) (a : Addr) (l : List (Int × Addr)) : Prop := (a == sysModules) = false /\ ∀ (P : Program) (w : World) (h : Heap), K.In h -> h.DictOf (mixKind P w) a (l.map fun q => (Sum.inl q.1, Value.ref q.2))
theorem qh3 {K : PySem.W.Frag} {a : Addr} {l : List (Int × Tok × Addr)} {ep : Nat} (h : K.lookup a = some ⟨.type "dict", none, .dict (l.map fun q => (⟨hashInt q.1, .int q.1 q.2.1, .ref q.2.2⟩ : DictEntry)).toArray ep, #[]⟩) (hs : (a == sysModules) = false) (nd : (l.map (·.1)).Nodup) :
  KDict K a (l.map fun q => (q.1, q.2.2)) := by
 refine ⟨hs, fun P w hp X => ⟨_, _, ep, X _ _ h, ⟨rfl, rfl, rfl⟩, rfl, fun e he => ?_, ?_, ?_⟩⟩
 ·obtain ⟨q, _, rfl⟩ := List.mem_map.mp (by simpa using he : e ∈ l.map fun q => (⟨hashInt q.1, .int q.1 q.2.1, .ref q.2.2⟩ : DictEntry))
  exact ⟨Sum.inl q.1, qdx q.1 q.2.1, rfl⟩
 ·have : ∀ l : List (Int × Tok × Addr), Pairs (mixKind P w) (l.map fun q => (⟨hashInt q.1, .int q.1 q.2.1, .ref q.2.2⟩ : DictEntry)) ((l.map fun q => (q.1, q.2.2)).map fun q => ((Sum.inl q.1 : Key), Value.ref q.2)) := by
   intro l
   induction l with
   | nil => exact .nil
   | cons q l ih => exact .cons (qdx q.1 q.2.1) rfl ih
  exact this l
 ·rw [List.map_map, List.map_map]
  have : ((fun x : Key × Value => x.1) ∘ fun q : Int × Addr => ((Sum.inl q.1 : Key), Value.ref q.2)) ∘ (fun q : Int × Tok × Addr => (q.1, q.2.2)) = fun q => Sum.inl q.1 := rfl
  rw [this]
  have e : (l.map fun q => (Sum.inl q.1 : Key)) = (l.map (·.1)).map Sum.inl := by rw [List.map_map]; rfl
  rw [e]
  refine List.pairwise_map.mpr (nd.imp fun {x y} hn z => hn (Sum.inl.inj z))
theorem kd_at {l : List (Int × Addr)} {i : Int} : valueAt (l.map fun q => ((Sum.inl q.1 : Key), Value.ref q.2)) (Sum.inl i) = ((l.find? fun q => decide (q.1 = i)).map fun q => Value.ref q.2) := by
 unfold valueAt
 induction l with
 | nil => rfl
 | cons q l ih =>
  rw [List.map_cons, List.find?_cons, List.find?_cons]
  by_cases e : q.1 = i
  ·have : decide ((Sum.inl q.1 : Key) = Sum.inl i) = true := by simp [e]
   simp [e]
  ·have : decide ((Sum.inl q.1 : Key) = Sum.inl i) = false := by simp [e]
   simp only [this, decide_eq_false e]
   exact ih
section
variable {X : Cx} {o i : Expr} {td ty : TE} {pos : Pos}
def kAt (l : List (Int × Addr)) (i : Int) : Option Addr := (l.find? fun q => decide (q.1 = i)).map (·.2)
theorem kd_at' {l : List (Int × Addr)} {i : Int} : valueAt (l.map fun q => ((Sum.inl q.1 : Key), Value.ref q.2)) (Sum.inl i) = (kAt l i).map Value.ref := by
 rw [kd_at]
 unfold kAt
 cases l.find? fun q => decide (q.1 = i) <;> rfl
def tKGet (K : PySem.W.Frag) (td ty : TE) : TE := fun σ H Q => td σ H fun x H1 => ty σ H1 fun y H2 => ∃ a l i f, x = .ref a /\ KDict K a l /\ y = .int i /\ kAt l i = some f /\ Q (.ref f) H2
def tKNotIn (K : PySem.W.Frag) (ty td : TE) : TE := fun σ H Q => ty σ H fun y H1 => td σ H1 fun x H2 => ∃ a l i, x = .ref a /\ KDict K a l /\ y = .int i /\ Q (.bl (!(kAt l i).isSome)) H2
theorem qfq (ho : PE X o td) (hi : PE X i ty) (hs : NoSl i) : PE X (.Subscript o i pos) (tKGet X.K td ty) := by
 intro pins s σ H Q I h
 refine qhe PySem.F.slot_dict_getitem.lookup hs (thn (ho pins s σ H _ I h) fun u s1 ⟨x, H1, I1, rx, q1⟩ => thn (hi pins s1 σ H1 _ I1 q1) fun iv s2 ⟨y, H2, I2, ry, a, l, n, f, ex, g, ey, hf, q2⟩ => ?_)
 subst ex
 subst ey
 obtain rfl : u = Value.ref a := rx
 have dd := g.2 X.prog X.w s2.heap I2.kIn
 refine ⟨dd.typeIs, wpAny_getItem_of (k := (Sum.inl n : Key)) (qdX (k := Sum.inl n) ry) dd.mapOf ?_ ⟨.ref f, H2, I2.tok _, rfl, q2⟩⟩
 rw [kd_at', hf]; rfl
theorem qgI (hi : PE X i ty) (ho : PE X o td) : PC X .NotIn i o (tKNotIn X.K ty td) := by
 intro pins s σ H Q I h
 refine thn (hi pins s σ H _ I h) fun iv s1 ⟨y, H1, I1, ry, q1⟩ => thn (ho pins s1 σ H1 _ I1 q1) fun u s2 ⟨x, H2, I2, rx, a, l, n, ex, g, ey, q2⟩ => ?_
 subst ex
 subst ey
 obtain rfl : u = Value.ref a := rx
 have dd := g.2 X.prog X.w s2.heap I2.kIn
 refine wpAny_notIn_of (k := (Sum.inl n : Key)) (qdX (k := Sum.inl n) ry) g.1 dd.mapOf ⟨.bl _, H2, I2.tok _, ?_, q2⟩
 rw [kd_at', Option.isSome_map]; rfl
end
theorem qdm {X : Cx} {x : Str} {a : Addr} {pos : Pos} (hg : Gl X x) (hm : X.mg x = some (.ref a)) (hd : (x == ("__debug__" : Str)) = false := by decide) : PE X (.Name x pos) (tC (.ref a)) := qha hg hm rfl hd
section
variable {X : Cx} {CX : CXT} {k : Nat} {E : XK} {x : Str} {p pos : Pos} {e : Expr} {es : List Expr} {t : TA}
def tCallV (i : Nat) (Fam : Nat -> Prop) (fa : Nat -> Addr) (spF : Nat -> Sp) (E : XK) (t : TA) : TE := fun σ H Q => ∃ n, σ[i]? = some (some (.ref (fa n))) /\ Fam n /\ t σ H fun vs H1 => spF n vs H1 Q E
def FamOk (P : Program) (w : World) (K : PySem.W.Frag) (mg : Str -> Option Value) (base : Heap) (CX : CXT) (k : Nat) (Fam : Nat -> Prop) (fa : Nat -> Addr) (spF : Nat -> Sp) : Prop :=
 ∀ n, Fam n -> ∃ fd ps, FnOk P w K mg base CX k (fa n) fd ps (spF n) /\ Binds K fd ps [] /\ PySem.W.keepIn K (.ref (fa n)) = true
theorem qf5 {i : Nat} {Fam : Nat -> Prop} {fa : Nat -> Addr} {spF : Nat -> Sp} (hv : PE X (.Name x p) (tVar i)) (hF : FamOk X.prog X.w X.K X.mg X.base CX k Fam fa spF) (hr : Room k X.A) (hx : Passes CX X E)
  (ha : PA X (e :: es) t) (he : starEach (e :: es) X.env = (false, eval e X.env) :: starEach es X.env := by rfl) (hpl : (backTo pos (starEach es X.env)).any (·.1) = false := by rfl) :
  PE X (.Call (.Name x p) (e :: es) [] pos) (tCallV i Fam fa spF E t) := by
 intro pins s σ H Q I h
 obtain ⟨n, e1, hf, h⟩ := h
 obtain ⟨fd, ps, F, hb, hk⟩ := hF n hf
 refine wpAny_Call_Name_kw (thn (hv pins s σ H (fun v H' => v = .ref (fa n) /\ H' = H) I ⟨_, e1, rfl, rfl⟩) fun u s1 ⟨v, H1, I1, r, ev, eH⟩ => ?_)
 subst ev
 subst eH
 obtain rfl : u = Value.ref (fa n) := r
 refine PySem.W.callWith_K (h₀ := X.base) I.ok.mod.kin hk (thn (ha pos pins s1 σ H1 _ I1 h) fun us s2 ⟨vs, H2, I2, r2, q⟩ => ⟨I2.kIn, ?_⟩) he hpl
 exact qfW F hr hb .nil hx I2 r2 (by rw [List.append_nil]; exact q)
theorem qbD {P : Program} {w : World} {K : PySem.W.Frag} {mg : Str -> Option Value} {base : Heap} {CX : CXT} {k k' : Nat} {f : Addr} {fd : FuncData} {ps : List Str} {sp sp' : Sp} (F : FnOk P w K mg base CX k f fd ps sp) (h : k <= k') (hs : ∀ vs H Q E, sp' vs H Q E -> sp vs H Q E) :
  FnOk P w K mg base CX k' f fd ps sp' :=
 ⟨fun vs H Q E h => F.len vs H Q E (hs vs H Q E h), fun A outer s H args us vs Q E hr e0 b r q => F.run A outer s H args us vs Q E (hr.mono h) e0 b r (hs vs H Q E q)⟩
end
end NM
namespace NM
open PySem L2 Rc50
def top (i : Nat) : Stmt := PySem.Challenge.pw_nearmany_s01_answers.main.body.getD i (.Pass ⟨0, 0, 0, 0⟩)
abbrev qmi : Stmt := top 1
abbrev qkY : Stmt := top 2
abbrev qlO : Stmt := inClass (top 4) 0
abbrev qll : Stmt := inClass (top 10) 0
abbrev qlt : Stmt := inClass (top 10) 1
abbrev qmw : Stmt := inClass (top 10) 2
abbrev s_z5 : Stmt := inClass (top 10) 3
abbrev qlo : Stmt := inClass (top 10) 4
abbrev qmp : Stmt := inClass (top 11) 0
abbrev qlv : Stmt := inClass (top 11) 1
abbrev ql4 : Stmt := inClass (top 11) 2
abbrev qlH : Stmt := inClass (top 11) 3
abbrev qkF : Stmt := inClass (top 11) 4
abbrev qlu : Stmt := inClass (top 11) 5
abbrev qlF : Stmt := inClass (top 30) 0
abbrev qmf : Stmt := top 31
abbrev qlP : Stmt := top 32
abbrev qky : Stmt := top 33
abbrev ql3 : Stmt := top 34
abbrev qls : Stmt := top 35
abbrev s_z4 : Stmt := top 36
abbrev qkZ : Stmt := top 38
abbrev qlc : Stmt := top 39
abbrev qmn : Stmt := top 40
abbrev qlX : Stmt := top 41
abbrev qmd : Stmt := top 42
abbrev ql6 : Stmt := top 43
abbrev qk0 : Stmt := top 44
abbrev qmh : Stmt := inClass (top 50) 0
abbrev qlW : Stmt := inClass (top 50) 1
abbrev qlR : Stmt := inClass (top 55) 0
abbrev s_z6 : Stmt := inClass (top 55) 1
abbrev qlk : Stmt := inClass (top 55) 2
abbrev qmg : Stmt := inClass (top 56) 0
abbrev qlM : Stmt := inClass (top 56) 1
abbrev s_z0 : Stmt := inClass (top 56) 2
abbrev s_z9 : Stmt := inClass (top 56) 3
abbrev qlD : Stmt := inClass (top 56) 4
abbrev s_z7 : Stmt := inClass (top 56) 5
abbrev qkz : Stmt := inClass (top 56) 6
abbrev qk7 : Stmt := inClass (top 56) 7
abbrev qms : Stmt := inClass (top 56) 8
abbrev qld : Stmt := inClass (top 65) 0
abbrev qlh : Stmt := inClass (top 66) 0
abbrev qlj : Stmt := inClass (top 67) 0
abbrev ql7 : Stmt := inClass (top 67) 1
abbrev qmr : Stmt := inClass (top 67) 2
abbrev qma : Stmt := inClass (top 67) 3
abbrev s_z3 : Stmt := inClass (top 67) 4
abbrev s_z1 : Stmt := inClass (top 67) 5
abbrev s_z8 : Stmt := inClass (top 67) 6
abbrev s_z2 : Stmt := inClass (top 67) 7
abbrev qkD : Stmt := inClass (top 71) 0
abbrev qlK : Stmt := inClass (top 71) 1
abbrev qk8 : Stmt := inClass (top 71) 2
abbrev qly : Stmt := inClass (top 71) 3
abbrev qle : Stmt := top 79
abbrev qkw : Stmt := top 80
abbrev qlq : Stmt := inClass (top 81) 0
abbrev qk3 : Stmt := inClass (top 81) 1
abbrev qme : Stmt := inClass (top 81) 2
abbrev qmj : Stmt := inClass (top 81) 3
abbrev qkB : Stmt := inClass (top 81) 4
abbrev qlf : Stmt := inClass (top 81) 5
abbrev qlJ : Stmt := inClass (top 81) 6
abbrev qlg : Stmt := inClass (top 81) 7
abbrev ql8 : Stmt := inClass (top 81) 8
abbrev qmk : Stmt := inClass (top 81) 9
abbrev qlx : Stmt := inClass (top 81) 10
abbrev qk9 : Stmt := inClass (top 81) 11
abbrev qkE : Stmt := inClass (top 81) 12
abbrev qlY : Stmt := inClass (top 81) 13
abbrev qkA : Stmt := inClass (top 81) 14
abbrev qlT : Stmt := inClass (top 81) 15
abbrev qlr : Stmt := inClass (top 81) 16
abbrev qkH : Stmt := inClass (top 81) 17
abbrev qlw : Stmt := inClass (top 81) 18
abbrev qmq : Stmt := inClass (top 81) 19
abbrev qlB : Stmt := inClass (top 81) 20
abbrev qmv : Stmt := inClass (top 81) 21
abbrev qmo : Stmt := inClass (top 83) 0
abbrev ql0 : Stmt := inClass (top 83) 1
abbrev qlp : Stmt := inClass (top 83) 2
abbrev qlS : Stmt := inClass (top 83) 3
abbrev qli : Stmt := inClass (top 83) 4
abbrev qmt : Stmt := top 84
abbrev qk2 : Stmt := top 85
abbrev qkL : Stmt := top 86
abbrev qkG : Stmt := top 87
abbrev qlZ : Stmt := top 88
abbrev qla : Stmt := top 89
abbrev qlG : Stmt := top 90
abbrev qkW : Stmt := top 91
abbrev ql9 : Stmt := top 92
abbrev qkR : Stmt := top 93
abbrev qlQ : Stmt := top 94
abbrev qkN : Stmt := top 95
abbrev qlU : Stmt := top 97
abbrev ql1 : Stmt := top 98
set_option genInjectivity false in
set_option genSizeOf false in
structure Adr where
 C_Someone : Addr
 C_Bucket : Addr
 C_Buckets : Addr
 C_Letter : Addr
 C_Chance : Addr
 C_Asked : Addr
 C_Post : Addr
 C_Found : Addr
 C_Outcome : Addr
 C_Search : Addr
 C_Shelf : Addr
 C_One : Addr
 C_Calls : Addr
 a_z80 : Addr
 d_z80 : FuncData
 a_z82 : Addr
 d_z82 : FuncData
 a_z41 : Addr
 d_z41 : FuncData
 a_z57 : Addr
 d_z57 : FuncData
 a_z20 : Addr
 d_z20 : FuncData
 a_z46 : Addr
 d_z46 : FuncData
 a_z5 : Addr
 d_z5 : FuncData
 a_z36 : Addr
 d_z36 : FuncData
 a_z40 : Addr
 d_z40 : FuncData
 a_z10 : Addr
 d_z10 : FuncData
 a_z16 : Addr
 d_z16 : FuncData
 a_z38 : Addr
 d_z38 : FuncData
 a_z25 : Addr
 d_z25 : FuncData
 a_z23 : Addr
 d_z23 : FuncData
 a_z54 : Addr
 d_z54 : FuncData
 a_z43 : Addr
 d_z43 : FuncData
 a_z78 : Addr
 d_z78 : FuncData
 a_z50 : Addr
 d_z50 : FuncData
 a_z45 : Addr
 d_z45 : FuncData
 a_z42 : Addr
 d_z42 : FuncData
 a_z4 : Addr
 d_z4 : FuncData
 a_z53 : Addr
 d_z53 : FuncData
 a_z35 : Addr
 d_z35 : FuncData
 a_z56 : Addr
 d_z56 : FuncData
 a_z31 : Addr
 d_z31 : FuncData
 a_z37 : Addr
 d_z37 : FuncData
 a_z32 : Addr
 d_z32 : FuncData
 a_z27 : Addr
 d_z27 : FuncData
 a_z48 : Addr
 d_z48 : FuncData
 a_z49 : Addr
 d_z49 : FuncData
 a_z62 : Addr
 d_z62 : FuncData
 a_z6 : Addr
 d_z6 : FuncData
 a_z39 : Addr
 d_z39 : FuncData
 a_z81 : Addr
 d_z81 : FuncData
 a_z93 : Addr
 d_z93 : FuncData
 a_z0 : Addr
 d_z0 : FuncData
 a_z9 : Addr
 d_z9 : FuncData
 a_z92 : Addr
 d_z92 : FuncData
 a_z7 : Addr
 d_z7 : FuncData
 a_z60 : Addr
 d_z60 : FuncData
 a_z33 : Addr
 d_z33 : FuncData
 a_z11 : Addr
 d_z11 : FuncData
 a_z58 : Addr
 d_z58 : FuncData
 a_z44 : Addr
 d_z44 : FuncData
 a_z47 : Addr
 d_z47 : FuncData
 a_z17 : Addr
 d_z17 : FuncData
 a_z19 : Addr
 d_z19 : FuncData
 a_z26 : Addr
 d_z26 : FuncData
 a_z3 : Addr
 d_z3 : FuncData
 a_z1 : Addr
 d_z1 : FuncData
 a_z8 : Addr
 d_z8 : FuncData
 a_z2 : Addr
 d_z2 : FuncData
 a_z64 : Addr
 d_z64 : FuncData
 a_z68 : Addr
 d_z68 : FuncData
 a_z15 : Addr
 d_z15 : FuncData
 a_z28 : Addr
 d_z28 : FuncData
 a_z96 : Addr
 d_z96 : FuncData
 a_z76 : Addr
 d_z76 : FuncData
 a_z87 : Addr
 d_z87 : FuncData
 a_z65 : Addr
 d_z65 : FuncData
 a_z79 : Addr
 d_z79 : FuncData
 a_z97 : Addr
 d_z97 : FuncData
 a_z95 : Addr
 d_z95 : FuncData
 a_z91 : Addr
 d_z91 : FuncData
 a_z86 : Addr
 d_z86 : FuncData
 a_z94 : Addr
 d_z94 : FuncData
 a_z59 : Addr
 d_z59 : FuncData
 a_z66 : Addr
 d_z66 : FuncData
 a_z73 : Addr
 d_z73 : FuncData
 a_z74 : Addr
 d_z74 : FuncData
 a_z90 : Addr
 d_z90 : FuncData
 a_z89 : Addr
 d_z89 : FuncData
 a_z14 : Addr
 d_z14 : FuncData
 a_z13 : Addr
 d_z13 : FuncData
 a_z34 : Addr
 d_z34 : FuncData
 a_z18 : Addr
 d_z18 : FuncData
 a_z55 : Addr
 d_z55 : FuncData
 a_z22 : Addr
 d_z22 : FuncData
 a_z75 : Addr
 d_z75 : FuncData
 a_z29 : Addr
 d_z29 : FuncData
 a_z61 : Addr
 d_z61 : FuncData
 a_z21 : Addr
 d_z21 : FuncData
 a_z12 : Addr
 d_z12 : FuncData
 a_z30 : Addr
 d_z30 : FuncData
 a_z24 : Addr
 d_z24 : FuncData
 a_z63 : Addr
 d_z63 : FuncData
 a_z88 : Addr
 d_z88 : FuncData
 a_z84 : Addr
 d_z84 : FuncData
 a_z85 : Addr
 d_z85 : FuncData
 a_z77 : Addr
 d_z77 : FuncData
 a_z83 : Addr
 d_z83 : FuncData
 a_z51 : Addr
 d_z51 : FuncData
 a_z52 : Addr
 d_z52 : FuncData
 a_z69 : Addr
 d_z69 : FuncData
 a_z67 : Addr
 d_z67 : FuncData
 a_z72 : Addr
 d_z72 : FuncData
 a_z71 : Addr
 d_z71 : FuncData
 a_z98 : Addr
 d_z98 : FuncData
 a_z70 : Addr
 d_z70 : FuncData
 c_z23 : Addr
 t_z23 : Addr
 c_z17 : Addr
 t_z17 : Addr
 g_READERS : Addr
 g_ANSWERING_KINDS : Addr
 g_CALLS : Addr
 g_ASKING_KINDS : Addr
 t_ANSWERING_KINDS_0 : Addr
 t_ANSWERING_KINDS_2 : Addr
 t_ANSWERING_KINDS_4 : Addr
 t_ANSWERING_KINDS_6 : Addr
set_option genInjectivity false in
set_option genSizeOf false in
structure Txt (K : PySem.W.Frag) (mg : Str -> Option Value) (A : Adr) : Prop where
 cl_Someone : Cls K A.C_Someone
 na_y40 : NoAttr K A.C_Someone "name"
 na_y39 : NoAttr K A.C_Someone "address"
 na_y41 : NoAttr K A.C_Someone "was_silent"
 mg_Someone : mg "Someone" = some (.ref A.C_Someone)
 mk_Someone : Mk K A.C_Someone A.a_z41
 cm_Someone : CmpK K A.C_Someone
 cl_Bucket : Cls K A.C_Bucket
 na_y6 : NoAttr K A.C_Bucket "known"
 na_y7 : NoAttr K A.C_Bucket "waiting"
 mg_Bucket : mg "Bucket" = some (.ref A.C_Bucket)
 mk_Bucket : Mk K A.C_Bucket A.a_z57
 cl_Buckets : Cls K A.C_Buckets
 na_y8 : NoAttr K A.C_Buckets "own_name"
 na_y9 : NoAttr K A.C_Buckets "rows"
 mg_Buckets : mg "Buckets" = some (.ref A.C_Buckets)
 mk_Buckets : Mk K A.C_Buckets A.a_z40
 cl_Letter : Cls K A.C_Letter
 na_y17 : NoAttr K A.C_Letter "kind"
 na_y18 : NoAttr K A.C_Letter "mark"
 na_y21 : NoAttr K A.C_Letter "sender"
 na_y19 : NoAttr K A.C_Letter "name"
 na_y20 : NoAttr K A.C_Letter "people"
 na_y16 : NoAttr K A.C_Letter "content"
 mg_Letter : mg "Letter" = some (.ref A.C_Letter)
 mk_Letter : Mk K A.C_Letter A.a_z54
 cl_Chance : Cls K A.C_Chance
 na_y12 : NoAttr K A.C_Chance "state"
 mg_Chance : mg "Chance" = some (.ref A.C_Chance)
 mk_Chance : Mk K A.C_Chance A.a_z48
 cl_Asked : Cls K A.C_Asked
 na_y1 : NoAttr K A.C_Asked "kind"
 na_y2 : NoAttr K A.C_Asked "mark"
 na_y3 : NoAttr K A.C_Asked "name"
 na_y0 : NoAttr K A.C_Asked "address"
 na_y5 : NoAttr K A.C_Asked "since"
 na_y4 : NoAttr K A.C_Asked "of_search"
 mg_Asked : mg "Asked" = some (.ref A.C_Asked)
 mk_Asked : Mk K A.C_Asked A.a_z62
 cm_Asked : CmpK K A.C_Asked
 cl_Post : Cls K A.C_Post
 na_y33 : NoAttr K A.C_Post "own_name"
 na_y31 : NoAttr K A.C_Post "chance"
 na_y32 : NoAttr K A.C_Post "outgoing"
 na_y34 : NoAttr K A.C_Post "unanswered"
 mg_Post : mg "Post" = some (.ref A.C_Post)
 mk_Post : Mk K A.C_Post A.a_z81
 cl_Found : Cls K A.C_Found
 na_y14 : NoAttr K A.C_Found "name"
 na_y13 : NoAttr K A.C_Found "address"
 na_y15 : NoAttr K A.C_Found "state"
 mg_Found : mg "Found" = some (.ref A.C_Found)
 mk_Found : Mk K A.C_Found A.a_z58
 cl_Outcome : Cls K A.C_Outcome
 na_y30 : NoAttr K A.C_Outcome "people"
 na_y29 : NoAttr K A.C_Outcome "content"
 mg_Outcome : mg "Outcome" = some (.ref A.C_Outcome)
 mk_Outcome : Mk K A.C_Outcome A.a_z44
 cl_Search : Cls K A.C_Search
 na_y37 : NoAttr K A.C_Search "name"
 na_y35 : NoAttr K A.C_Search "for_value"
 na_y36 : NoAttr K A.C_Search "found"
 mg_Search : mg "Search" = some (.ref A.C_Search)
 mk_Search : Mk K A.C_Search A.a_z47
 cl_Shelf : Cls K A.C_Shelf
 na_y38 : NoAttr K A.C_Shelf "kept"
 mg_Shelf : mg "Shelf" = some (.ref A.C_Shelf)
 mk_Shelf : Mk K A.C_Shelf A.a_z64
 cl_One : Cls K A.C_One
 na_y25 : NoAttr K A.C_One "own_name"
 na_y23 : NoAttr K A.C_One "now"
 na_y22 : NoAttr K A.C_One "buckets"
 na_y26 : NoAttr K A.C_One "post"
 na_y28 : NoAttr K A.C_One "shelf"
 na_y27 : NoAttr K A.C_One "quest"
 na_y24 : NoAttr K A.C_One "outcome"
 mg_One : mg "One" = some (.ref A.C_One)
 mk_One : Mk K A.C_One A.a_z87
 cl_Calls : Cls K A.C_Calls
 na_y10 : NoAttr K A.C_Calls "numbers"
 na_y11 : NoAttr K A.C_Calls "place"
 mg_Calls : mg "Calls" = some (.ref A.C_Calls)
 mk_Calls : Mk K A.C_Calls A.a_z61
 F_z80 : Fun K "number_of" "number_of" qmi A.a_z80 A.d_z80
 b_z80 : Binds K A.d_z80 ["octets"] []
 mg_z80 : mg "number_of" = some (.ref A.a_z80)
 F_z82 : Fun K "octets_of" "octets_of" qkY A.a_z82 A.d_z82
 b_z82 : Binds K A.d_z82 ["number", "how_many"] []
 mg_z82 : mg "octets_of" = some (.ref A.a_z82)
 F_z41 : Fun K "__init__" "Someone.__init__" qlO A.a_z41 A.d_z41
 b_z41 : Binds K A.d_z41 ["self", "name", "address"] []
 me_z41 : Meth K A.C_Someone "__init__" A.a_z41
 F_z57 : Fun K "__init__" "Bucket.__init__" qll A.a_z57 A.d_z57
 b_z57 : Binds K A.d_z57 ["self"] []
 me_z57 : Meth K A.C_Bucket "__init__" A.a_z57
 F_z20 : Fun K "known_by" "Bucket.known_by" qlt A.a_z20 A.d_z20
 b_z20 : Binds K A.d_z20 ["self", "name"] []
 me_z20 : Meth K A.C_Bucket "known_by" A.a_z20
 F_z46 : Fun K "heard" "Bucket.heard" qmw A.a_z46 A.d_z46
 b_z46 : Binds K A.d_z46 ["self", "name", "address"] []
 me_z46 : Meth K A.C_Bucket "heard" A.a_z46
 F_z5 : Fun K "heard_unknown" "Bucket.heard_unknown" s_z5 A.a_z5 A.d_z5
 b_z5 : Binds K A.d_z5 ["self", "name", "address"] []
 me_z5 : Meth K A.C_Bucket "heard_unknown" A.a_z5
 F_z36 : Fun K "silent" "Bucket.silent" qlo A.a_z36 A.d_z36
 b_z36 : Binds K A.d_z36 ["self", "name", "address"] []
 me_z36 : Meth K A.C_Bucket "silent" A.a_z36
 F_z40 : Fun K "__init__" "Buckets.__init__" qmp A.a_z40 A.d_z40
 b_z40 : Binds K A.d_z40 ["self", "own_name"] []
 me_z40 : Meth K A.C_Buckets "__init__" A.a_z40
 F_z10 : Fun K "bucket_of" "Buckets.bucket_of" qlv A.a_z10 A.d_z10
 b_z10 : Binds K A.d_z10 ["self", "name"] []
 me_z10 : Meth K A.C_Buckets "bucket_of" A.a_z10
 F_z16 : Fun K "known_by" "Buckets.known_by" ql4 A.a_z16 A.d_z16
 b_z16 : Binds K A.d_z16 ["self", "name"] []
 me_z16 : Meth K A.C_Buckets "known_by" A.a_z16
 F_z38 : Fun K "heard" "Buckets.heard" qlH A.a_z38 A.d_z38
 b_z38 : Binds K A.d_z38 ["self", "name", "address"] []
 me_z38 : Meth K A.C_Buckets "heard" A.a_z38
 F_z25 : Fun K "silent" "Buckets.silent" qkF A.a_z25 A.d_z25
 b_z25 : Binds K A.d_z25 ["self", "name", "address"] []
 me_z25 : Meth K A.C_Buckets "silent" A.a_z25
 F_z23 : Fun K "nearest" "Buckets.nearest" qlu A.a_z23 A.d_z23
 b_z23 : Binds K A.d_z23 ["self", "name"] []
 me_z23 : Meth K A.C_Buckets "nearest" A.a_z23
 l_z23 : A.d_z23.code = .ref A.c_z23
 h_z23 : PySem.W.codeHdIn K A.c_z23 A.t_z23 = true
 F_z54 : Fun K "__init__" "Letter.__init__" qlF A.a_z54 A.d_z54
 b_z54 : Binds K A.d_z54 ["self", "kind", "mark", "sender"] []
 me_z54 : Meth K A.C_Letter "__init__" A.a_z54
 F_z43 : Fun K "read_nothing" "read_nothing" qmf A.a_z43 A.d_z43
 b_z43 : Binds K A.d_z43 ["letter", "rest"] []
 mg_z43 : mg "read_nothing" = some (.ref A.a_z43)
 F_z78 : Fun K "read_name" "read_name" qlP A.a_z78 A.d_z78
 b_z78 : Binds K A.d_z78 ["letter", "rest"] []
 mg_z78 : mg "read_name" = some (.ref A.a_z78)
 F_z50 : Fun K "read_people" "read_people" qky A.a_z50 A.d_z50
 b_z50 : Binds K A.d_z50 ["letter", "rest"] []
 mg_z50 : mg "read_people" = some (.ref A.a_z50)
 F_z45 : Fun K "read_someone" "read_someone" ql3 A.a_z45 A.d_z45
 b_z45 : Binds K A.d_z45 ["octets", "start"] []
 mg_z45 : mg "read_someone" = some (.ref A.a_z45)
 F_z42 : Fun K "read_content" "read_content" qls A.a_z42 A.d_z42
 b_z42 : Binds K A.d_z42 ["letter", "rest"] []
 mg_z42 : mg "read_content" = some (.ref A.a_z42)
 F_z4 : Fun K "read_name_and_content" "read_name_and_content" s_z4 A.a_z4 A.d_z4
 b_z4 : Binds K A.d_z4 ["letter", "rest"] []
 mg_z4 : mg "read_name_and_content" = some (.ref A.a_z4)
 F_z53 : Fun K "read_letter" "read_letter" qkZ A.a_z53 A.d_z53
 b_z53 : Binds K A.d_z53 ["octets"] []
 mg_z53 : mg "read_letter" = some (.ref A.a_z53)
 F_z35 : Fun K "letter_octets" "letter_octets" qlc A.a_z35 A.d_z35
 b_z35 : Binds K A.d_z35 ["kind", "mark", "sender", "rest"] []
 mg_z35 : mg "letter_octets" = some (.ref A.a_z35)
 F_z56 : Fun K "name_octets" "name_octets" qmn A.a_z56 A.d_z56
 b_z56 : Binds K A.d_z56 ["name"] []
 mg_z56 : mg "name_octets" = some (.ref A.a_z56)
 F_z31 : Fun K "address_octets" "address_octets" qlX A.a_z31 A.d_z31
 b_z31 : Binds K A.d_z31 ["address"] []
 mg_z31 : mg "address_octets" = some (.ref A.a_z31)
 F_z37 : Fun K "people_octets" "people_octets" qmd A.a_z37 A.d_z37
 b_z37 : Binds K A.d_z37 ["people"] []
 mg_z37 : mg "people_octets" = some (.ref A.a_z37)
 F_z32 : Fun K "someone_octets" "someone_octets" ql6 A.a_z32 A.d_z32
 b_z32 : Binds K A.d_z32 ["someone"] []
 mg_z32 : mg "someone_octets" = some (.ref A.a_z32)
 F_z27 : Fun K "content_octets" "content_octets" qk0 A.a_z27 A.d_z27
 b_z27 : Binds K A.d_z27 ["content"] []
 mg_z27 : mg "content_octets" = some (.ref A.a_z27)
 F_z48 : Fun K "__init__" "Chance.__init__" qmh A.a_z48 A.d_z48
 b_z48 : Binds K A.d_z48 ["self", "seed"] []
 me_z48 : Meth K A.C_Chance "__init__" A.a_z48
 F_z49 : Fun K "draw" "Chance.draw" qlW A.a_z49 A.d_z49
 b_z49 : Binds K A.d_z49 ["self"] []
 me_z49 : Meth K A.C_Chance "draw" A.a_z49
 F_z62 : Fun K "__init__" "Asked.__init__" qlR A.a_z62 A.d_z62
 b_z62 : Binds K A.d_z62 ["self", "kind", "mark", "someone", "since", "of_search"] []
 me_z62 : Meth K A.C_Asked "__init__" A.a_z62
 F_z6 : Fun K "is_answered_by" "Asked.is_answered_by" s_z6 A.a_z6 A.d_z6
 b_z6 : Binds K A.d_z6 ["self", "letter", "address"] []
 me_z6 : Meth K A.C_Asked "is_answered_by" A.a_z6
 F_z39 : Fun K "is_late" "Asked.is_late" qlk A.a_z39 A.d_z39
 b_z39 : Binds K A.d_z39 ["self", "now"] []
 me_z39 : Meth K A.C_Asked "is_late" A.a_z39
 F_z81 : Fun K "__init__" "Post.__init__" qmg A.a_z81 A.d_z81
 b_z81 : Binds K A.d_z81 ["self", "own_name", "seed"] []
 me_z81 : Meth K A.C_Post "__init__" A.a_z81
 F_z93 : Fun K "put" "Post.put" qlM A.a_z93 A.d_z93
 b_z93 : Binds K A.d_z93 ["self", "address", "octets"] []
 me_z93 : Meth K A.C_Post "put" A.a_z93
 F_z0 : Fun K "first_with_address" "Post.first_with_address" s_z0 A.a_z0 A.d_z0
 b_z0 : Binds K A.d_z0 ["self"] []
 me_z0 : Meth K A.C_Post "first_with_address" A.a_z0
 F_z9 : Fun K "first_is_sent" "Post.first_is_sent" s_z9 A.a_z9 A.d_z9
 b_z9 : Binds K A.d_z9 ["self"] []
 me_z9 : Meth K A.C_Post "first_is_sent" A.a_z9
 F_z92 : Fun K "ask" "Post.ask" qlD A.a_z92 A.d_z92
 b_z92 : Binds K A.d_z92 ["self", "someone", "kind", "rest", "now", "of_search"] []
 me_z92 : Meth K A.C_Post "ask" A.a_z92
 F_z7 : Fun K "close_answered" "Post.close_answered" s_z7 A.a_z7 A.d_z7
 b_z7 : Binds K A.d_z7 ["self", "letter", "address"] []
 me_z7 : Meth K A.C_Post "close_answered" A.a_z7
 F_z60 : Fun K "close" "Post.close" qkz A.a_z60 A.d_z60
 b_z60 : Binds K A.d_z60 ["self", "asked"] []
 me_z60 : Meth K A.C_Post "close" A.a_z60
 F_z33 : Fun K "late_ones" "Post.late_ones" qk7 A.a_z33 A.d_z33
 b_z33 : Binds K A.d_z33 ["self", "now"] []
 me_z33 : Meth K A.C_Post "late_ones" A.a_z33
 F_z11 : Fun K "leave_search" "Post.leave_search" qms A.a_z11 A.d_z11
 b_z11 : Binds K A.d_z11 ["self"] []
 me_z11 : Meth K A.C_Post "leave_search" A.a_z11
 F_z58 : Fun K "__init__" "Found.__init__" qld A.a_z58 A.d_z58
 b_z58 : Binds K A.d_z58 ["self", "name", "address"] []
 me_z58 : Meth K A.C_Found "__init__" A.a_z58
 F_z44 : Fun K "__init__" "Outcome.__init__" qlh A.a_z44 A.d_z44
 b_z44 : Binds K A.d_z44 ["self", "people", "content"] []
 me_z44 : Meth K A.C_Outcome "__init__" A.a_z44
 F_z47 : Fun K "__init__" "Search.__init__" qlj A.a_z47 A.d_z47
 b_z47 : Binds K A.d_z47 ["self", "name", "for_value", "nearest"] []
 me_z47 : Meth K A.C_Search "__init__" A.a_z47
 F_z17 : Fun K "find_one" "Search.find_one" ql7 A.a_z17 A.d_z17
 b_z17 : Binds K A.d_z17 ["self", "someone"] []
 me_z17 : Meth K A.C_Search "find_one" A.a_z17
 l_z17 : A.d_z17.code = .ref A.c_z17
 h_z17 : PySem.W.codeHdIn K A.c_z17 A.t_z17 = true
 F_z19 : Fun K "found_by" "Search.found_by" qmr A.a_z19 A.d_z19
 b_z19 : Binds K A.d_z19 ["self", "name"] []
 me_z19 : Meth K A.C_Search "found_by" A.a_z19
 F_z26 : Fun K "counted" "Search.counted" qma A.a_z26 A.d_z26
 b_z26 : Binds K A.d_z26 ["self"] []
 me_z26 : Meth K A.C_Search "counted" A.a_z26
 F_z3 : Fun K "how_many_asked" "Search.how_many_asked" s_z3 A.a_z3 A.d_z3
 b_z3 : Binds K A.d_z3 ["self"] []
 me_z3 : Meth K A.C_Search "how_many_asked" A.a_z3
 F_z1 : Fun K "take_one_to_ask" "Search.take_one_to_ask" s_z1 A.a_z1 A.d_z1
 b_z1 : Binds K A.d_z1 ["self"] []
 me_z1 : Meth K A.C_Search "take_one_to_ask" A.a_z1
 F_z8 : Fun K "has_answered" "Search.has_answered" s_z8 A.a_z8 A.d_z8
 b_z8 : Binds K A.d_z8 ["self", "name"] []
 me_z8 : Meth K A.C_Search "has_answered" A.a_z8
 F_z2 : Fun K "has_been_silent" "Search.has_been_silent" s_z2 A.a_z2 A.d_z2
 b_z2 : Binds K A.d_z2 ["self", "name"] []
 me_z2 : Meth K A.C_Search "has_been_silent" A.a_z2
 F_z64 : Fun K "__init__" "Shelf.__init__" qkD A.a_z64 A.d_z64
 b_z64 : Binds K A.d_z64 ["self"] []
 me_z64 : Meth K A.C_Shelf "__init__" A.a_z64
 F_z68 : Fun K "keep" "Shelf.keep" qlK A.a_z68 A.d_z68
 b_z68 : Binds K A.d_z68 ["self", "name", "content", "now"] []
 me_z68 : Meth K A.C_Shelf "keep" A.a_z68
 F_z15 : Fun K "content_of" "Shelf.content_of" qk8 A.a_z15 A.d_z15
 b_z15 : Binds K A.d_z15 ["self", "name"] []
 me_z15 : Meth K A.C_Shelf "content_of" A.a_z15
 F_z28 : Fun K "drop_old" "Shelf.drop_old" qly A.a_z28 A.d_z28
 b_z28 : Binds K A.d_z28 ["self", "now"] []
 me_z28 : Meth K A.C_Shelf "drop_old" A.a_z28
 F_z96 : Fun K "room_of" "room_of" qle A.a_z96 A.d_z96
 b_z96 : Binds K A.d_z96 ["most"] []
 mg_z96 : mg "room_of" = some (.ref A.a_z96)
 F_z76 : Fun K "has_place" "has_place" qkw A.a_z76 A.d_z76
 b_z76 : Binds K A.d_z76 ["people", "k"] []
 mg_z76 : mg "has_place" = some (.ref A.a_z76)
 F_z87 : Fun K "__init__" "One.__init__" qlq A.a_z87 A.d_z87
 b_z87 : Binds K A.d_z87 ["self"] []
 me_z87 : Meth K A.C_One "__init__" A.a_z87
 F_z65 : Fun K "become" "One.become" qk3 A.a_z65 A.d_z65
 b_z65 : Binds K A.d_z65 ["self", "name", "seed"] []
 me_z65 : Meth K A.C_One "become" A.a_z65
 F_z79 : Fun K "begin" "One.begin" qme A.a_z79 A.d_z79
 b_z79 : Binds K A.d_z79 ["self"] []
 me_z79 : Meth K A.C_One "begin" A.a_z79
 F_z97 : Fun K "own" "One.own" qmj A.a_z97 A.d_z97
 b_z97 : Binds K A.d_z97 ["self", "name", "seed"] []
 me_z97 : Meth K A.C_One "own" A.a_z97
 F_z95 : Fun K "know" "One.know" qkB A.a_z95 A.d_z95
 b_z95 : Binds K A.d_z95 ["self", "name", "address"] []
 me_z95 : Meth K A.C_One "know" A.a_z95
 F_z91 : Fun K "come" "One.come" qlf A.a_z91 A.d_z91
 b_z91 : Binds K A.d_z91 ["self", "address", "octets"] []
 me_z91 : Meth K A.C_One "come" A.a_z91
 F_z86 : Fun K "time" "One.time" qlJ A.a_z86 A.d_z86
 b_z86 : Binds K A.d_z86 ["self", "milliseconds"] []
 me_z86 : Meth K A.C_One "time" A.a_z86
 F_z94 : Fun K "ping" "One.ping" qlg A.a_z94 A.d_z94
 b_z94 : Binds K A.d_z94 ["self", "name"] []
 me_z94 : Meth K A.C_One "ping" A.a_z94
 F_z59 : Fun K "search" "One.search" ql8 A.a_z59 A.d_z59
 b_z59 : Binds K A.d_z59 ["self", "name", "value"] []
 me_z59 : Meth K A.C_One "search" A.a_z59
 F_z66 : Fun K "result" "One.result" qmk A.a_z66 A.d_z66
 b_z66 : Binds K A.d_z66 ["self", "k"] []
 me_z66 : Meth K A.C_One "result" A.a_z66
 F_z73 : Fun K "value" "One.value" qlx A.a_z73 A.d_z73
 b_z73 : Binds K A.d_z73 ["self", "most"] []
 me_z73 : Meth K A.C_One "value" A.a_z73
 F_z74 : Fun K "store" "One.store" qk9 A.a_z74 A.d_z74
 b_z74 : Binds K A.d_z74 ["self", "name", "key", "content"] []
 me_z74 : Meth K A.C_One "store" A.a_z74
 F_z90 : Fun K "send" "One.send" qkE A.a_z90 A.d_z90
 b_z90 : Binds K A.d_z90 ["self", "most"] []
 me_z90 : Meth K A.C_One "send" A.a_z90
 F_z89 : Fun K "near" "One.near" qlY A.a_z89 A.d_z89
 b_z89 : Binds K A.d_z89 ["self", "name", "k"] []
 me_z89 : Meth K A.C_One "near" A.a_z89
 F_z14 : Fun K "has_most_open" "One.has_most_open" qkA A.a_z14 A.d_z14
 b_z14 : Binds K A.d_z14 ["self"] []
 me_z14 : Meth K A.C_One "has_most_open" A.a_z14
 F_z13 : Fun K "answer_letter" "One.answer_letter" qlT A.a_z13 A.d_z13
 b_z13 : Binds K A.d_z13 ["self", "letter", "address"] []
 me_z13 : Meth K A.C_One "answer_letter" A.a_z13
 F_z34 : Fun K "answer_to" "One.answer_to" qlr A.a_z34 A.d_z34
 b_z34 : Binds K A.d_z34 ["self", "letter"] []
 me_z34 : Meth K A.C_One "answer_to" A.a_z34
 F_z18 : Fun K "take_answer" "One.take_answer" qkH A.a_z18 A.d_z18
 b_z18 : Binds K A.d_z18 ["self", "letter", "address"] []
 me_z18 : Meth K A.C_One "take_answer" A.a_z18
 F_z55 : Fun K "give_up" "One.give_up" qlw A.a_z55 A.d_z55
 b_z55 : Binds K A.d_z55 ["self", "asked"] []
 me_z55 : Meth K A.C_One "give_up" A.a_z55
 F_z22 : Fun K "search_with" "One.search_with" qmq A.a_z22 A.d_z22
 b_z22 : Binds K A.d_z22 ["self", "letter"] []
 me_z22 : Meth K A.C_One "search_with" A.a_z22
 F_z75 : Fun K "go_on" "One.go_on" qlB A.a_z75 A.d_z75
 b_z75 : Binds K A.d_z75 ["self"] []
 me_z75 : Meth K A.C_One "go_on" A.a_z75
 F_z29 : Fun K "end_search" "One.end_search" qmv A.a_z29 A.d_z29
 b_z29 : Binds K A.d_z29 ["self", "outcome"] []
 me_z29 : Meth K A.C_One "end_search" A.a_z29
 F_z61 : Fun K "__init__" "Calls.__init__" qmo A.a_z61 A.d_z61
 b_z61 : Binds K A.d_z61 ["self", "numbers"] []
 me_z61 : Meth K A.C_Calls "__init__" A.a_z61
 F_z21 : Fun K "is_at_end" "Calls.is_at_end" ql0 A.a_z21 A.d_z21
 b_z21 : Binds K A.d_z21 ["self"] []
 me_z21 : Meth K A.C_Calls "is_at_end" A.a_z21
 F_z12 : Fun K "take_number" "Calls.take_number" qlp A.a_z12 A.d_z12
 b_z12 : Binds K A.d_z12 ["self"] []
 me_z12 : Meth K A.C_Calls "take_number" A.a_z12
 F_z30 : Fun K "take_row" "Calls.take_row" qlS A.a_z30 A.d_z30
 b_z30 : Binds K A.d_z30 ["self"] []
 me_z30 : Meth K A.C_Calls "take_row" A.a_z30
 F_z24 : Fun K "take_name" "Calls.take_name" qli A.a_z24 A.d_z24
 b_z24 : Binds K A.d_z24 ["self"] []
 me_z24 : Meth K A.C_Calls "take_name" A.a_z24
 F_z63 : Fun K "call_begin" "call_begin" qmt A.a_z63 A.d_z63
 b_z63 : Binds K A.d_z63 ["one", "calls"] []
 mg_z63 : mg "call_begin" = some (.ref A.a_z63)
 F_z88 : Fun K "call_own" "call_own" qk2 A.a_z88 A.d_z88
 b_z88 : Binds K A.d_z88 ["one", "calls"] []
 mg_z88 : mg "call_own" = some (.ref A.a_z88)
 F_z84 : Fun K "call_know" "call_know" qkL A.a_z84 A.d_z84
 b_z84 : Binds K A.d_z84 ["one", "calls"] []
 mg_z84 : mg "call_know" = some (.ref A.a_z84)
 F_z85 : Fun K "call_come" "call_come" qkG A.a_z85 A.d_z85
 b_z85 : Binds K A.d_z85 ["one", "calls"] []
 mg_z85 : mg "call_come" = some (.ref A.a_z85)
 F_z77 : Fun K "call_time" "call_time" qlZ A.a_z77 A.d_z77
 b_z77 : Binds K A.d_z77 ["one", "calls"] []
 mg_z77 : mg "call_time" = some (.ref A.a_z77)
 F_z83 : Fun K "call_ping" "call_ping" qla A.a_z83 A.d_z83
 b_z83 : Binds K A.d_z83 ["one", "calls"] []
 mg_z83 : mg "call_ping" = some (.ref A.a_z83)
 F_z51 : Fun K "call_search" "call_search" qlG A.a_z51 A.d_z51
 b_z51 : Binds K A.d_z51 ["one", "calls"] []
 mg_z51 : mg "call_search" = some (.ref A.a_z51)
 F_z52 : Fun K "call_result" "call_result" qkW A.a_z52 A.d_z52
 b_z52 : Binds K A.d_z52 ["one", "calls"] []
 mg_z52 : mg "call_result" = some (.ref A.a_z52)
 F_z69 : Fun K "call_value" "call_value" ql9 A.a_z69 A.d_z69
 b_z69 : Binds K A.d_z69 ["one", "calls"] []
 mg_z69 : mg "call_value" = some (.ref A.a_z69)
 F_z67 : Fun K "call_store" "call_store" qkR A.a_z67 A.d_z67
 b_z67 : Binds K A.d_z67 ["one", "calls"] []
 mg_z67 : mg "call_store" = some (.ref A.a_z67)
 F_z72 : Fun K "call_send" "call_send" qlQ A.a_z72 A.d_z72
 b_z72 : Binds K A.d_z72 ["one", "calls"] []
 mg_z72 : mg "call_send" = some (.ref A.a_z72)
 F_z71 : Fun K "call_near" "call_near" qkN A.a_z71 A.d_z71
 b_z71 : Binds K A.d_z71 ["one", "calls"] []
 mg_z71 : mg "call_near" = some (.ref A.a_z71)
 F_z98 : Fun K "answers" "answers" qlU A.a_z98 A.d_z98
 b_z98 : Binds K A.d_z98 ["calls"] []
 mg_z98 : mg "answers" = some (.ref A.a_z98)
 F_z70 : Fun K "answers_of" "answers_of" ql1 A.a_z70 A.d_z70
 b_z70 : Binds K A.d_z70 ["one", "calls"] []
 mg_z70 : mg "answers_of" = some (.ref A.a_z70)
 c_BUCKETS : ∃ t, mg "BUCKETS" = some (.int 160 t)
 c_MOST_KNOWN : ∃ t, mg "MOST_KNOWN" = some (.int 8 t)
 c_MOST_WAITING : ∃ t, mg "MOST_WAITING" = some (.int 8 t)
 c_MOST_NEAREST : ∃ t, mg "MOST_NEAREST" = some (.int 8 t)
 c_ARE_YOU_THERE : ∃ t, mg "ARE_YOU_THERE" = some (.int 0 t)
 c_I_AM_HERE : ∃ t, mg "I_AM_HERE" = some (.int 1 t)
 c_WHO_IS_NEAR : ∃ t, mg "WHO_IS_NEAR" = some (.int 2 t)
 c_THESE_ARE : ∃ t, mg "THESE_ARE" = some (.int 3 t)
 c_VALUE_WANTED : ∃ t, mg "VALUE_WANTED" = some (.int 4 t)
 c_THE_VALUE : ∃ t, mg "THE_VALUE" = some (.int 5 t)
 c_KEEP_THIS : ∃ t, mg "KEEP_THIS" = some (.int 6 t)
 c_IT_IS_KEPT : ∃ t, mg "IT_IS_KEPT" = some (.int 7 t)
 c_MARK_OCTETS : ∃ t, mg "MARK_OCTETS" = some (.int 8 t)
 c_NAME_OCTETS : ∃ t, mg "NAME_OCTETS" = some (.int 20 t)
 c_ADDRESS_OCTETS : ∃ t, mg "ADDRESS_OCTETS" = some (.int 6 t)
 c_LENGTH_OCTETS : ∃ t, mg "LENGTH_OCTETS" = some (.int 2 t)
 c_MARK_END : ∃ t, mg "MARK_END" = some (.int 9 t)
 c_HEAD_OCTETS : ∃ t, mg "HEAD_OCTETS" = some (.int 29 t)
 c_SOMEONE_OCTETS : ∃ t, mg "SOMEONE_OCTETS" = some (.int 26 t)
 c_MOST_PEOPLE : ∃ t, mg "MOST_PEOPLE" = some (.int 8 t)
 c_LONGEST_CONTENT : ∃ t, mg "LONGEST_CONTENT" = some (.int 512 t)
 c_STATES : ∃ t, mg "STATES" = some (.int 18446744073709551616 t)
 c_STEP : ∃ t, mg "STEP" = some (.int 11400714819323198485 t)
 c_FIRST_FACTOR : ∃ t, mg "FIRST_FACTOR" = some (.int 13787848793156543929 t)
 c_SECOND_FACTOR : ∃ t, mg "SECOND_FACTOR" = some (.int 10723151780598845931 t)
 c_MOST_OUTGOING : ∃ t, mg "MOST_OUTGOING" = some (.int 256 t)
 c_LATE_AFTER : ∃ t, mg "LATE_AFTER" = some (.int 1000 t)
 c_NOT_ASKED : ∃ t, mg "NOT_ASKED" = some (.int 0 t)
 c_ASKED : ∃ t, mg "ASKED" = some (.int 1 t)
 c_ANSWERED : ∃ t, mg "ANSWERED" = some (.int 2 t)
 c_SILENT : ∃ t, mg "SILENT" = some (.int 3 t)
 c_MOST_COUNTED : ∃ t, mg "MOST_COUNTED" = some (.int 8 t)
 c_MOST_ASKED : ∃ t, mg "MOST_ASKED" = some (.int 3 t)
 c_MOST_FOUND : ∃ t, mg "MOST_FOUND" = some (.int 64 t)
 c_MOST_KEPT : ∃ t, mg "MOST_KEPT" = some (.int 128 t)
 c_KEPT_FOR : ∃ t, mg "KEPT_FOR" = some (.int 3600000 t)
 c_ADDRESSES : ∃ t, mg "ADDRESSES" = some (.int 281474976710656 t)
 c_LONGEST_LETTER : ∃ t, mg "LONGEST_LETTER" = some (.int 1024 t)
 c_LONGEST_TIME : ∃ t, mg "LONGEST_TIME" = some (.int 10000000 t)
 c_MOST_OPEN : ∃ t, mg "MOST_OPEN" = some (.int 64 t)
 c_MOST_ROOM : ∃ t, mg "MOST_ROOM" = some (.int 4096 t)
 g_READERS : mg "READERS" = some (.ref A.g_READERS)
 g_ANSWERING_KINDS : mg "ANSWERING_KINDS" = some (.ref A.g_ANSWERING_KINDS)
 g_CALLS : mg "CALLS" = some (.ref A.g_CALLS)
 g_ASKING_KINDS : mg "ASKING_KINDS" = some (.ref A.g_ASKING_KINDS)
 k_READERS : KDict K A.g_READERS [(0, A.a_z43), (1, A.a_z43), (2, A.a_z78), (3, A.a_z50), (4, A.a_z78), (5, A.a_z42), (6, A.a_z4), (7, A.a_z43)]
 k_ANSWERING_KINDS : KDict K A.g_ANSWERING_KINDS [(0, A.t_ANSWERING_KINDS_0), (2, A.t_ANSWERING_KINDS_2), (4, A.t_ANSWERING_KINDS_4), (6, A.t_ANSWERING_KINDS_6)]
 u_ANSWERING_KINDS_0 : ∀ H : Hp, SqT K H A.t_ANSWERING_KINDS_0 [.int 1]
 u_ANSWERING_KINDS_2 : ∀ H : Hp, SqT K H A.t_ANSWERING_KINDS_2 [.int 3, .int 5]
 u_ANSWERING_KINDS_4 : ∀ H : Hp, SqT K H A.t_ANSWERING_KINDS_4 [.int 3, .int 5]
 u_ANSWERING_KINDS_6 : ∀ H : Hp, SqT K H A.t_ANSWERING_KINDS_6 [.int 7]
 k_CALLS : KDict K A.g_CALLS [(0, A.a_z63), (1, A.a_z88), (2, A.a_z84), (3, A.a_z85), (4, A.a_z77), (5, A.a_z83), (6, A.a_z51), (7, A.a_z52), (8, A.a_z69), (9, A.a_z67), (10, A.a_z72), (11, A.a_z71)]
 u_ASKING_KINDS : ∀ H : Hp, SqT K H A.g_ASKING_KINDS [.int 0, .int 2, .int 4, .int 6]
 n_len : mg "len" = none
 n_list : mg "list" = none
 n_sorted : mg "sorted" = none
 n_range : mg "range" = none
def qi6 : Pos := ⟨93, 36, 93, 71⟩
def qj5 : Pos := ⟨280, 44, 280, 80⟩
theorem fsc {N P : List Str} {sc : Scope} (h1 : sc.kind = .function := by rfl) (h2 : sc.isCoroutine = false := by rfl) (h3 : sc.isGenerator = false := by rfl) (h4 : N.Nodup := by decide +kernel) (h5 : N.take P.length = P := by rfl) (h6 : ∀ x ∈ P, sc.names.lookup x = some .local \/ sc.names.lookup x = some .cell := by decide +kernel) (h7 : ∀ y ∈ sc.names, y.2 ≠ .free := by decide +kernel) : FnScope N P sc := ⟨h1, h2, h3, h4, h5, h6, h7⟩
theorem qjO : FnScope ["octets", "number", "octet"] ["octets"] (defScope qmi) := fsc
theorem qjF : FnScope ["number", "how_many", "octets", "rest"] ["number", "how_many"] (defScope qkY) := fsc
theorem qi4 : FnScope ["self", "name", "address"] ["self", "name", "address"] (defScope qlO) := fsc
theorem qiC : FnScope ["self"] ["self"] (defScope qll) := fsc
theorem qiH : FnScope ["self", "name", "someone"] ["self", "name"] (defScope qlt) := fsc
theorem qiG : FnScope ["self", "name", "address", "someone"] ["self", "name", "address"] (defScope qmw) := fsc
theorem sc_z5 : FnScope ["self", "name", "address", "other"] ["self", "name", "address"] (defScope s_z5) := fsc
theorem qjL : FnScope ["self", "name", "address", "someone"] ["self", "name", "address"] (defScope qlo) := fsc
theorem qiX : FnScope ["self", "own_name", "place"] ["self", "own_name"] (defScope qmp) := fsc
theorem qiT : FnScope ["self", "name"] ["self", "name"] (defScope qlv) := fsc
theorem qiA : FnScope ["self", "name"] ["self", "name"] (defScope ql4) := fsc
theorem qjX : FnScope ["self", "name", "address"] ["self", "name", "address"] (defScope qlH) := fsc
theorem qjy : FnScope ["self", "name", "address"] ["self", "name", "address"] (defScope qkF) := fsc
theorem qkn : FnScope ["self", "name", "everyone", "bucket"] ["self", "name"] (defScope qlu) := fsc
theorem qjh : FnScope ["self", "kind", "mark", "sender"] ["self", "kind", "mark", "sender"] (defScope qlF) := fsc
theorem qi3 : FnScope ["letter", "rest"] ["letter", "rest"] (defScope qmf) := fsc
theorem qiI : FnScope ["letter", "rest"] ["letter", "rest"] (defScope qlP) := fsc
theorem qj1 : FnScope ["letter", "rest", "k"] ["letter", "rest"] (defScope qky) := fsc
theorem qjc : FnScope ["octets", "start", "name_end", "address_end"] ["octets", "start"] (defScope ql3) := fsc
theorem qiE : FnScope ["letter", "rest", "length"] ["letter", "rest"] (defScope qls) := fsc
theorem sc_z4 : FnScope ["letter", "rest"] ["letter", "rest"] (defScope s_z4) := fsc
theorem qj9 : FnScope ["octets", "letter", "read_rest"] ["octets"] (defScope qkZ) := fsc
theorem qjk : FnScope ["kind", "mark", "sender", "rest"] ["kind", "mark", "sender", "rest"] (defScope qlc) := fsc
theorem qiR : FnScope ["name"] ["name"] (defScope qmn) := fsc
theorem qi2 : FnScope ["address"] ["address"] (defScope qlX) := fsc
theorem qiL : FnScope ["people", "octets", "someone"] ["people"] (defScope qmd) := fsc
theorem qi7 : FnScope ["someone"] ["someone"] (defScope ql6) := fsc
theorem qiM : FnScope ["content"] ["content"] (defScope qk0) := fsc
theorem qjo : FnScope ["self", "seed"] ["self", "seed"] (defScope qmh) := fsc
theorem qju : FnScope ["self", "z", "y", "x"] ["self"] (defScope qlW) := fsc
theorem qi0 : FnScope ["self", "kind", "mark", "someone", "since", "of_search"] ["self", "kind", "mark", "someone", "since", "of_search"] (defScope qlR) := fsc
theorem sc_z6 : FnScope ["self", "letter", "address"] ["self", "letter", "address"] (defScope s_z6) := fsc
theorem qi1 : FnScope ["self", "now"] ["self", "now"] (defScope qlk) := fsc
theorem qjI : FnScope ["self", "own_name", "seed"] ["self", "own_name", "seed"] (defScope qmg) := fsc
theorem qjR : FnScope ["self", "address", "octets"] ["self", "address", "octets"] (defScope qlM) := fsc
theorem sc_z0 : FnScope ["self"] ["self"] (defScope s_z0) := fsc
theorem sc_z9 : FnScope ["self"] ["self"] (defScope s_z9) := fsc
theorem qjD : FnScope ["self", "someone", "kind", "rest", "now", "of_search", "mark"] ["self", "someone", "kind", "rest", "now", "of_search"] (defScope qlD) := fsc
theorem sc_z7 : FnScope ["self", "letter", "address", "asked"] ["self", "letter", "address"] (defScope s_z7) := fsc
theorem qjJ : FnScope ["self", "asked"] ["self", "asked"] (defScope qkz) := fsc
theorem qkb : FnScope ["self", "now", "asked"] ["self", "now"] (defScope qk7) := fsc
theorem qjT : FnScope ["self", "asked"] ["self"] (defScope qms) := fsc
theorem qjv : FnScope ["self", "name", "address"] ["self", "name", "address"] (defScope qld) := fsc
theorem qjq : FnScope ["self", "people", "content"] ["self", "people", "content"] (defScope qlh) := fsc
theorem qkh : FnScope ["self", "name", "for_value", "nearest", "someone"] ["self", "name", "for_value", "nearest"] (defScope qlj) := fsc
theorem qkd : FnScope ["self", "someone"] ["self", "someone"] (defScope ql7) := fsc
theorem qjn : FnScope ["self", "name", "other"] ["self", "name"] (defScope qmr) := fsc
theorem qj0 : FnScope ["self", "other"] ["self"] (defScope qma) := fsc
theorem sc_z3 : FnScope ["self", "other"] ["self"] (defScope s_z3) := fsc
theorem sc_z1 : FnScope ["self", "other"] ["self"] (defScope s_z1) := fsc
theorem sc_z8 : FnScope ["self", "name", "other"] ["self", "name"] (defScope s_z8) := fsc
theorem sc_z2 : FnScope ["self", "name", "other"] ["self", "name"] (defScope s_z2) := fsc
theorem qiF : FnScope ["self"] ["self"] (defScope qkD) := fsc
theorem qiK : FnScope ["self", "name", "content", "now"] ["self", "name", "content", "now"] (defScope qlK) := fsc
theorem qjb : FnScope ["self", "name"] ["self", "name"] (defScope qk8) := fsc
theorem qiW : FnScope ["self", "now", "name"] ["self", "now"] (defScope qly) := fsc
theorem qj2 : FnScope ["most"] ["most"] (defScope qle) := fsc
theorem qjr : FnScope ["people", "k"] ["people", "k"] (defScope qkw) := fsc
theorem qjY : FnScope ["self"] ["self"] (defScope qlq) := fsc
theorem qjt : FnScope ["self", "name", "seed"] ["self", "name", "seed"] (defScope qk3) := fsc
theorem qjm : FnScope ["self"] ["self"] (defScope qme) := fsc
theorem qiS : FnScope ["self", "name", "seed"] ["self", "name", "seed"] (defScope qmj) := fsc
theorem qke : FnScope ["self", "name", "address"] ["self", "name", "address"] (defScope qkB) := fsc
theorem qjC : FnScope ["self", "address", "octets", "letter"] ["self", "address", "octets"] (defScope qlf) := fsc
theorem qje : FnScope ["self", "milliseconds", "asked"] ["self", "milliseconds"] (defScope qlJ) := fsc
theorem qiD : FnScope ["self", "name", "someone"] ["self", "name"] (defScope qlg) := fsc
theorem qjG : FnScope ["self", "name", "value", "nearest"] ["self", "name", "value"] (defScope ql8) := fsc
theorem qjw : FnScope ["self", "k", "people"] ["self", "k"] (defScope qmk) := fsc
theorem qjS : FnScope ["self", "most", "content"] ["self", "most"] (defScope qlx) := fsc
theorem qiZ : FnScope ["self", "name", "key", "content", "someone"] ["self", "name", "key", "content"] (defScope qk9) := fsc
theorem qkc : FnScope ["self", "most", "octets"] ["self", "most"] (defScope qkE) := fsc
theorem qjf : FnScope ["self", "name", "k", "people"] ["self", "name", "k"] (defScope qlY) := fsc
theorem qiU : FnScope ["self"] ["self"] (defScope qkA) := fsc
theorem qjs : FnScope ["self", "letter", "address", "octets"] ["self", "letter", "address"] (defScope qlT) := fsc
theorem qjp : FnScope ["self", "letter", "content", "people"] ["self", "letter"] (defScope qlr) := fsc
theorem qiQ : FnScope ["self", "letter", "address", "asked"] ["self", "letter", "address"] (defScope qkH) := fsc
theorem qi5 : FnScope ["self", "asked"] ["self", "asked"] (defScope qlw) := fsc
theorem qj6 : FnScope ["self", "letter", "someone"] ["self", "letter"] (defScope qmq) := fsc
theorem qj8 : FnScope ["self", "kind", "found"] ["self"] (defScope qlB) := fsc
theorem qkt : FnScope ["self", "outcome"] ["self", "outcome"] (defScope qmv) := fsc
theorem qka : FnScope ["self", "numbers"] ["self", "numbers"] (defScope qmo) := fsc
theorem qku : FnScope ["self"] ["self"] (defScope ql0) := fsc
theorem qjg : FnScope ["self", "number"] ["self"] (defScope qlp) := fsc
theorem qj3 : FnScope ["self", "how_many", "start"] ["self"] (defScope qlS) := fsc
theorem qkl : FnScope ["self"] ["self"] (defScope qli) := fsc
theorem qkr : FnScope ["one", "calls"] ["one", "calls"] (defScope qmt) := fsc
theorem qjW : FnScope ["one", "calls", "seed"] ["one", "calls"] (defScope qk2) := fsc
theorem qi8 : FnScope ["one", "calls", "address"] ["one", "calls"] (defScope qkL) := fsc
theorem qiY : FnScope ["one", "calls", "address"] ["one", "calls"] (defScope qkG) := fsc
theorem qjj : FnScope ["one", "calls"] ["one", "calls"] (defScope qlZ) := fsc
theorem qjB : FnScope ["one", "calls"] ["one", "calls"] (defScope qla) := fsc
theorem qkj : FnScope ["one", "calls", "value"] ["one", "calls"] (defScope qlG) := fsc
theorem qiV : FnScope ["one", "calls"] ["one", "calls"] (defScope qkW) := fsc
theorem qkq : FnScope ["one", "calls"] ["one", "calls"] (defScope ql9) := fsc
theorem qjP : FnScope ["one", "calls", "name", "key"] ["one", "calls"] (defScope qkR) := fsc
theorem qiB : FnScope ["one", "calls"] ["one", "calls"] (defScope qlQ) := fsc
theorem qjA : FnScope ["one", "calls", "k"] ["one", "calls"] (defScope qkN) := fsc
theorem qjx : FnScope ["calls"] ["calls"] (defScope qlU) := fsc
theorem qiJ : FnScope ["one", "calls", "given", "left", "make_call", "answer"] ["one", "calls"] (defScope ql1) := fsc
def idx (n : Str) : List Str -> Option Nat
 | [] => none
 | m :: r => if m = n then some 0 else (idx n r).map (· + 1)
theorem qc3 {n : Str} : ∀ {ns : List Str} {vs : List V} {i : Nat}, idx n ns = some i -> (ns.zip vs).lookup n = vs[i]?
 | [], _, _, h => by cases h
 | m :: ns, [], i, h => by simp
 | m :: ns, v :: vs, i, h => by
  unfold idx at h
  rw [List.zip_cons_cons, List.lookup_cons]
  by_cases e : m = n
  ·subst e
   rw [if_pos rfl] at h
   cases h
   simp
  ·rw [if_neg e] at h
   obtain ⟨j, hj, rfl⟩ := Option.map_eq_some_iff.mp h
   have e' : (n == m) = false := beq_eq_false_iff_ne.mpr fun q => e q.symm
   rw [e']
   simpa using qc3 (vs := vs) hj
theorem qez {n : Str} : ∀ {ns : List Str} {vs : List V}, idx n ns = none -> (ns.zip vs).lookup n = none
 | [], _, _ => by simp
 | m :: ns, [], _ => by simp
 | m :: ns, v :: vs, h => by
  unfold idx at h
  by_cases e : m = n
  ·rw [if_pos e] at h; cases h
  ·rw [if_neg e] at h
   rw [List.zip_cons_cons, List.lookup_cons]
   have e' : (n == m) = false := beq_eq_false_iff_ne.mpr fun q => e q.symm
   rw [e']
   exact qez (Option.map_eq_none_iff.mp h)
theorem lz {n : Str} {ns : List Str} {vs : List V} (i : Nat) (h : idx n ns = some i := by decide +kernel) : (ns.zip vs).lookup n = vs[i]? := qc3 h
theorem ln0 {n : Str} {ns : List Str} {vs : List V} (h : idx n ns = none := by decide +kernel) : (ns.zip vs).lookup n = none := qez h
theorem _root_.L2.Room.md {k k' : Nat} {A : Around} (r : Room k A) (h : k' <= k := by decide) : Room k' A := r.mono h
theorem qfK {n : Str} {v : V} : ∀ {ns : List Str} {vs : List V} {i : Nat}, idx n ns = some i -> i < vs.length -> putF n v (ns.zip vs) = ns.zip (vs.set i v)
 | [], _, _, h, _ => by cases h
 | m :: ns, [], i, h, hl => by simp at hl
 | m :: ns, u :: vs, i, h, hl => by
  unfold idx at h
  rw [List.zip_cons_cons]
  unfold putF
  by_cases e : m = n
  ·rw [if_pos e] at h
   cases h
   rw [if_pos e, List.set_cons_zero, List.zip_cons_cons, e]
  ·rw [if_neg e] at h
   obtain ⟨j, hj, rfl⟩ := Option.map_eq_some_iff.mp h
   rw [if_neg e, List.set_cons_succ, List.zip_cons_cons, qfK hj (by simpa using hl)]
theorem qaG {n : Str} {v : V} : ∀ {ns : List Str} {vs : List V}, idx n ns = none -> ns.length = vs.length -> putF n v (ns.zip vs) = (ns ++ [n]).zip (vs ++ [v])
 | [], [], _, _ => rfl
 | [], _ :: _, _, h => by cases h
 | m :: ns, [], _, h => by cases h
 | m :: ns, u :: vs, h, hl => by
  unfold idx at h
  by_cases e : m = n
  ·rw [if_pos e] at h; cases h
  ·rw [if_neg e] at h
   rw [List.zip_cons_cons]
   unfold putF
   rw [if_neg e, qaG (Option.map_eq_none_iff.mp h) (by simpa using hl)]
   rfl
def Ob (C : Addr) (ns : List Str) (vs : List V) (a : Addr) : As := fun h => ∃ dx, Pt a (.ins C dx (ns.zip vs)) h
def IsOb (H : Hp) (C : Addr) (ns : List Str) (vs : List V) (a : Addr) : Prop := ∃ dx, H a = some (.ins C dx (ns.zip vs))
section
variable {H0 h0 H : Hp} {l : List As} {i : Nat} {a C dx : Addr} {ns : List Str} {vs : List V} {o : HO} {P : As}
theorem Sl.ob (c : Sl H0 h0 H l) (i : Nat) (e : l[i]? = some (Ob C ns vs a)) : IsOb H C ns vs a := by
 obtain ⟨h1, ⟨dx, p⟩, s⟩ := (c.pull i e).head
 exact ⟨dx, s a _ (qeK p)⟩
theorem Sl.obset {f : Str} {v : V} {j : Nat} (c : Sl H0 h0 H l) (i : Nat) (e : l[i]? = some (Ob C ns vs a)) (hd : H a = some (.ins C dx (ns.zip vs))) (hj : idx f ns = some j) (hl : j < vs.length) :
  Sl H0 h0 (upd H a (.ins C dx (putF f v (ns.zip vs)))) (l.set i (Ob C ns (vs.set j v) a)) := by
 obtain ⟨dx', c1⟩ := (c.pull i e).ex0
 have : H a = some (.ins C dx' (ns.zip vs)) := c1.get 0 rfl
 rw [hd] at this
 cases this
 refine ((c1.set0 (o' := .ins C dx (putF f v (ns.zip vs)))).imp0 (P' := Ob C ns (vs.set j v) a) fun h p => ⟨dx, ?_⟩).perm (qbe e).symm
 rw [qfK hj hl] at p
 exact p
theorem Sl.fin (c : Sl H0 h0 H (P :: l)) : ∃ h', P h' /\ Sb h' H /\ Fm H0 h0 H h' := by
 obtain ⟨h, s, ⟨h1, h2, d, rfl, p, q⟩, f⟩ := c
 exact ⟨h1, p, s.left, f.keep, fun b n => f.news b fun z => n (qaT.mp z).1⟩
theorem Sl.same {H' : Hp} (c : Sl H0 h0 H l) (s : Same H H') (n : H a = none) (e : H' a = some o) : Sl H0 h0 H' (Pt a o :: l) := by
 obtain ⟨h, sb, q, f⟩ := c
 have hn : h a = none := by
  cases z : h a with
  | none => rfl
  | some u => rw [sb a u z] at n; cases n
 have dj : Dj (cel a o) h := by
  intro b
  by_cases z : b = a
  ·subst z; exact .inr hn
  ·exact .inl (by unfold cel; rw [if_neg z])
 refine ⟨uni (cel a o) h, fun b u z => ?_, ⟨cel a o, h, dj, rfl, rfl, q⟩, f.trans ⟨fun b u hb _ => s b u hb, fun b hb => ?_⟩⟩
 ·by_cases y : b = a
  ·subst y
   rw [qd2 (show cel b o b = some o by unfold cel; rw [if_pos rfl])] at z
   cases z; exact e
  ·rw [qeN (show cel a o b = none by unfold cel; rw [if_neg y])] at z
   exact s b u (sb b u z)
 ·by_cases y : b = a
  ·subst y; exact .inr n
  ·rw [qeN (show cel a o b = none by unfold cel; rw [if_neg y])] at hb
   exact .inl hb
theorem Sl.keep {H' : Hp} (c : Sl H0 h0 H l) (s : Same H H') : Sl H0 h0 H' l := by
 obtain ⟨h, sb, q, f⟩ := c
 exact ⟨h, fun b u z => s b u (sb b u z), q, f.trans ⟨fun b u hb _ => s b u hb, fun b hb => .inl hb⟩⟩
end
theorem qal {H : Hp} {p : Addr} {o : HO} (n : H p = none) : Same H (upd H p o) := fun b u e => by rw [qaq (qat e n)]; exact e
theorem qhU {H H' : Hp} {p : Addr} {o : HO} (s : Same H H') (n : H p = none) : Same H (L2.upd H' p o) := fun b u e => by rw [qaq (qat e n)]; exact s b u e
def Nx (n : Nat) (Pv : Nat -> L2.St -> Hp -> Prop) (i : Nat) (σ : L2.St) (H : Hp) : Prop := ∃ m', m' < n - i /\ ∃ i', i' <= n /\ m' = n - i' /\ Pv i' σ H
theorem qd7 {c : TT} {tb : TS} {D : Ends} {σ : L2.St} {H : Hp} (n : Nat) (Pv : Nat -> L2.St -> Hp -> Prop) (h0 : Pv 0 σ H)
  (hs : ∀ i σ H, i <= n -> Pv i σ H -> c σ H fun b H1 => if b = true then ∃ N : L2.St -> Hp -> Prop, (∀ σ' H', N σ' H' -> Nx n Pv i σ' H') /\ tb { D with nx := N, ct := N, bk := D.nx } σ H1 else D.nx σ H1) : tWhile c tb D σ H := by
 refine ⟨fun m σ H => ∃ i, i <= n /\ m = n - i /\ Pv i σ H, ⟨_, 0, Nat.zero_le _, rfl, h0⟩, ?_⟩
 rintro m σ H ⟨i, hi, rfl, p⟩
 exact hs i σ H hi p
theorem qkJ {n i : Nat} {Pv : Nat -> L2.St -> Hp -> Prop} (h : i < n) : ∀ σ H, Pv (i + 1) σ H -> Nx n Pv i σ H := fun _ _ p => ⟨n - (i + 1), by omega, i + 1, h, rfl, p⟩
def iV (n : Nat) : V := V.int (n : Int)
def IsL (H : Hp) (a : Addr) (ns : List Nat) : Prop := H a = some (.lst (ns.map iV))
section
variable {P : Program} {w : World} {K : PySem.W.Frag} {mg : Str -> Option Value} {base : Heap} {A : Adr}
def sp_z80 (K : PySem.W.Frag) : Sp := fun vs H Q _ => ∃ (a : Addr) (ns : List Nat), vs = [.ref a] /\ SqL K H a (ns.map iV) /\ Q (iV (num ns)) H
theorem qcV (T : Txt K mg A) : FnOk P w K mg base CX0 1 A.a_z80 A.d_z80 ["octets"] (sp_z80 K) := by
 refine T.F_z80.ok qjO ?_ ?_
 ·rintro _ _ _ _ ⟨a, ns, rfl, _⟩
  rfl
 ·rintro cdv Ar outer s H _ Q E hr ⟨a, ns, rfl, hS, k⟩
  have nd := qjO.nd
  refine ⟨_, (qab (qax (i := 1) nd rfl (Or.inl rfl) qan)
   (qab (qbW PassesOwn.never rfl (qaU (pv 0)) (qaN (i := 2) nd rfl (Or.inl rfl)) (qac (qax (i := 1) nd rfl (Or.inl rfl) (qaK qce (qaK qeI (pv 1) qan) (pv 2)))))
   (qac (qag (pv 1))))), ?_⟩
  refine ⟨_, rfl, a, rfl, ⟨_, hS⟩, qaY (K := K) (a := a) (xs := ns.map iV) (fun i σ H' => H' = H /\ ∃ v, σ = [some (.ref a), some (iV (num (ns.take i))), v]) ⟨rfl, none, rfl⟩ (fun i σ H' _ h => h.1 ▸ hS) ?_ ?_⟩
  ·rintro i y σ H' hi ⟨rfl, v, rfl⟩
   rw [List.getElem?_map] at hi
   cases e : ns[i]? with
   | none => rw [e] at hi; cases hi
   | some n =>
    rw [e] at hi
    cases hi
    refine ⟨_, rfl, _, _, rfl, rfl, .inr ⟨by decide, by decide⟩, _, rfl, _, _, rfl, rfl, rfl, some (iV n), ?_⟩
    have e1 : num (ns.take (i + 1)) = num (ns.take i) * 256 + n := by
     rw [List.take_add_one, e]
     show num (ns.take i ++ [n]) = _
     rw [qfS, Nat.mul_comm]
    rw [e1]
    rfl
  ·rintro σ H' ⟨rfl, v, rfl⟩
   refine ⟨_, rfl, ?_⟩
   rw [List.length_map, List.take_length]
   exact k
def sp_z82 : Sp := fun vs H Q _ => ∃ (x n : Nat), vs = [iV x, iV n] /\ n <= 1000 /\ ∀ H' p, Same H H' -> H p = none -> IsL H' p (be n x) -> Q (.ref p) H'
theorem qfZ (T : Txt K mg A) : FnOk P w K mg base CX0 1 A.a_z82 A.d_z82 ["number", "how_many"] (sp_z82) := by
 refine T.F_z82.ok qjF ?_ ?_
 ·rintro _ _ _ _ ⟨x, n, rfl, _⟩
  rfl
 ·rintro cdv Ar outer s H _ Q E hr ⟨x, n, rfl, hn, k⟩
  have nd := qjF.nd
  refine ⟨_, (qab (qax (i := 2) nd rfl (Or.inl rfl) (qaB qad))
   (qab (qax (i := 3) nd rfl (Or.inl rfl) (pv 0))
   (qab (qd3 PassesOwn.never (qar qdP (qav qah (by rfl) T.n_len PySem.boot_len (qaa (pv 2) qad)) (pv 1) (nomark _)) (qab (qap (qb4 PySem.F.plainAttrs_list PySem.F.slot_list_append PySem.F.type_list_append qa3 (pv 2) (qaa (qaK qfM (pv 3) qan) qad)))
   (qac (qax (i := 3) nd rfl (Or.inl rfl) (qaK ql5 (pv 3) qan)))))
   (qab (qap (qhz PySem.F.plainAttrs_list PySem.F.slot_list_reverse PySem.F.type_list_reverse qgz (pv 2)))
   (qac (qag (pv 2))))))), ?_⟩
  refine ⟨Nat.zero_le _, fun p hp => ⟨_, rfl, ?_⟩⟩
  refine qd7 n (fun i σ H' => σ = [some (iV x), some (iV n), some (.ref p), some (iV (x / 256 ^ i))] /\ H' = upd H p (.lst (((List.range i).map fun j => x / 256 ^ j % 256).map iV))) ⟨by rw [Nat.pow_zero, Nat.div_one]; rfl, rfl⟩ ?_
  rintro i σ H' hi ⟨rfl, rfl⟩
  refine ⟨_, rfl, p, _, rfl, .inl (SqL.of qaf), _, rfl, _, _, rfl, rfl, _, rfl, ?_⟩
  refine ite2 (fun hc => ?_) fun hc => ?_
  ·have hlt : i < n := by
    have := of_decide_eq_true hc
    simp at this
    omega
   refine ⟨_, qkJ hlt, _, rfl, .inl ⟨rfl, _, SqL.of qaf⟩, _, rfl, _, _, rfl, rfl, (by show (0 : Int) < 256; decide), p, _, _, rfl, rfl, qaf, ?_, _, rfl, _, _, rfl, rfl, ⟨by decide, by decide⟩, ?_, ?_⟩
   ·rw [List.length_map, List.length_map, List.length_range]
    exact small1000 (by omega)
   ·rw [Nat.pow_succ, <- Nat.div_div_eq_div_mul]
    rfl
   ·rw [qaV, List.range_succ, List.map_append, List.map_append]
    rfl
  ·have hge : i = n := by
    have : ¬ ((List.map iV (List.map (fun j => x / 256 ^ j % 256) (List.range i))).length : Int) < (n : Int) := fun z => hc (decide_eq_true z)
    simp at this
    omega
   subst hge
   refine ⟨_, rfl, .inl ⟨rfl, _, SqL.of qaf⟩, p, _, rfl, rfl, qaf, _, rfl, ?_⟩
   refine k _ p ?_ hp ?_
   ·rw [qaV]
    exact qal hp
   ·unfold IsL
    rw [qaf, <- List.map_reverse, be_rev]
theorem small2 {n : Nat} (h : n <= 100000) : n <= sizeLine := Nat.le_trans h (by decide)
theorem IsL.same {H H' : Hp} {a : Addr} {xs : List Nat} (l : IsL H a xs) (s : Same H H') : IsL H' a xs := s _ _ l
def NewL (H : Hp) (Q : VK) (xs : List Nat) : Prop := ∀ H' p, Same H H' -> H p = none -> IsL H' p xs -> Q (.ref p) H'
def sp_z56 : Sp := fun vs H Q _ => ∃ x : Nat, vs = [iV x] /\ NewL H Q (be 20 x)
theorem qfL (T : Txt K mg A) : FnOk P w K mg base CX0 2 A.a_z56 A.d_z56 ["name"] sp_z56 := by
 refine T.F_z56.ok qiR ?_ ?_
 ·rintro _ _ _ _ ⟨x, rfl, _⟩
  rfl
 ·rintro cdv Ar outer s H _ Q E hr ⟨x, rfl, k⟩
  have nd := qiR.nd
  refine ⟨_, (qac (qag (qaw (qfZ T) hr.md rfl T.mg_z82 T.F_z82.kp T.b_z82 .nil pass0 (qaa (pv 0) (qaa (qai rfl T.c_NAME_OCTETS) qad))))), ?_⟩
  exact ⟨_, rfl, x, 20, rfl, by decide, k⟩
def sp_z35 : Sp := fun vs H Q _ => ∃ (k m s : Nat) (r : Addr) (xs : List Nat), vs = [iV k, iV m, iV s, .ref r] /\ IsL H r xs /\ xs.length <= 2000 /\ NewL H Q ([k] ++ (be 8 m ++ (be 20 s ++ xs)))
theorem qeX (T : Txt K mg A) : FnOk P w K mg base CX0 3 A.a_z35 A.d_z35 ["kind", "mark", "sender", "rest"] sp_z35 := by
 refine T.F_z35.ok qjk ?_ ?_
 ·rintro _ _ _ _ ⟨k, m, s, r, xs, rfl, _⟩
  rfl
 ·rintro cdv Ar outer s H _ Q E hr ⟨k, m, sd, r, xs, rfl, hr0, hl, kk⟩
  have nd := qjk.nd
  refine ⟨_, (qac (qag (qaK qbU (qaK qbU (qaK qbU (qaB (qaa (pv 0) qad)) (qaw (qfZ T) hr.md rfl T.mg_z82 T.F_z82.kp T.b_z82 .nil pass0 (qaa (pv 1) (qaa (qai rfl T.c_MARK_OCTETS) qad)))) (qaw (qfL T) hr.md rfl T.mg_z56 T.F_z56.kp T.b_z56 .nil pass0 (qaa (pv 2) qad))) (pv 3)))), ?_⟩
  refine ⟨_, rfl, (by show 1 <= sizeLine; decide), fun p1 hp1 => ?_⟩
  refine ⟨_, rfl, m, 8, rfl, by decide, fun H2 p2 s2 n2 l2 => ?_⟩
  refine ⟨p1, p2, [iV k], _, rfl, rfl, s2 _ _ qaf, l2, by rw [List.length_map, qam]; show 9 <= sizeLine; decide, fun p3 hp3 => ?_⟩
  refine ⟨_, rfl, sd, rfl, fun H4 p4 s4 n4 l4 => ?_⟩
  refine ⟨p3, p4, _, _, rfl, rfl, s4 _ _ qaf, l4, by rw [List.length_append, List.length_map, List.length_map, qam, qam]; show 29 <= sizeLine; decide, fun p5 hp5 => ?_⟩
  have s02 : Same H H2 := (qal hp1).trans s2
  have s03 : Same H (upd H2 p3 (.lst ([iV k] ++ (be 8 m).map iV))) := s02.trans (qal hp3)
  have s04 : Same H H4 := s03.trans s4
  have s05 := s04.trans (qal (o := .lst ([iV k] ++ (be 8 m).map iV ++ (be 20 sd).map iV)) hp5)
  refine ⟨_, rfl, p5, r, _, _, rfl, rfl, qaf, s05 _ _ hr0, ?_, fun p6 hp6 => ?_⟩
  ·simp only [List.length_append, List.length_map, qam, List.length_singleton]
   exact small2 (by omega)
  ·refine kk _ p6 (s05.trans (qal hp6)) (s05.free hp6) ?_
   unfold IsL
   rw [qaf]
   simp only [List.map_append, List.map_cons, List.map_nil, List.append_assoc]
def sp_z27 : Sp := fun vs H Q _ => ∃ (c : Addr) (xs : List Nat), vs = [.ref c] /\ IsL H c xs /\ xs.length <= 2000 /\ NewL H Q (be 2 xs.length ++ xs)
theorem qjM (T : Txt K mg A) : FnOk P w K mg base CX0 2 A.a_z27 A.d_z27 ["content"] sp_z27 := by
 refine T.F_z27.ok qiM ?_ ?_
 ·rintro _ _ _ _ ⟨c, xs, rfl, _⟩
  rfl
 ·rintro cdv Ar outer s H _ Q E hr ⟨c, xs, rfl, hc, hl, kk⟩
  have nd := qiM.nd
  refine ⟨_, (qac (qag (qaK qbU (qaw (qfZ T) hr.md rfl T.mg_z82 T.F_z82.kp T.b_z82 .nil pass0 (qaa (qav qah (by rfl) T.n_len PySem.boot_len (qaa (pv 0) qad)) (qaa (qai rfl T.c_LENGTH_OCTETS) qad))) (pv 0)))), ?_⟩
  refine ⟨_, rfl, c, _, rfl, .inl (SqL.of hc), xs.length, 2, by rw [List.length_map]; rfl, by decide, fun H2 p2 s2 n2 l2 => ?_⟩
  refine ⟨_, rfl, p2, c, _, _, rfl, rfl, l2, s2 _ _ hc, ?_, fun p3 hp3 => ?_⟩
  ·rw [List.length_map, List.length_map, qam]
   exact small2 (by omega)
  ·refine kk _ p3 (s2.trans (qal hp3)) (s2.free hp3) ?_
   unfold IsL
   rw [qaf, List.map_append]
def HasNA (K : PySem.W.Frag) (H : Hp) (a : Addr) (n ad : Nat) : Prop := ∃ C dx fs, H a = some (.ins C dx fs) /\ Cls K C /\ NoAttr K C "name" /\ NoAttr K C "address" /\ fs.lookup ("name" : Str) = some (iV n) /\ fs.lookup ("address" : Str) = some (iV ad)
theorem HasNA.same {K : PySem.W.Frag} {H H' : Hp} {a : Addr} {n ad : Nat} (h : HasNA K H a n ad) (s : ∀ o, H a = some o -> H' a = some o) : HasNA K H' a n ad := by
 obtain ⟨C, dx, fs, e, r⟩ := h
 exact ⟨C, dx, fs, s _ e, r⟩
def shows (l : List (Addr × Contact)) : List Nat := l.flatMap fun q => be 20 q.2.name ++ be 6 q.2.at_
theorem qe3 (l : List (Addr × Contact)) : (shows l).length = 26 * l.length := by
 induction l with
 | nil => rfl
 | cons q l ih => unfold shows at ih ⊢; rw [List.flatMap_cons, List.length_append, ih, List.length_append, qam, qam, List.length_cons]; omega
def sp_z31 : Sp := fun vs H Q _ => ∃ x : Nat, vs = [iV x] /\ NewL H Q (be 6 x)
theorem qjV (T : Txt K mg A) : FnOk P w K mg base CX0 2 A.a_z31 A.d_z31 ["address"] sp_z31 := by
 refine T.F_z31.ok qi2 ?_ ?_
 ·rintro _ _ _ _ ⟨x, rfl, _⟩
  rfl
 ·rintro cdv Ar outer s H _ Q E hr ⟨x, rfl, k⟩
  have nd := qi2.nd
  refine ⟨_, (qac (qag (qaw (qfZ T) hr.md rfl T.mg_z82 T.F_z82.kp T.b_z82 .nil pass0 (qaa (pv 0) (qaa (qai rfl T.c_ADDRESS_OCTETS) qad))))), ?_⟩
  exact ⟨_, rfl, x, 6, rfl, by decide, k⟩
def sp_z32 (K : PySem.W.Frag) : Sp := fun vs H Q _ => ∃ (y : Addr) (n ad : Nat), vs = [.ref y] /\ HasNA K H y n ad /\ NewL H Q (be 20 n ++ be 6 ad)
theorem qgC (T : Txt K mg A) : FnOk P w K mg base CX0 3 A.a_z32 A.d_z32 ["someone"] (sp_z32 K) := by
 refine T.F_z32.ok qi7 ?_ ?_
 ·rintro _ _ _ _ ⟨y, n, ad, rfl, _⟩
  rfl
 ·rintro cdv Ar outer s H _ Q E hr ⟨y, n, ad, rfl, hy, kk⟩
  have nd := qi7.nd
  refine ⟨_, (qac (qag (qaK qbU (qaw (qfL T) hr.md rfl T.mg_z56 T.F_z56.kp T.b_z56 .nil pass0 (qaa (qae (pv 0) rfl) qad)) (qaw (qjV T) hr.md rfl T.mg_z31 T.F_z31.kp T.b_z31 .nil pass0 (qaa (qae (pv 0) rfl) qad))))), ?_⟩
  obtain ⟨C, dx, fs, e1, cl, n1, n2, f1, f2⟩ := hy
  refine ⟨_, rfl, y, C, dx, fs, _, rfl, e1, cl, n1, f1, n, rfl, fun H2 p2 s2 m2 l2 => ?_⟩
  refine ⟨_, rfl, y, C, dx, fs, _, rfl, s2 _ _ e1, cl, n2, f2, ad, rfl, fun H3 p3 s3 m3 l3 => ?_⟩
  refine ⟨p2, p3, _, _, rfl, rfl, s3 _ _ l2, l3, ?_, fun p4 hp4 => ?_⟩
  ·rw [List.length_map, List.length_map, qam, qam]
   exact small2 (by omega)
  ·refine kk _ p4 ((s2.trans s3).trans (qal hp4)) ((s2.trans s3).free hp4) ?_
   unfold IsL
   rw [qaf, List.map_append]
def sp_z37 (K : PySem.W.Frag) : Sp := fun vs H Q _ => ∃ (l : Addr) (ps : List (Addr × Contact)), vs = [.ref l] /\ H l = some (.lst (ps.map fun q => V.ref q.1)) /\ ps.length <= 100 /\ (∀ q ∈ ps, HasNA K H q.1 q.2.name q.2.at_) /\ NewL H Q (ps.length :: shows ps)
theorem ok_z37 (T : Txt K mg A) : FnOk P w K mg base CX0 4 A.a_z37 A.d_z37 ["people"] (sp_z37 K) := by
 refine T.F_z37.ok qiL ?_ ?_
 ·rintro _ _ _ _ ⟨l, ps, rfl, _⟩
  rfl
 ·rintro cdv Ar outer s H _ Q E hr ⟨l, ps, rfl, hl, hz, hna, kk⟩
  have nd := qiL.nd
  refine ⟨_, (qab (qax (i := 1) nd rfl (Or.inl rfl) (qaB (qaa (qav qah (by rfl) T.n_len PySem.boot_len (qaa (pv 0) qad)) qad)))
   (qab (qbW PassesOwn.never rfl (qaU (pv 0)) (qaN (i := 2) nd rfl (Or.inl rfl)) (qac (qap (qb4 PySem.F.plainAttrs_list PySem.F.slot_list_extend PySem.F.type_list_extend qdb (pv 1) (qaa (qaw (qgC T) hr.md rfl T.mg_z32 T.F_z32.kp T.b_z32 .nil pass0 (qaa (pv 2) qad)) qad)))))
   (qac (qag (pv 1))))), ?_⟩
  refine ⟨_, rfl, l, _, rfl, .inl (SqL.of hl), (by show 1 <= sizeLine; decide), fun p hp => ⟨_, rfl, l, rfl, ⟨_, SqL.of ((qal hp) _ _ hl)⟩, ?_⟩⟩
  refine qaY (K := K) (a := l) (xs := ps.map fun q => V.ref q.1) (fun i σ H' => (∃ v, σ = [some (.ref l), some (.ref p), v]) /\ Same H H' /\ IsL H' p (ps.length :: shows (ps.take i))) ⟨⟨none, rfl⟩, qal hp, ?_⟩ (fun i σ H' _ h => SqL.of (h.2.1 _ _ hl)) ?_ ?_
  ·unfold IsL
   rw [qaf, List.length_map]
   rfl
  ·rintro i y σ H' hi ⟨⟨v, rfl⟩, s1, l1⟩
   rw [List.getElem?_map] at hi
   cases e : ps[i]? with
   | none => rw [e] at hi; cases hi
   | some q =>
    rw [e] at hi
    cases hi
    have hi' : i < ps.length := (List.getElem?_eq_some_iff.mp e).1
    have hq := List.mem_of_getElem? e
    have hlen : (shows (ps.take i)).length <= 2600 := by
     rw [qe3, List.length_take]
     omega
    refine ⟨_, rfl, .inl ⟨rfl, _, SqL.of l1⟩, _, rfl, q.1, q.2.name, q.2.at_, rfl, (hna q hq).same fun o z => s1 _ _ z, fun H2 p2 s2 m2 l2 => ?_⟩
    refine ⟨p, p2, _, _, rfl, rfl, s2 _ _ l1, l2, ?_, ⟨_, rfl⟩, qhU (s1.trans s2) hp, ?_⟩
    ·rw [List.length_map, List.length_map, List.length_append, qam, qam, List.length_cons]
     exact small2 (by omega)
    ·unfold IsL
     rw [qaf]
     have : ps.take (i + 1) = ps.take i ++ [q] := by rw [List.take_add_one, e]; rfl
     rw [this]
     unfold shows
     simp only [List.flatMap_append, List.flatMap_cons, List.flatMap_nil, List.append_nil, List.map_append, List.map_cons, List.append_assoc, List.cons_append]
  ·rintro σ H' ⟨⟨v, rfl⟩, s1, l1⟩
   refine ⟨_, rfl, kk _ p s1 hp ?_⟩
   rw [List.length_map, List.take_length] at l1
   exact l1
abbrev nSomeone : List Str := ["name", "address", "was_silent"]
def vSomeone (c : Contact) : List V := [iV c.name, iV c.at_, .bl (decide (c.silent = 1))]
def NewOb (H : Hp) (Q : VK) (C : Addr) (ns : List Str) (vs : List V) (x : Addr) : Prop := ∀ H', IsOb H' C ns vs x -> (∀ b o, H b = some o -> b ≠ x -> H' b = some o) -> Q .non H'
def sp_z41 (A : Adr) : Sp := fun vs H Q _ => ∃ (x dx : Addr) (n a : Nat), vs = [.ref x, iV n, iV a] /\ H x = some (.ins A.C_Someone dx []) /\ NewOb H Q A.C_Someone nSomeone [iV n, iV a, .bl false] x
theorem put1 {n : Str} {v : V} : putF n v [] = [n].zip [v] := rfl
theorem qht (T : Txt K mg A) : FnOk P w K mg base CX0 1 A.a_z41 A.d_z41 ["self", "name", "address"] (sp_z41 A) := by
 refine T.F_z41.ok qi4 ?_ ?_
 ·rintro _ _ _ _ ⟨x, dx, n, a, rfl, _⟩
  rfl
 ·rintro cdv Ar outer s H _ Q E hr ⟨x, dx, n, a, rfl, hx, k⟩
  have nd := qi4.nd
  refine ⟨_, (qab (qau (pv 0) (pv 1) rfl)
   (qab (qau (pv 0) (pv 2) rfl)
   (qac (qau (pv 0) qcY rfl)))), ?_⟩
  refine ⟨_, rfl, _, rfl, x, A.C_Someone, dx, _, rfl, hx, T.cl_Someone, T.na_y40, (by show 0 < 1000; decide), _, rfl, _, rfl, x, A.C_Someone, dx, _, rfl, qaf, T.cl_Someone, T.na_y39, (by show 1 < 1000; decide), ?_⟩
  refine ⟨_, rfl, x, A.C_Someone, dx, _, rfl, qaf, T.cl_Someone, T.na_y41, ?_, ?_⟩
  ·rw [put1, qaG (by decide +kernel) rfl]; show 2 < 1000; decide
  ·refine k _ ⟨dx, ?_⟩ fun b o e hb => by rw [qaq hb, qaq hb, qaq hb]; exact e
   rw [qaf, put1, qaG (by decide +kernel) rfl, qaG (by decide +kernel) rfl]
   rfl
end
theorem qcl (n d k : Nat) : HT.sIx n d (some (k : Int)) = min k n := by
 unfold HT.sIx
 simp
 omega
theorem qc2 (xs : List Nat) (a b : Nat) : cutV (xs.map iV) (some (a : Int)) (some (b : Int)) = ((xs.drop a).take (b - a)).map iV := by
 unfold cutV
 rw [qcl, qcl, List.length_map, <- List.map_drop, <- List.map_take]
 congr 1
 rcases Nat.le_total a xs.length with h | h
 ·rw [Nat.min_eq_left h]
  rcases Nat.le_total b xs.length with h2 | h2
  ·rw [Nat.min_eq_left h2]
  ·rw [Nat.min_eq_right h2, List.take_of_length_le (by rw [List.length_drop]; exact Nat.le_refl _), List.take_of_length_le (by rw [List.length_drop]; omega)]
 ·rw [Nat.min_eq_right h, List.drop_length, List.drop_of_length_le h, List.take_nil, List.take_nil]
theorem qdS (xs : List Nat) (a : Nat) : cutV (xs.map iV) (some (a : Int)) none = (xs.drop a).map iV := by
 unfold cutV
 have e : HT.sIx (xs.map iV).length (xs.map iV).length none = xs.length := by unfold HT.sIx; simp
 rw [e, qcl, List.length_map, <- List.map_drop, <- List.map_take]
 congr 1
 rcases Nat.le_total a xs.length with h | h
 ·rw [Nat.min_eq_left h, List.take_of_length_le (by rw [List.length_drop]; exact Nat.le_refl _)]
 ·rw [Nat.min_eq_right h, List.drop_length, List.drop_of_length_le h, List.take_nil]
theorem qjE (xs : List Nat) (b : Nat) : cutV (xs.map iV) none (some (b : Int)) = (xs.take b).map iV := by
 unfold cutV
 have e : HT.sIx (xs.map iV).length 0 none = 0 := by unfold HT.sIx; simp
 rw [e, qcl, List.length_map, List.drop_zero, <- List.map_take, Nat.sub_zero]
 congr 1
 rcases Nat.le_total b xs.length with h | h
 ·rw [Nat.min_eq_left h]
 ·rw [Nat.min_eq_right h, List.take_length, List.take_of_length_le h]
section
variable {H0 h0 H : Hp} {l : List As} {x dx C : Addr} {P : As}
theorem Sl.made (c : Sl H0 h0 H l) (nx : H x = none) (nd : H dx = none) (ne : dx ≠ x) {H' h' : Hp} {P' : As} (p : P' h') (s : Sb h' H') (f : Fm (upd (upd H dx (.own x)) x (.ins C dx [])) (cel x (.ins C dx [])) H' h') : Sl H0 h0 H' (P' :: l) := by
 have c1 : Sl H0 h0 (upd (upd H dx (.own x)) x (.ins C dx [])) (Pt x (.ins C dx []) :: l) := (c.lay (o := .own x) nd).new (by rw [qaq ne.symm]; exact nx)
 obtain ⟨h1, hp, sb, k⟩ := c1.call0
 have hp : h1 = cel x (.ins C dx []) := hp
 subst hp
 exact k p s f
theorem init0 (hx : H x = some (.ins C dx [])) : Sl H (cel x (.ins C dx [])) H [Pt x (.ins C dx [])] := Sl.init (fun b o e => by
 unfold cel at e
 split at e
 ·rename_i z; cases e; rw [z]; exact hx
 ·cases e) rfl
end
theorem Sl.emp0 {α : Type} {R : α -> As} {H0 h0 H : Hp} {l : List As} (c : Sl H0 h0 H l) : Sl H0 h0 H (Each R ([] : List α) :: l) := by
 obtain ⟨h, s, q, f⟩ := c
 exact ⟨h, s, qc9 (qd5 q), f⟩
abbrev nLetter : List Str := ["kind", "mark", "sender", "name", "people", "content"]
def SomeR (A : Adr) (q : Addr × Contact) : As := Ob A.C_Someone nSomeone (vSomeone q.2) q.1
def refs {α : Type} (ps : List (Addr × α)) : List V := ps.map fun q => V.ref q.1
def LetR (A : Adr) (x : Addr) (k m s n : Nat) (cs : List Contact) (bs : List Nat) : As := fun h => ∃ (pl cl : Addr) (ps : List (Addr × Contact)), ps.map Prod.snd = cs /\
 stars [Ob A.C_Letter nLetter [iV k, iV m, iV s, iV n, .ref pl, .ref cl] x, Pt pl (.lst (refs ps)), Pt cl (.lst (bs.map iV)), Each (SomeR A) ps] h
section
variable {P : Program} {w : World} {K : PySem.W.Frag} {mg : Str -> Option Value} {base : Heap} {A : Adr}
def sp_z54 (A : Adr) : Sp := fun vs H Q _ => ∃ (x dx : Addr) (k m s : Nat), vs = [.ref x, iV k, iV m, iV s] /\ H x = some (.ins A.C_Letter dx []) /\
 ∀ H' h', Sb h' H' -> LetR A x k m s 0 [] [] h' -> Fm H (cel x (.ins A.C_Letter dx [])) H' h' -> Q .non H'
theorem ok_z54 (T : Txt K mg A) : FnOk P w K mg base CX0 1 A.a_z54 A.d_z54 ["self", "kind", "mark", "sender"] (sp_z54 A) := by
 refine T.F_z54.ok qjh ?_ ?_
 ·rintro _ _ _ _ ⟨x, dx, k, m, s, rfl, _⟩
  rfl
 ·rintro cdv Ar outer s H _ Q E hr ⟨x, dx, k, m, sd, rfl, hx, kk⟩
  have nd := qjh.nd
  refine ⟨_, (qab (qau (pv 0) (pv 1) rfl)
   (qab (qau (pv 0) (pv 2) rfl)
   (qab (qau (pv 0) (pv 3) rfl)
   (qab (qau (pv 0) qan rfl)
   (qab (qau (pv 0) (qaB qad) rfl)
   (qac (qau (pv 0) (qaB qad) rfl))))))), ?_⟩
  refine ⟨_, rfl, _, rfl, x, A.C_Letter, dx, _, rfl, hx, T.cl_Letter, T.na_y17, (by show 0 < 1000; decide), ?_⟩
  rw [put1]
  refine ⟨_, rfl, _, rfl, x, A.C_Letter, dx, _, rfl, qaf, T.cl_Letter, T.na_y18, (by show 1 < 1000; decide), ?_⟩
  rw [qaV, qaG (by decide +kernel) rfl]
  refine ⟨_, rfl, _, rfl, x, A.C_Letter, dx, _, rfl, qaf, T.cl_Letter, T.na_y21, (by show 2 < 1000; decide), ?_⟩
  rw [qaV, qaG (by decide +kernel) rfl]
  refine ⟨_, rfl, x, A.C_Letter, dx, _, rfl, qaf, T.cl_Letter, T.na_y19, (by show 3 < 1000; decide), ?_⟩
  rw [qaV, qaG (by decide +kernel) rfl]
  have c1 : Sl H (cel x (.ins A.C_Letter dx [])) _ _ := (init0 hx).set (o' := .ins A.C_Letter dx ((["kind", "mark", "sender", "name"] : List Str).zip [iV k, iV m, iV sd, V.int 0])) 0 rfl
  refine ⟨by decide, fun pl hpl => ?_⟩
  have c2 := c1.new (o := .lst []) hpl
  refine ⟨_, rfl, x, A.C_Letter, dx, _, rfl, c2.get 1 rfl, T.cl_Letter, T.na_y20, (by show 4 < 1000; decide), ?_⟩
  rw [qaG (by decide +kernel) rfl]
  have c3 := c2.set (o' := .ins A.C_Letter dx ((["kind", "mark", "sender", "name", "people"] : List Str).zip [iV k, iV m, iV sd, V.int 0, .ref pl])) 1 rfl
  refine ⟨by decide, fun cl hcl => ?_⟩
  have c4 := c3.new (o := .lst []) hcl
  refine ⟨_, rfl, x, A.C_Letter, dx, _, rfl, c4.get 2 rfl, T.cl_Letter, T.na_y16, (by show 5 < 1000; decide), ?_⟩
  rw [qaG (by decide +kernel) rfl]
  have c5 := c4.set (o' := .ins A.C_Letter dx (nLetter.zip [iV k, iV m, iV sd, iV 0, .ref pl, .ref cl])) 2 rfl
  have c6 := ((c5.emp0 (R := SomeR A)).pull 1 rfl |>.pull 2 rfl).pull 3 rfl
  obtain ⟨h', p', sb, fm⟩ := (Sl.fold0 (k := [_, _, _, _]) (l := []) (c6.imp0 (P' := Ob A.C_Letter nLetter [iV k, iV m, iV sd, iV 0, .ref pl, .ref cl] x) fun h p => ⟨dx, p⟩)).fin
  exact kk _ h' sb ⟨pl, cl, [], rfl, p'⟩ fm
end
section
variable {H0 h0 H : Hp} {l : List As} {A : Adr} {x : Addr} {k m s n : Nat} {cs : List Contact} {bs : List Nat}
theorem qbx (c : Sl H0 h0 H (LetR A x k m s n cs bs :: l)) : ∃ (pl cl : Addr) (ps : List (Addr × Contact)), ps.map Prod.snd = cs /\
  Sl H0 h0 H (Ob A.C_Letter nLetter [iV k, iV m, iV s, iV n, .ref pl, .ref cl] x :: Pt pl (.lst (refs ps)) :: Pt cl (.lst (bs.map iV)) :: Each (SomeR A) ps :: l) := by
 obtain ⟨pl, c1⟩ := c.ex0
 obtain ⟨cl, c2⟩ := c1.ex0
 obtain ⟨ps, h, sb, ⟨h1, h2, d, e, ⟨e2, p⟩, q⟩, f⟩ := c2.ex0
 exact ⟨pl, cl, ps, e2, Sl.open0 (k := [_, _, _, _]) ⟨h, sb, ⟨h1, h2, d, e, p, q⟩, f⟩⟩
theorem qcB {pl cl : Addr} {ps : List (Addr × Contact)} (e : ps.map Prod.snd = cs)
  (c : Sl H0 h0 H (Ob A.C_Letter nLetter [iV k, iV m, iV s, iV n, .ref pl, .ref cl] x :: Pt pl (.lst (refs ps)) :: Pt cl (.lst (bs.map iV)) :: Each (SomeR A) ps :: l)) : Sl H0 h0 H (LetR A x k m s n cs bs :: l) :=
 (Sl.fold0 (k := [_, _, _, _]) c).imp0 fun h p => ⟨pl, cl, ps, e, p⟩
end
def RdEnds (A : Adr) (x : Addr) (k m s : Nat) (xs : List Nat) (H h : Hp) (Q : VK) : Prop :=
 (bodyOf k xs = none -> ∀ H', (∀ b o, H b = some o -> h b = none -> H' b = some o) -> Q (.bl false) H') /\
 (∀ body, bodyOf k xs = some body -> ∀ H' h', Sb h' H' -> LetR A x k m s (nameIn body) (peopleIn body) (bytesIn body) h' -> Fm H h H' h' -> Q (.bl true) H')
def qbZ (A : Adr) (k : Nat) : Sp := fun vs H Q _ => ∃ (x r : Addr) (m s : Nat) (xs : List Nat) (h : Hp), vs = [.ref x, .ref r] /\ IsL H r xs /\ h r = none /\ xs.length <= 1100 /\ Sb h H /\ LetR A x k m s 0 [] [] h /\ RdEnds A x k m s xs H h Q
section
variable {P : Program} {w : World} {K : PySem.W.Frag} {mg : Str -> Option Value} {base : Heap} {A : Adr}
theorem lenI (xs : List Nat) : ((xs.map iV).length : Int) = (xs.length : Int) := by rw [List.length_map]
def sp_z43 (A : Adr) : Sp := fun vs H Q E => ∃ k, (k = 0 \/ k = 1 \/ k = 7) /\ qbZ A k vs H Q E
theorem qcS {k : Nat} (h : k = 0 \/ k = 1 \/ k = 7) {xs : List Nat} : (xs ≠ [] -> bodyOf k xs = none) /\ (xs = [] -> ∃ b, bodyOf k xs = some b /\ nameIn b = 0 /\ peopleIn b = [] /\ bytesIn b = []) := by
 rcases h with rfl | rfl | rfl
 ·exact ⟨fun h => by unfold bodyOf; rw [if_pos rfl, if_neg h], fun h => ⟨.ping, by unfold bodyOf; rw [if_pos rfl, if_pos h], rfl, rfl, rfl⟩⟩
 ·exact ⟨fun h => by unfold bodyOf; rw [if_neg (by decide), if_pos rfl, if_neg h], fun h => ⟨.pong, by unfold bodyOf; rw [if_neg (by decide), if_pos rfl, if_pos h], rfl, rfl, rfl⟩⟩
 ·exact ⟨fun h => by unfold bodyOf; simp [h], fun h => ⟨.stored, by unfold bodyOf; simp [h], rfl, rfl, rfl⟩⟩
theorem qhH (T : Txt K mg A) : FnOk P w K mg base CX0 1 A.a_z43 A.d_z43 ["letter", "rest"] (sp_z43 A) := by
 refine T.F_z43.ok qi3 ?_ ?_
 ·rintro _ _ _ _ ⟨k, _, x, r, m, s, xs, h, rfl, _⟩
  rfl
 ·rintro cdv Ar outer s H _ Q E hr ⟨k, hk, x, r, m, sd, xs, h, rfl, hr0, hrn, hl, sb, hL, e1, e2⟩
  have nd := qi3.nd
  refine ⟨_, (qac (qag (qbs qbN (qav qah (by rfl) T.n_len PySem.boot_len (qaa (pv 1) qad)) qan (nomark _)))), ?_⟩
  refine ⟨_, rfl, r, _, rfl, .inl (SqL.of hr0), rfl, ?_⟩
  show Q (.bl (decide (V.int _ = V.int 0))) H
  rw [lenI]
  cases xs with
  | nil =>
   obtain ⟨b, hb, n1, n2, n3⟩ := (qcS hk (xs := [])).2 rfl
   rw [decide_eq_true (by rfl)]
   refine e2 b hb H h sb ?_ (Fm.refl _ _)
   rw [n1, n2, n3]; exact hL
  | cons a xs =>
   rw [decide_eq_false (fun z => by have := V.int.inj z; rw [List.length_cons] at this; omega)]
   exact e1 ((qcS hk).1 (by simp)) H fun _ _ e _ => e
def sp_z78 (A : Adr) : Sp := fun vs H Q E => ∃ k, (k = 2 \/ k = 4) /\ qbZ A k vs H Q E
theorem qek {k : Nat} (h : k = 2 \/ k = 4) {xs : List Nat} : (xs.length ≠ 20 -> bodyOf k xs = none) /\ (xs.length = 20 -> ∃ b, bodyOf k xs = some b /\ nameIn b = num xs /\ peopleIn b = [] /\ bytesIn b = []) := by
 rcases h with rfl | rfl
 ·exact ⟨fun h => by unfold bodyOf; simp [h], fun h => ⟨.find (num xs), by unfold bodyOf; simp [h], rfl, rfl, rfl⟩⟩
 ·exact ⟨fun h => by unfold bodyOf; simp [h], fun h => ⟨.want (num xs), by unfold bodyOf; simp [h], rfl, rfl, rfl⟩⟩
theorem qja (T : Txt K mg A) : FnOk P w K mg base CX0 2 A.a_z78 A.d_z78 ["letter", "rest"] (sp_z78 A) := by
 refine T.F_z78.ok qiI ?_ ?_
 ·rintro _ _ _ _ ⟨k, _, x, r, m, s, xs, h, rfl, _⟩
  rfl
 ·rintro cdv Ar outer s H _ Q E hr ⟨k, hk, x, r, m, sd, xs, h, rfl, hr0, hrn, hl, sb, hL, e1, e2⟩
  have nd := qiI.nd
  refine ⟨_, (qab (qau (pv 0) (qaw (qcV T) hr.md rfl T.mg_z80 T.F_z80.kp T.b_z80 .nil pass0 (qaa (pv 1) qad)) rfl)
   (qac (qag (qbs qbN (qav qah (by rfl) T.n_len PySem.boot_len (qaa (pv 1) qad)) (qai rfl T.c_NAME_OCTETS) (nomark _))))), ?_⟩
  obtain ⟨pl, cl, ps, hps, c0⟩ := qbx (Sl.init sb hL)
  obtain ⟨dx, hx⟩ := c0.ob 0 rfl
  refine ⟨_, rfl, r, xs, rfl, SqL.of hr0, _, rfl, x, A.C_Letter, dx, _, rfl, hx, T.cl_Letter, T.na_y19, (by show 6 < 1000; decide), ?_⟩
  have c1 := c0.obset (f := "name") (v := iV (num xs)) (j := 3) 0 rfl hx (by decide +kernel) (by show 3 < 6; decide)
  have c2 := qcB (n := num xs) hps c1
  have hr1 : IsL (upd H x (.ins A.C_Letter dx (putF "name" (iV (num xs)) (nLetter.zip [iV k, iV m, iV sd, iV 0, .ref pl, .ref cl])))) r xs := by
   obtain ⟨h', _, _, fm⟩ := c2
   exact fm.keep r _ hr0 hrn
  refine ⟨_, rfl, r, _, rfl, .inl (SqL.of hr1), rfl, ?_⟩
  show Q (.bl (decide (V.int _ = V.int 20))) _
  rw [lenI]
  obtain ⟨h', p', sb', fm⟩ := c2.fin
  by_cases e : xs.length = 20
  ·obtain ⟨b, hb, n1, n2, n3⟩ := (qek hk (xs := xs)).2 e
   rw [decide_eq_true (by rw [e]; rfl)]
   refine e2 b hb _ h' sb' ?_ fm
   rw [n1, n2, n3]; exact p'
  ·rw [decide_eq_false (fun z => e (by have := V.int.inj z; omega))]
   exact e1 ((qek hk).1 e) _ fm.keep
def sp_z42 (A : Adr) : Sp := fun vs H Q _ => ∃ (x r : Addr) (k m s n : Nat) (xs : List Nat) (h : Hp), vs = [.ref x, .ref r] /\ IsL H r xs /\ h r = none /\ xs.length <= 1100 /\ Sb h H /\ LetR A x k m s n [] [] h /\
 (¬ (2 <= xs.length /\ num (xs.take 2) <= 512 /\ xs.length = 2 + num (xs.take 2)) -> ∀ H', (∀ b o, H b = some o -> h b = none -> H' b = some o) -> Q (.bl false) H') /\
 (2 <= xs.length /\ num (xs.take 2) <= 512 /\ xs.length = 2 + num (xs.take 2) -> ∀ H' h', Sb h' H' -> LetR A x k m s n [] (xs.drop 2) h' -> Fm H h H' h' -> Q (.bl true) H')
theorem qks (T : Txt K mg A) : FnOk P w K mg base CX0 2 A.a_z42 A.d_z42 ["letter", "rest"] (sp_z42 A) := by
 refine T.F_z42.ok qiE ?_ ?_
 ·rintro _ _ _ _ ⟨x, r, k, m, s, n, xs, h, rfl, _⟩
  rfl
 ·rintro cdv Ar outer s H _ Q E hr ⟨x, r, k, m, sd, n, xs, h, rfl, hr0, hrn, hl, sb, hL, e1, e2⟩
  have nd := qiE.nd
  refine ⟨_, (qab (qaC (qar qdP (qav qah (by rfl) T.n_len PySem.boot_len (qaa (pv 1) qad)) (qai rfl T.c_LENGTH_OCTETS) (nomark _)) (qac (qag qcY)) qao)
   (qab (qax (i := 2) nd rfl (Or.inl rfl) (qaw (qcV T) hr.md rfl T.mg_z80 T.F_z80.kp T.b_z80 .nil pass0 (qaa (qaZ qbj (pv 1) qci (qaP (qai rfl T.c_LENGTH_OCTETS))) qad)))
   (qab (qau (pv 0) (qaZ qbj (pv 1) (qaP (qai rfl T.c_LENGTH_OCTETS)) qci) rfl)
   (qac (qag (qjZ (qbs qkx (pv 2) (qai rfl T.c_LONGEST_CONTENT) (nomark _)) (qjl (qbs qbN (pv 2) (qav qah (by rfl) T.n_len PySem.boot_len (qaa (qae (pv 0) rfl) qad)) (nomark _))))))))), ?_⟩
  refine ⟨_, rfl, r, _, rfl, .inl (SqL.of hr0), _, _, rfl, rfl, _, rfl, ?_⟩
  refine ite2 (fun hc => ?_) fun hc => ?_
  ·have : ¬ 2 <= xs.length := by
    have := of_decide_eq_true hc
    rw [lenI] at this
    omega
   exact e1 (fun z => this z.1) H fun _ _ e _ => e
  ·have h2 : 2 <= xs.length := by
    have : ¬ ((List.map iV xs).length : Int) < 2 := fun z => hc (decide_eq_true z)
    rw [lenI] at this
    omega
   have c0 := Sl.init sb hL
   refine ⟨_, rfl, _, rfl, r, _, rfl, SqL.of hr0, fun p1 hp1 => ?_⟩
   rw [show cutV (xs.map iV) none (some 2) = (xs.take 2).map iV from qjE xs 2]
   refine ⟨p1, xs.take 2, rfl, SqL.of qaf, ?_⟩
   have c1 := c0.lay (o := .lst ((xs.take 2).map iV)) hp1
   have hr1 : IsL (upd H p1 (.lst ((xs.take 2).map iV))) r xs := qal hp1 _ _ hr0
   refine ⟨_, rfl, _, rfl, r, _, rfl, SqL.of hr1, fun p2 hp2 => ?_⟩
   rw [show cutV (xs.map iV) (some 2) none = (xs.drop 2).map iV from qdS xs 2]
   have c2 := c1.new (o := .lst ((xs.drop 2).map iV)) hp2
   have hr2 : IsL _ r xs := (qal (o := .lst ((xs.drop 2).map iV)) hp2) _ _ hr1
   obtain ⟨pl, cl, ps, hps, c3⟩ := qbx (c2.pull 1 rfl)
   obtain ⟨dx, hx⟩ := c3.ob 0 rfl
   refine ⟨_, rfl, x, A.C_Letter, dx, _, rfl, hx, T.cl_Letter, T.na_y16, (by show 6 < 1000; decide), ?_⟩
   have c4 := c3.obset (f := "content") (v := .ref p2) (j := 5) 0 rfl hx (by decide +kernel) (by show 5 < 6; decide)
   have c5 : Sl H h _ [Ob A.C_Letter nLetter [iV k, iV m, iV sd, iV n, .ref pl, .ref p2] x, Pt pl (.lst (refs ps)), Pt p2 (.lst ((xs.drop 2).map iV)), Each (SomeR A) ps, Pt cl (.lst [])] := ((((c4.pull 2 rfl).pull 3 rfl).pull 4 rfl).pull 4 rfl).pull 4 rfl
   obtain ⟨dy, hy⟩ := c5.ob 0 rfl
   have h2' := c5.get 2 rfl
   refine ⟨_, rfl, _, _, rfl, rfl, _, rfl, ?_⟩
   obtain ⟨h', p', sb', fm⟩ := (qcB (n := n) (bs := xs.drop 2) hps c5).fin
   refine ite2 (fun hc => ?_) fun hc => ?_
   ·have hle : num (xs.take 2) <= 512 := by
     have := of_decide_eq_true hc
     omega
    refine ⟨_, rfl, _, rfl, x, A.C_Letter, dy, _, _, rfl, hy, T.cl_Letter, T.na_y16, lz 5, p2, _, rfl, .inl (SqL.of h2'), rfl, ?_⟩
    show Q (.bl (decide (V.int _ = V.int _))) _
    rw [lenI, List.length_drop]
    by_cases e : xs.length = 2 + num (xs.take 2)
    ·rw [decide_eq_true (by congr 1; omega)]
     exact e2 ⟨h2, hle, e⟩ _ h' sb' p' fm
    ·rw [decide_eq_false (fun z => e (by have := V.int.inj z; omega))]
     exact e1 (fun z => e z.2.2) _ fm.keep
   ·exact e1 (fun z => hc (decide_eq_true (by omega))) _ fm.keep
end
section
variable {H0 h0 H : Hp} {l : List As} {a x C : Addr} {o : HO} {P : As} {ns : List Str} {vs : List V}
theorem qfY {l : List As} {j : Nat} {h : Hp} (q : stars l h) (e : l[j]? = some (Pt a o)) : h a = some o := by
 obtain ⟨h1, h2, d, rfl, p, _⟩ := qbb (qa7 e) q
 exact qd2 (qeK p)
theorem Sl.callN (c : Sl H0 h0 H (P :: l)) : ∃ h1, P h1 /\ Sb h1 H /\ (∀ (j : Nat) (a : Addr) (o : HO), l[j]? = some (Pt a o) -> h1 a = none) /\ ∀ {H' h1' : Hp} {P' : As}, P' h1' -> Sb h1' H' -> Fm H h1 H' h1' -> Sl H0 h0 H' (P' :: l) := by
 obtain ⟨h, s, ⟨h1, h2, d, rfl, p, q⟩, f⟩ := c
 refine ⟨h1, p, s.left, fun j a o e => ?_, fun {H' h1' P'} p' s' y => ?_⟩
 ·have := qfY q e
  rcases d a with z | z
  ·exact z
  ·rw [z] at this; cases this
 ·obtain ⟨dj, sb, fr⟩ := Fm.side s d y s'
  exact ⟨uni h1' h2, sb, ⟨h1', h2, dj, rfl, p', q⟩, f.trans fr⟩
theorem Sl.frame {b : Addr} (c : Sl H0 h0 H l) (e : H0 b = some o) (n : h0 b = none) : H b = some o := by
 obtain ⟨h, _, _, f⟩ := c
 exact f.keep b o e n
theorem Sl.sameOb {H' : Hp} (c : Sl H0 h0 H l) (s : Same H H') (n : H x = none) (e : IsOb H' C ns vs x) : Sl H0 h0 H' (Ob C ns vs x :: l) := by
 obtain ⟨dx, e⟩ := e
 exact (c.same s n e).imp0 fun h p => ⟨dx, p⟩
end
section
variable {P : Program} {w : World} {K : PySem.W.Frag} {mg : Str -> Option Value} {base : Heap} {A : Adr}
def sp_z4 (A : Adr) : Sp := qbZ A 6
theorem ok_z4 (T : Txt K mg A) : FnOk P w K mg base CX0 3 A.a_z4 A.d_z4 ["letter", "rest"] (sp_z4 A) := by
 refine T.F_z4.ok sc_z4 ?_ ?_
 ·rintro _ _ _ _ ⟨x, r, m, s, xs, h, rfl, _⟩
  rfl
 ·rintro cdv Ar outer s H _ Q E hr ⟨x, r, m, sd, xs, h, rfl, hr0, hrn, hl, sb, hL, e1, e2⟩
  have nd := sc_z4.nd
  refine ⟨_, (qab (qau (pv 0) (qaw (qcV T) hr.md rfl T.mg_z80 T.F_z80.kp T.b_z80 .nil pass0 (qaa (qaZ qbj (pv 1) qci (qaP (qai rfl T.c_NAME_OCTETS))) qad)) rfl)
   (qac (qag (qaw (qks T) hr.md rfl T.mg_z42 T.F_z42.kp T.b_z42 .nil pass0 (qaa (pv 0) (qaa (qaZ qbj (pv 1) (qaP (qai rfl T.c_NAME_OCTETS)) qci) qad)))))), ?_⟩
  have c0 := Sl.init sb hL
  refine ⟨_, rfl, _, rfl, r, _, rfl, SqL.of hr0, fun p1 hp1 => ?_⟩
  rw [show cutV (xs.map iV) none (some 20) = (xs.take 20).map iV from qjE xs 20]
  refine ⟨p1, xs.take 20, rfl, SqL.of qaf, ?_⟩
  have c1 := c0.lay (o := .lst ((xs.take 20).map iV)) hp1
  obtain ⟨pl, cl, ps, hps, c2⟩ := qbx c1
  obtain ⟨dx, hx⟩ := c2.ob 0 rfl
  refine ⟨_, rfl, x, A.C_Letter, dx, _, rfl, hx, T.cl_Letter, T.na_y19, (by show 6 < 1000; decide), ?_⟩
  have c3 := c2.obset (f := "name") (v := iV (num (xs.take 20))) (j := 3) 0 rfl hx (by decide +kernel) (by show 3 < 6; decide)
  have c4 := qcB (n := num (xs.take 20)) hps c3
  have hr2 := c4.frame hr0 hrn
  refine ⟨_, rfl, _, rfl, _, rfl, r, _, rfl, SqL.of hr2, fun p2 hp2 => ?_⟩
  rw [show cutV (xs.map iV) (some 20) none = (xs.drop 20).map iV from qdS xs 20]
  have c5 := (c4.new (o := .lst ((xs.drop 20).map iV)) hp2).pull 1 rfl
  obtain ⟨h1, hP, sb1, ap, kc⟩ := c5.callN
  refine ⟨x, p2, 6, m, sd, num (xs.take 20), xs.drop 20, h1, rfl, qaf, ap 0 p2 _ rfl, by rw [List.length_drop]; omega, sb1, hP, fun hc H' keep => ?_, fun hc H' h' sb' hL' fm => ?_⟩
  ·refine e1 ?_ H' fun b o hb hn => ?_
   ·unfold bodyOf
    rw [if_neg (by decide), if_neg (by decide), if_neg (by decide), if_neg (by decide), if_neg (by decide), if_neg (by decide), if_pos rfl, if_neg]
    intro z
    exact hc ⟨by rw [List.length_drop]; omega, z.2.1, by rw [List.length_drop]; omega⟩
   ·have c6 := kc (P' := fun h => h = emp) (H' := H') (h1' := emp) rfl (fun _ _ z => by cases z) ⟨keep, fun b n => absurd rfl n⟩
    obtain ⟨h', _, _, fm⟩ := c6
    exact fm.keep b o hb hn
  ·obtain ⟨h2, p', sb2, fm2⟩ := (kc hL' sb' fm).fin
   refine e2 (.store (num (xs.take 20)) (xs.drop 22)) ?_ H' h2 sb2 ?_ fm2
   ·unfold bodyOf
    rw [if_neg (by decide), if_neg (by decide), if_neg (by decide), if_neg (by decide), if_neg (by decide), if_neg (by decide), if_pos rfl, if_pos]
    rw [List.length_drop] at hc
    exact ⟨by omega, hc.2.1, by omega⟩
   ·have : (xs.drop 20).drop 2 = xs.drop 22 := by rw [List.drop_drop]
    rw [this] at p'
    exact p'
def sp_z45 (A : Adr) : Sp := fun vs H Q _ => ∃ (o : Addr) (st : Nat) (xs : List Nat), vs = [.ref o, iV st] /\ IsL H o xs /\
 ∀ H' x, Same H H' -> H x = none -> IsOb H' A.C_Someone nSomeone [iV (num ((xs.drop st).take 20)), iV (num ((xs.drop (st + 20)).take 6)), .bl false] x -> Q (.ref x) H'
theorem ok_z45 (T : Txt K mg A) : FnOk P w K mg base CX0 3 A.a_z45 A.d_z45 ["octets", "start"] (sp_z45 A) := by
 refine T.F_z45.ok qjc ?_ ?_
 ·rintro _ _ _ _ ⟨o, st, xs, rfl, _⟩
  rfl
 ·rintro cdv Ar outer s H _ Q E hr ⟨o, st, xs, rfl, ho, k⟩
  have nd := qjc.nd
  refine ⟨_, (qab (qax (i := 2) nd rfl (Or.inl rfl) (qaK qce (pv 1) (qai rfl T.c_NAME_OCTETS)))
   (qab (qax (i := 3) nd rfl (Or.inl rfl) (qaK qce (pv 2) (qai rfl T.c_ADDRESS_OCTETS)))
   (qac (qag (qa8 T.mk_Someone (qht T) hr.md rfl T.mg_Someone T.b_z41 .nil pass0 (qaa (qaw (qcV T) hr.md rfl T.mg_z80 T.F_z80.kp T.b_z80 .nil pass0 (qaa (qaZ qbj (pv 0) (qaP (pv 1)) (qaP (pv 2))) qad)) (qaa (qaw (qcV T) hr.md rfl T.mg_z80 T.F_z80.kp T.b_z80 .nil pass0 (qaa (qaZ qbj (pv 0) (qaP (pv 2)) (qaP (pv 3))) qad)) qad))))))), ?_⟩
  refine ⟨_, rfl, _, _, rfl, rfl, _, rfl, _, _, rfl, rfl, ?_⟩
  refine ⟨_, rfl, _, rfl, _, rfl, _, rfl, _, rfl, o, _, rfl, SqL.of ho, fun p1 hp1 => ?_⟩
  rw [show cutV (xs.map iV) (some (st : Int)) (some ((st : Int) + 20)) = ((xs.drop st).take 20).map iV from (qc2 xs st (st + 20)).trans (by rw [Nat.add_sub_cancel_left])]
  refine ⟨p1, _, rfl, SqL.of qaf, ?_⟩
  have ho1 : IsL (upd H p1 (.lst (((xs.drop st).take 20).map iV))) o xs := qal hp1 _ _ ho
  refine ⟨_, rfl, _, rfl, _, rfl, _, rfl, _, rfl, o, _, rfl, SqL.of ho1, fun p2 hp2 => ?_⟩
  rw [show cutV (xs.map iV) (some ((st : Int) + 20)) (some ((st : Int) + 20 + 6)) = ((xs.drop (st + 20)).take 6).map iV from (qc2 xs (st + 20) (st + 20 + 6)).trans (by rw [Nat.add_sub_cancel_left])]
  refine ⟨p2, _, rfl, SqL.of qaf, ?_⟩
  have s2 := (qal (o := .lst (((xs.drop st).take 20).map iV)) hp1).trans (qal (o := .lst (((xs.drop (st + 20)).take 6).map iV)) hp2)
  intro x dx nx ndx ne
  refine ⟨x, dx, _, _, rfl, qaf, fun H' ob kp => ⟨rfl, k H' x ?_ (s2.free nx) ob⟩⟩
  exact s2.trans (Same.made nx ndx kp)
def sp_z50 (A : Adr) : Sp := qbZ A 3
theorem qcO {xs : List Nat} (h : ¬ (1 <= xs.length /\ xs.headD 0 <= 8 /\ xs.length = 1 + 26 * xs.headD 0)) : bodyOf 3 xs = none := by
 unfold bodyOf
 rw [if_neg (by decide), if_neg (by decide), if_neg (by decide), if_pos rfl, if_neg h]
theorem qgl {xs : List Nat} (h : 1 <= xs.length /\ xs.headD 0 <= 8 /\ xs.length = 1 + 26 * xs.headD 0) : bodyOf 3 xs = some (.nodes (contacts (xs.headD 0) (xs.drop 1))) := by
 unfold bodyOf
 rw [if_neg (by decide), if_neg (by decide), if_neg (by decide), if_pos rfl, if_pos h]
theorem at0 {n : Nat} {xs : List Nat} : atI ((n :: xs).map iV) 0 = some (iV n) := qbo (j := 0) rfl
theorem tYesI {σ : L2.St} {H : Hp} {f g : Hp -> Prop} (h : f H) : tYes σ H (fun b H3 => if b = true then f H3 else g H3) := by
 show (if true = true then f H else g H)
 rw [if_pos rfl]
 exact h
theorem qaF {α : Type} (ps : List (Addr × α)) (q : Addr × α) : refs (ps ++ [q]) = refs ps ++ [V.ref q.1] := by unfold refs; rw [List.map_append]; rfl
theorem qaj {α : Type} (ps : List (Addr × α)) : (refs ps).length = ps.length := by unfold refs; rw [List.length_map]
theorem ok_z50 (T : Txt K mg A) : FnOk P w K mg base CX0 4 A.a_z50 A.d_z50 ["letter", "rest"] (sp_z50 A) := by
 refine T.F_z50.ok qj1 ?_ ?_
 ·rintro _ _ _ _ ⟨x, r, m, s, xs, h, rfl, _⟩
  rfl
 ·rintro cdv Ar outer s H _ Q E hr ⟨x, r, m, sd, xs, h, rfl, hr0, hrn, hl, sb, hL, e1, e2⟩
  have nd := qj1.nd
  refine ⟨_, (qab (qaC (PW.pt (qck (qar qbN (qav qah (by rfl) T.n_len PySem.boot_len (qaa (pv 1) qad)) qan (nomark _)) (qbI (qar qeP (qcj qbp (pv 1) qan (fun _ _ => rfl)) (qai rfl T.c_MOST_PEOPLE) (nomark _))))) (qac (qag qcY)) qao)
   (qab (qaC (qar qdA (qav qah (by rfl) T.n_len PySem.boot_len (qaa (pv 1) qad)) (qaK qce qan (qaK qeI (qcj qbp (pv 1) qan (fun _ _ => rfl)) (qai rfl T.c_SOMEONE_OCTETS))) (nomark _)) (qac (qag qcY)) qao)
   (qab (qau (pv 0) (qgk rfl nd (qe2 rfl T.n_range (qaa (qcj qbp (pv 1) qan (fun _ _ => rfl)) qad)) (own := [("k", 2)]) (qcd (by rfl)) (fun _ _ _ _ _ => qaN (i := 2) nd rfl (Or.inl rfl)) (fun _ _ _ _ _ => qgG) (fun _ _ _ _ _ => (qaw (ok_z45 T) hr.md rfl T.mg_z45 T.F_z45.kp T.b_z45 .nil pass0 (qaa (pv 1) (qaa (qaK qce qan (qaK qeI (pv 2) (qai rfl T.c_SOMEONE_OCTETS))) qad))))) rfl)
   (qac (qag qcY))))), ?_⟩
  have keep0 : ∀ b o, H b = some o -> h b = none -> H b = some o := fun _ _ e _ => e
  refine ⟨_, rfl, r, _, rfl, .inl (SqL.of hr0), rfl, _, rfl, ?_⟩
  cases xs with
  | nil =>
   rw [decide_eq_true (by rfl)]
   refine iteT (iteT ?_)
   exact e1 (qcO fun z => by have := z.1; simp at this) H keep0
  | cons n xs =>
   rw [decide_eq_false (fun z => by have := V.int.inj z; rw [List.length_map, List.length_cons] at this; omega)]
   refine iteF ?_
   refine ⟨_, rfl, r, _, _, _, rfl, rfl, SqL.of hr0, at0, _, _, rfl, rfl, _, rfl, ?_⟩
   refine ite2 (fun hc => ?_) fun hc => ?_
   ·have : 8 < n := by have := of_decide_eq_true hc; omega
    exact e1 (qcO fun z => by have := z.2.1; simp at this; omega) H keep0
   ·have hn8 : n <= 8 := by
     refine Nat.le_of_not_lt fun z => hc (decide_eq_true ?_)
     omega
    refine ⟨_, rfl, r, _, rfl, .inl (SqL.of hr0), _, rfl, r, _, _, _, rfl, rfl, SqL.of hr0, at0, _, _, rfl, rfl, .inr ⟨by decide, by decide⟩, _, _, rfl, rfl, rfl, _, rfl, ?_⟩
    by_cases hlen : (n :: xs).length = 1 + 26 * n
    ·have hok : 1 <= (n :: xs).length /\ (n :: xs).headD 0 <= 8 /\ (n :: xs).length = 1 + 26 * (n :: xs).headD 0 := ⟨by simp, hn8, hlen⟩
     rw [decide_eq_true (show V.int _ = V.int _ by congr 1; rw [lenI, hlen]; omega)]
     refine iteF ?_
     refine ⟨_, rfl, r, _, _, _, rfl, rfl, SqL.of hr0, at0, n, rfl, by omega, by omega, fun D hD => ?_⟩
     have ed : ((n : Int)).toNat = n := Int.toNat_natCast n
     have c0 := (Sl.init sb hL).new (o := .lst []) hD
     refine qfG (Pv := fun i H' => ∃ ps : List (Addr × Contact), ps.map Prod.snd = (contacts n xs).take i /\ Sl H h H' [Pt D (.lst (refs ps)), LetR A x 3 m sd 0 [] [], Each (SomeR A) ps]) ⟨[], by simp, ((c0.emp0 (R := SomeR A)).pull 2 rfl).pull 2 rfl⟩ ?_ ?_
     ·rintro i H1 hi ⟨ps, hps, c1⟩
      rw [ed] at hi
      have hr1 := c1.frame hr0 hrn
      refine ⟨rfl, ?_⟩
      refine tYesI ?_
      refine ⟨_, rfl, _, rfl, _, _, rfl, rfl, .inr ⟨by decide, by decide⟩, _, _, rfl, rfl, r, 1 + 26 * i, _, ?_, hr1, fun H2 y s2 ny oy => ?_⟩
      ·show [V.ref r, V.int (1 + (0 + (i : Int)) * 26)] = [V.ref r, V.int ((1 + 26 * i : Nat) : Int)]
       congr 2
       congr 1
       omega
      ·have c2 := (c1.sameOb s2 ny oy)
       refine ⟨refs ps, c2.get 1 rfl, ?_, ?_⟩
       ·have := congrArg List.length hps
        rw [List.length_map, List.length_take, qbu] at this
        rw [qaj]
        exact small1000 (by omega)
       ·have c3 := c2.set (o' := .lst (refs ps ++ [V.ref y])) 1 rfl
        have hq := qdq n xs i hi
        have e3 : (n :: xs).drop (1 + 26 * i) = xs.drop (26 * i) := by rw [Nat.add_comm]; rfl
        have e4 : (n :: xs).drop (1 + 26 * i + 20) = xs.drop (26 * i + 20) := by rw [show 1 + 26 * i + 20 = (26 * i + 20) + 1 by omega]; rfl
        rw [e3, e4] at c3
        refine ⟨ps ++ [(y, ⟨num ((xs.drop (26 * i)).take 20), num ((xs.drop (26 * i + 20)).take 6), 0⟩)], ?_, ?_⟩
        ·rw [List.map_append, hps, show (contacts n xs).take (i + 1) = (contacts n xs).take i ++ ((contacts n xs)[i]?).toList from List.take_add_one, hq]; rfl
        ·rw [qaF]
         have c4 : Sl H h _ [SomeR A (y, ⟨num ((xs.drop (26 * i)).take 20), num ((xs.drop (26 * i + 20)).take 6), 0⟩), Each (SomeR A) ps, Pt D (.lst (refs ps ++ [V.ref y])), LetR A x 3 m sd 0 [] []] := (c3.pull 3 rfl).pull 1 rfl
         exact ((c4.back0 (List.perm_append_comm.trans (.refl _))).pull 2 rfl).pull 2 rfl
     ·rintro H1 ⟨ps, hps, c1⟩
      rw [ed, List.take_of_length_le (by rw [qbu]; exact Nat.le_refl _)] at hps
      obtain ⟨pl, cl, qs, hqs, c2⟩ := qbx (c1.pull 1 rfl)
      obtain ⟨dx, hx⟩ := c2.ob 0 rfl
      refine ⟨_, rfl, x, A.C_Letter, dx, _, rfl, hx, T.cl_Letter, T.na_y20, (by show 6 < 1000; decide), ?_⟩
      have c3 := c2.obset (f := "people") (v := .ref D) (j := 4) 0 rfl hx (by decide +kernel) (by show 4 < 6; decide)
      have c4 : Sl H h _ (Ob A.C_Letter nLetter [iV 3, iV m, iV sd, iV 0, .ref D, .ref cl] x :: Pt D (.lst (refs ps)) :: Pt cl (.lst (([] : List Nat).map iV)) :: Each (SomeR A) ps :: [Pt pl (.lst (refs qs)), Each (SomeR A) qs]) :=
       ((((((c3.pull 3 rfl).pull 2 rfl).pull 5 rfl).pull 4 rfl).pull 5 rfl).pull 5 rfl)
      obtain ⟨h', p', sb', fm⟩ := (qcB hps c4).fin
      exact e2 _ (qgl hok) _ h' sb' p' fm
    ·rw [decide_eq_false (show ¬ V.int _ = V.int _ from fun z => hlen (by have := V.int.inj z; rw [lenI] at this; omega))]
     refine iteT ?_
     exact e1 (qcO fun z => hlen z.2.2) H keep0
theorem Sl.nil (H : Hp) : Sl H emp H [] := ⟨emp, fun _ _ z => (by cases z), rfl, Fm.refl _ _⟩
def readerAt (A : Adr) : Nat -> Addr
 | 0 => A.a_z43
 | 1 => A.a_z43
 | 2 => A.a_z78
 | 3 => A.a_z50
 | 4 => A.a_z78
 | 5 => A.a_z42
 | 6 => A.a_z4
 | _ => A.a_z43
abbrev readersL (A : Adr) : List (Int × Addr) := [(0, A.a_z43), (1, A.a_z43), (2, A.a_z78), (3, A.a_z50), (4, A.a_z78), (5, A.a_z42), (6, A.a_z4), (7, A.a_z43)]
theorem qdK (A : Adr) : ∀ n : Nat, n < 8 -> kAt (readersL A) (n : Int) = some (readerAt A n)
 | 0, _ => rfl
 | 1, _ => rfl
 | 2, _ => rfl
 | 3, _ => rfl
 | 4, _ => rfl
 | 5, _ => rfl
 | 6, _ => rfl
 | 7, _ => rfl
 | n + 8, h => by omega
theorem qf7 (A : Adr) {n : Nat} (h : 8 <= n) : kAt (readersL A) (n : Int) = none := by
 unfold kAt
 rw [Option.map_eq_none_iff, List.find?_eq_none]
 intro q hq
 simp only [readersL, List.mem_cons, List.not_mem_nil, or_false] at hq
 simp only [decide_eq_true_eq]
 rcases hq with rfl | rfl | rfl | rfl | rfl | rfl | rfl | rfl <;> (dsimp only; omega)
theorem qfs (T : Txt K mg A) : FamOk P w K mg base CX0 4 (fun n => n < 8) (readerAt A) (qbZ A)
 | 0, _ => ⟨_, _, qbD (qhH T) (by decide) fun vs H Q E h => ⟨0, .inl rfl, h⟩, T.b_z43, T.F_z43.kp⟩
 | 1, _ => ⟨_, _, qbD (qhH T) (by decide) fun vs H Q E h => ⟨1, .inr (.inl rfl), h⟩, T.b_z43, T.F_z43.kp⟩
 | 2, _ => ⟨_, _, qbD (qja T) (by decide) fun vs H Q E h => ⟨2, .inl rfl, h⟩, T.b_z78, T.F_z78.kp⟩
 | 3, _ => ⟨_, _, qbD (ok_z50 T) (by decide) fun vs H Q E h => h, T.b_z50, T.F_z50.kp⟩
 | 4, _ => ⟨_, _, qbD (qja T) (by decide) fun vs H Q E h => ⟨4, .inr rfl, h⟩, T.b_z78, T.F_z78.kp⟩
 | 5, _ => ⟨_, _, qbD (qks T) (by decide) fun vs H Q E h => by
   obtain ⟨x, r, m, s, xs, h, e, h1, h2, h3, h4, h5, h6, h7⟩ := h
   refine ⟨x, r, 5, m, s, 0, xs, h, e, h1, h2, h3, h4, h5, fun hc => h6 ?_, fun hc H' h' a b c => h7 (.value (xs.drop 2)) ?_ H' h' a b c⟩
   ·unfold bodyOf
    rw [if_neg (by decide), if_neg (by decide), if_neg (by decide), if_neg (by decide), if_neg (by decide), if_pos rfl, if_neg hc]
   ·unfold bodyOf
    rw [if_neg (by decide), if_neg (by decide), if_neg (by decide), if_neg (by decide), if_neg (by decide), if_pos rfl, if_pos hc], T.b_z42, T.F_z42.kp⟩
 | 6, _ => ⟨_, _, qbD (ok_z4 T) (by decide) fun vs H Q E h => h, T.b_z4, T.F_z4.kp⟩
 | 7, _ => ⟨_, _, qbD (qhH T) (by decide) fun vs H Q E h => ⟨7, .inr (.inr rfl), h⟩, T.b_z43, T.F_z43.kp⟩
 | n + 8, h => by omega
def sp_z53 (A : Adr) : Sp := fun vs H Q _ => ∃ (o : Addr) (xs : List Nat), vs = [.ref o] /\ IsL H o xs /\ xs.length <= 1100 /\ (letterOf xs = none -> ∀ H', Same H H' -> Q .non H') /\
 (∀ l : Rc50.Letter, letterOf xs = some l -> ∀ H' x h', Sb h' H' -> LetR A x (kindOf l.body) l.mark l.sender (nameIn l.body) (peopleIn l.body) (bytesIn l.body) h' -> Fm H emp H' h' -> Q (.ref x) H')
theorem ok_z53 (T : Txt K mg A) : FnOk P w K mg base CX0 5 A.a_z53 A.d_z53 ["octets"] (sp_z53 A) := by
 refine T.F_z53.ok qj9 ?_ ?_
 ·rintro _ _ _ _ ⟨o, xs, rfl, _⟩
  rfl
 ·rintro cdv Ar outer s H _ Q E hr ⟨o, xs, rfl, ho, hl, e1, e2⟩
  have nd := qj9.nd
  refine ⟨_, (qab (qaC (PW.pt (qck (qar qdP (qav qah (by rfl) T.n_len PySem.boot_len (qaa (pv 0) qad)) (qai rfl T.c_HEAD_OCTETS) (nomark _)) (qbI (qbf (qgI (qcj qbp (pv 0) qan (fun _ _ => rfl)) (qdm rfl T.g_READERS)))))) (qac (qag qbt)) qao)
   (qab (qax (i := 1) nd rfl (Or.inl rfl) (qa8 T.mk_Letter (ok_z54 T) hr.md rfl T.mg_Letter T.b_z54 .nil pass0 (qaa (qcj qbp (pv 0) qan (fun _ _ => rfl)) (qaa (qaw (qcV T) hr.md rfl T.mg_z80 T.F_z80.kp T.b_z80 .nil pass0 (qaa (qaZ qbj (pv 0) (qaP qan) (qaP (qai rfl T.c_MARK_END))) qad)) (qaa (qaw (qcV T) hr.md rfl T.mg_z80 T.F_z80.kp T.b_z80 .nil pass0 (qaa (qaZ qbj (pv 0) (qaP (qai rfl T.c_MARK_END)) (qaP (qai rfl T.c_HEAD_OCTETS))) qad)) qad)))))
   (qab (qax (i := 2) nd rfl (Or.inl rfl) (qfq (qdm rfl T.g_READERS) (qae (pv 1) rfl) (fun _ _ => rfl)))
   (qab (qaC (qeC (qbC (qf5 (pv 2) (qfs T) hr.md pass0 (qaa (pv 1) (qaa (qaZ qbj (pv 0) (qaP (qai rfl T.c_HEAD_OCTETS)) qci) qad))))) (qac (qag qbt)) qao)
   (qac (qag (pv 1))))))), ?_⟩
  refine ⟨_, rfl, o, _, rfl, .inl (SqL.of ho), _, _, rfl, rfl, _, rfl, ?_⟩
  refine ite2 (fun hc => ?_) fun hc => ?_
  ·have : xs.length < 29 := by have := of_decide_eq_true hc; rw [lenI] at this; omega
   exact iteT (e1 (by rw [qdp, if_pos this]) H (Same.refl H))
  ·have h29 : ¬ xs.length < 29 := fun z => hc (decide_eq_true (by rw [lenI]; omega))
   cases xs with
   | nil => exact absurd (by decide) h29
   | cons n xs =>
    refine ⟨_, rfl, o, _, _, _, rfl, rfl, SqL.of ho, at0, A.g_READERS, _, n, rfl, T.k_READERS, rfl, _, rfl, ?_⟩
    have hlet : letterOf (n :: xs) = (bodyOf n ((n :: xs).drop 29)).map fun x => ⟨num (((n :: xs).drop 1).take 8), num (((n :: xs).drop 9).take 20), x⟩ := by
     rw [qdp, if_neg h29]; rfl
    by_cases hn : n < 8
    ·rw [show (!(kAt (readersL A) (n : Int)).isSome) = false by rw [qdK A n hn]; rfl]
     refine iteF ?_
     refine ⟨_, rfl, o, _, _, _, rfl, rfl, SqL.of ho, at0, _, rfl, _, rfl, _, rfl, o, _, rfl, SqL.of ho, fun p1 hp1 => ?_⟩
     rw [show cutV ((n :: xs).map iV) (some 1) (some 9) = (((n :: xs).drop 1).take 8).map iV from qc2 (n :: xs) 1 9]
     refine ⟨p1, _, rfl, SqL.of qaf, ?_⟩
     have s1 := qal (o := .lst ((((n :: xs).drop 1).take 8).map iV)) hp1
     refine ⟨_, rfl, _, rfl, _, rfl, o, _, rfl, SqL.of (s1 _ _ ho), fun p2 hp2 => ?_⟩
     rw [show cutV ((n :: xs).map iV) (some 9) (some 29) = (((n :: xs).drop 9).take 20).map iV from qc2 (n :: xs) 9 29]
     refine ⟨p2, _, rfl, SqL.of qaf, ?_⟩
     have s2 := s1.trans (qal (o := .lst ((((n :: xs).drop 9).take 20).map iV)) hp2)
     have c2 := ((Sl.nil H).lay (o := .lst ((((n :: xs).drop 1).take 8).map iV)) hp1).lay (o := .lst ((((n :: xs).drop 9).take 20).map iV)) hp2
     intro x dx nx ndx ne
     refine ⟨x, dx, n, _, _, rfl, qaf, fun H3 h3 sb3 lr3 fm3 => ⟨rfl, ?_⟩⟩
     have c3 := c2.made nx ndx ne lr3 sb3 fm3
     obtain ⟨pl, cl, qs, hqs, c4⟩ := qbx c3
     obtain ⟨dy, hx⟩ := c4.ob 0 rfl
     refine ⟨_, rfl, x, A.C_Letter, dy, _, _, rfl, hx, T.cl_Letter, T.na_y17, lz 0, A.g_READERS, _, n, readerAt A n, rfl, T.k_READERS, rfl, qdK A n hn, ?_⟩
     have ho3 : IsL H3 o (n :: xs) := c3.frame ho rfl
     refine ⟨n, rfl, hn, _, rfl, _, rfl, _, rfl, o, _, rfl, SqL.of ho3, fun p3 hp3 => ?_⟩
     rw [show cutV ((n :: xs).map iV) (some 29) none = ((n :: xs).drop 29).map iV from qdS (n :: xs) 29]
     have c5 := (c3.new (o := .lst (((n :: xs).drop 29).map iV)) hp3).pull 1 rfl
     obtain ⟨h1, hP, sb1, ap, kc⟩ := c5.callN
     refine ⟨x, p3, _, _, (n :: xs).drop 29, h1, rfl, qaf, ap 0 p3 _ rfl, by rw [List.length_drop]; omega, sb1, hP, fun hb H4 keep => ?_, fun body hb H4 h4 sb4 lr4 fm4 => ?_⟩
     ·refine ⟨_, rfl, ?_⟩
      refine iteT (e1 (by rw [hlet, hb]; rfl) H4 fun b u e => ?_)
      have c6 := kc (P' := fun h => h = emp) (H' := H4) (h1' := emp) rfl (fun _ _ z => by cases z) ⟨keep, fun b n => absurd rfl n⟩
      exact c6.frame e rfl
     ·refine ⟨_, rfl, ?_⟩
      refine iteF ⟨_, rfl, ?_⟩
      obtain ⟨h5, p5, sb5, fm5⟩ := (kc lr4 sb4 fm4).fin
      have hk := qe7 hb
      refine e2 ⟨_, _, body⟩ (by rw [hlet, hb]; rfl) H4 x h5 sb5 ?_ fm5
      dsimp only
      rw [hk]
      exact p5
    ·rw [show (!(kAt (readersL A) (n : Int)).isSome) = true by rw [qf7 A (by omega)]; rfl]
     exact iteT (e1 (by rw [hlet, qfv (by omega)]; rfl) H (Same.refl H))
end
theorem qdu : ∀ (n x y : Nat), x < 2 ^ n -> (x ^^^ y) + 2 * (x &&& y) = x + y
 | 0, x, y, h => by
  have : x = 0 := by simpa using h
  subst this
  simp
 | n + 1, x, y, h => by
  have ih := qdu n (x / 2) (y / 2) (by rw [Nat.pow_succ] at h; omega)
  have e1 : (x ^^^ y) / 2 = x / 2 ^^^ y / 2 := Nat.xor_div_two
  have e2 : (x &&& y) / 2 = x / 2 &&& y / 2 := Nat.and_div_two
  have m1 : (x ^^^ y) % 2 = x % 2 ^^^ y % 2 := Nat.xor_mod_two_pow (n := 1)
  have m2 : (x &&& y) % 2 = x % 2 &&& y % 2 := Nat.and_mod_two_pow (n := 1)
  have hx : x % 2 = 0 \/ x % 2 = 1 := by omega
  have hy : y % 2 = 0 \/ y % 2 = 1 := by omega
  generalize x ^^^ y = u at *
  generalize x &&& y = v at *
  rw [<- e1, <- e2] at ih
  rcases hx with hx | hx <;> rcases hy with hy | hy <;> rw [hx, hy] at m1 m2 <;> simp at m1 m2 <;> omega
theorem qbd (x y : Nat) : Builtin.bitXor (x : Int) (y : Int) = ((Nat.xor x y : Nat) : Int) := by
 rw [PyProof.Rows.bitXor_and, PyProof.Rows.bitAnd_pp (by omega) (by omega)]
 have h := qdu x x y Nat.lt_two_pow_self
 show (x : Int) + y - 2 * ((x &&& y : Nat) : Int) = ((x ^^^ y : Nat) : Int)
 generalize x ^^^ y = u at *
 generalize x &&& y = v at *
 omega
theorem qg9 (x k : Nat) : (x : Int) / 2 ^ k = ((x / 2 ^ k : Nat) : Int) := by
 rw [Int.natCast_ediv, Int.natCast_pow]
 rfl
theorem qh9 {x : Nat} (h : x ≠ 0) : ((Builtin.Int.intBits (x : Int) : Nat) : Int) - 1 = ((x.log2 : Nat) : Int) := by
 unfold Builtin.Int.intBits
 have : ((x : Int) == 0) = false := by simp; exact h
 rw [this]
 simp
section
variable {P : Program} {w : World} {K : PySem.W.Frag} {mg : Str -> Option Value} {base : Heap} {A : Adr}
abbrev nChance : List Str := ["state"]
def sp_z48 (A : Adr) : Sp := fun vs H Q _ => ∃ (x dx : Addr) (st : Nat), vs = [.ref x, iV st] /\ H x = some (.ins A.C_Chance dx []) /\ ∀ H' h', Sb h' H' -> Ob A.C_Chance nChance [iV st] x h' -> Fm H (cel x (.ins A.C_Chance dx [])) H' h' -> Q .non H'
theorem ok_z48 (T : Txt K mg A) : FnOk P w K mg base CX0 1 A.a_z48 A.d_z48 ["self", "seed"] (sp_z48 A) := by
 refine T.F_z48.ok qjo ?_ ?_
 ·rintro _ _ _ _ ⟨x, dx, st, rfl, _⟩
  rfl
 ·rintro cdv Ar outer s H _ Q E hr ⟨x, dx, st, rfl, hx, k⟩
  have nd := qjo.nd
  refine ⟨_, (qac (qau (pv 0) (pv 1) rfl)), ?_⟩
  refine ⟨_, rfl, _, rfl, x, A.C_Chance, dx, _, rfl, hx, T.cl_Chance, T.na_y12, (by show 0 < 1000; decide), ?_⟩
  have c1 := (init0 hx).set (o' := .ins A.C_Chance dx (putF "state" (iV st) [])) 0 rfl
  obtain ⟨h', p', sb, fm⟩ := c1.fin
  exact k _ h' sb ⟨dx, p'⟩ fm
theorem qfj (st : Nat) : V.int (((st : Int) + 11400714819323198485) % 18446744073709551616) = iV (goOn st) := by
 unfold goOn iV
 congr 1
theorem qfI (z k : Nat) (f : Nat) : V.int (Builtin.bitXor (z : Int) ((z : Int) / 2 ^ (k : Int).toNat) * (f : Int) % 18446744073709551616) = iV ((z ^^^ z / 2 ^ k) * f % 2 ^ 64) := by
 unfold iV
 congr 1
 rw [Int.toNat_natCast, qg9, qbd]
 show (((z ^^^ z / 2 ^ k : Nat) : Int) * (f : Int)) % 18446744073709551616 = (((z ^^^ z / 2 ^ k) * f % 2 ^ 64 : Nat) : Int)
 rw [Int.natCast_emod, Int.natCast_mul]
 rfl
theorem qij (z k : Nat) : V.int (Builtin.bitXor (z : Int) ((z : Int) / 2 ^ (k : Int).toNat)) = iV (z ^^^ z / 2 ^ k) := by
 unfold iV
 congr 1
 rw [Int.toNat_natCast, qg9, qbd]
 rfl
def sp_z49 (A : Adr) : Sp := fun vs H Q _ => ∃ (p : Addr) (st : Nat) (h : Hp), vs = [.ref p] /\ Sb h H /\ Ob A.C_Chance nChance [iV st] p h /\ ∀ H' h', Sb h' H' -> Ob A.C_Chance nChance [iV (goOn st)] p h' -> Fm H h H' h' -> Q (iV (mixed (goOn st))) H'
theorem big1 : -(2 ^ 64) < (13787848793156543929 : Int) /\ (13787848793156543929 : Int) < 2 ^ 64 := by decide +kernel
theorem big2 : -(2 ^ 64) < (10723151780598845931 : Int) /\ (10723151780598845931 : Int) < 2 ^ 64 := by decide +kernel
theorem pos64 : (0 : Int) < 18446744073709551616 := by decide +kernel
theorem ok_z49 (T : Txt K mg A) : FnOk P w K mg base CX0 1 A.a_z49 A.d_z49 ["self"] (sp_z49 A) := by
 refine T.F_z49.ok qju ?_ ?_
 ·rintro _ _ _ _ ⟨p, st, h, rfl, _⟩
  rfl
 ·rintro cdv Ar outer s H _ Q E hr ⟨p, st, h, rfl, sb, ho, k⟩
  have nd := qju.nd
  refine ⟨_, (qab (qau (pv 0) (qaK qfM (qaK qce (qae (pv 0) rfl) (qai rfl T.c_STEP)) (qai rfl T.c_STATES)) rfl)
   (qab (qax (i := 1) nd rfl (Or.inl rfl) (qae (pv 0) rfl))
   (qab (qax (i := 2) nd rfl (Or.inl rfl) (qaK qfM (qaK qeI (qaK qf4 (pv 1) (qaK qhl (pv 1) qan)) (qai rfl T.c_FIRST_FACTOR)) (qai rfl T.c_STATES)))
   (qab (qax (i := 3) nd rfl (Or.inl rfl) (qaK qfM (qaK qeI (qaK qf4 (pv 2) (qaK qhl (pv 2) qan)) (qai rfl T.c_SECOND_FACTOR)) (qai rfl T.c_STATES)))
   (qac (qag (qaK qf4 (pv 3) (qaK qhl (pv 3) qan)))))))), ?_⟩
  have c0 := Sl.init sb ho
  obtain ⟨dx, hp⟩ := c0.ob 0 rfl
  refine ⟨_, rfl, p, A.C_Chance, dx, _, _, rfl, hp, T.cl_Chance, T.na_y12, lz 0, _, _, rfl, rfl, _, _, rfl, rfl, pos64, _, rfl, p, A.C_Chance, dx, _, rfl, hp, T.cl_Chance, T.na_y12, (by show 1 < 1000; decide), ?_⟩
  dsimp only
  rw [qfj]
  have c1 := c0.obset (f := "state") (v := iV (goOn st)) (j := 0) 0 rfl hp (by decide +kernel) (by show 0 < 1; decide)
  obtain ⟨dy, hp1⟩ := c1.ob 0 rfl
  refine ⟨_, rfl, p, A.C_Chance, dy, _, _, rfl, hp1, T.cl_Chance, T.na_y12, lz 0, ?_⟩
  generalize goOn st = z at *
  refine ⟨_, rfl, _, rfl, _, _, rfl, rfl, (by show (0 : Int) <= 30; decide), _, _, rfl, rfl, _, _, rfl, rfl, .inr big1, _, _, rfl, rfl, pos64, ?_⟩
  dsimp only
  rw [show V.int (Builtin.bitXor (z : Int) ((z : Int) / 2 ^ (30 : Int).toNat) * 13787848793156543929 % 18446744073709551616) = iV (mA z) from qfI z 30 13787848793156543929]
  refine ⟨_, rfl, _, rfl, _, _, rfl, rfl, (by show (0 : Int) <= 27; decide), _, _, rfl, rfl, _, _, rfl, rfl, .inr big2, _, _, rfl, rfl, pos64, ?_⟩
  dsimp only
  rw [show V.int (Builtin.bitXor (mA z : Int) ((mA z : Int) / 2 ^ (27 : Int).toNat) * 10723151780598845931 % 18446744073709551616) = iV (mB (mA z)) from qfI (mA z) 27 10723151780598845931]
  refine ⟨_, rfl, _, rfl, _, _, rfl, rfl, (by show (0 : Int) <= 31; decide), _, _, rfl, rfl, ?_⟩
  dsimp only
  rw [show V.int (Builtin.bitXor (mB (mA z) : Int) ((mB (mA z) : Int) / 2 ^ (31 : Int).toNat)) = iV (mixed z) from (qij (mB (mA z)) 31).trans (by rw [qdW])]
  obtain ⟨h', p', sb', fm⟩ := c1.fin
  exact k _ h' sb' p' fm
abbrev nAsked : List Str := ["kind", "mark", "name", "address", "since", "of_search"]
structure AskT where
 kind : Nat
 o : Open
def AskOk (q : AskT) : Prop := (q.o.what = 0 /\ q.kind = 0) \/ (q.o.what = 2 /\ q.kind = 6) \/ ((q.o.what = 1 \/ q.o.what = 3) /\ (q.kind = 2 \/ q.kind = 4))
def vAsked (q : AskT) : List V := [iV q.kind, iV q.o.mark, iV q.o.to_.name, iV q.o.to_.at_, iV q.o.since, .bl (decide (q.o.what = 1))]
def sp_z62 (A : Adr) (K : PySem.W.Frag) : Sp := fun vs H Q _ => ∃ (x dx y : Addr) (k m n ad si : Nat) (b : Bool), vs = [.ref x, iV k, iV m, .ref y, iV si, .bl b] /\ H x = some (.ins A.C_Asked dx []) /\ y ≠ x /\ HasNA K H y n ad /\
 ∀ H' h', Sb h' H' -> Ob A.C_Asked nAsked [iV k, iV m, iV n, iV ad, iV si, .bl b] x h' -> Fm H (cel x (.ins A.C_Asked dx [])) H' h' -> Q .non H'
theorem ok_z62 (T : Txt K mg A) : FnOk P w K mg base CX0 1 A.a_z62 A.d_z62 ["self", "kind", "mark", "someone", "since", "of_search"] (sp_z62 A K) := by
 refine T.F_z62.ok qi0 ?_ ?_
 ·rintro _ _ _ _ ⟨x, dx, y, k, m, n, ad, si, b, rfl, _⟩
  rfl
 ·rintro cdv Ar outer s H _ Q E hr ⟨x, dx, y, k, m, n, ad, si, b, rfl, hx, ne, hy, kk⟩
  have nd := qi0.nd
  refine ⟨_, (qab (qau (pv 0) (pv 1) rfl)
   (qab (qau (pv 0) (pv 2) rfl)
   (qab (qau (pv 0) (qae (pv 3) rfl) rfl)
   (qab (qau (pv 0) (qae (pv 3) rfl) rfl)
   (qab (qau (pv 0) (pv 4) rfl)
   (qac (qau (pv 0) (pv 5) rfl))))))), ?_⟩
  obtain ⟨C, dy, fs, e1, cl, n1, n2, f1, f2⟩ := hy
  refine ⟨_, rfl, _, rfl, x, A.C_Asked, dx, _, rfl, hx, T.cl_Asked, T.na_y1, (by show 0 < 1000; decide), ?_⟩
  rw [put1]
  refine ⟨_, rfl, _, rfl, x, A.C_Asked, dx, _, rfl, qaf, T.cl_Asked, T.na_y2, (by show 1 < 1000; decide), ?_⟩
  rw [qaV, qaG (by decide +kernel) rfl]
  refine ⟨_, rfl, y, C, dy, fs, _, rfl, by rw [qaq ne]; exact e1, cl, n1, f1, _, rfl, x, A.C_Asked, dx, _, rfl, qaf, T.cl_Asked, T.na_y3, (by show 2 < 1000; decide), ?_⟩
  rw [qaV, qaG (by decide +kernel) rfl]
  refine ⟨_, rfl, y, C, dy, fs, _, rfl, by rw [qaq ne]; exact e1, cl, n2, f2, _, rfl, x, A.C_Asked, dx, _, rfl, qaf, T.cl_Asked, T.na_y0, (by show 3 < 1000; decide), ?_⟩
  rw [qaV, qaG (by decide +kernel) rfl]
  refine ⟨_, rfl, _, rfl, x, A.C_Asked, dx, _, rfl, qaf, T.cl_Asked, T.na_y5, (by show 4 < 1000; decide), ?_⟩
  rw [qaV, qaG (by decide +kernel) rfl]
  refine ⟨_, rfl, _, rfl, x, A.C_Asked, dx, _, rfl, qaf, T.cl_Asked, T.na_y4, (by show 5 < 1000; decide), ?_⟩
  rw [qaV, qaG (by decide +kernel) rfl]
  have c1 := (init0 hx).set (o' := .ins A.C_Asked dx (nAsked.zip [iV k, iV m, iV n, iV ad, iV si, .bl b])) 0 rfl
  obtain ⟨h', p', sb, fm⟩ := c1.fin
  exact kk _ h' sb ⟨dx, p'⟩ fm
def sp_z39 (A : Adr) : Sp := fun vs H Q _ => ∃ (x : Addr) (q : AskT) (now : Nat), vs = [.ref x, iV now] /\ IsOb H A.C_Asked nAsked (vAsked q) x /\ Q (.bl (decide (q.o.since + 1000 <= now))) H
theorem ok_z39 (T : Txt K mg A) : FnOk P w K mg base CX0 1 A.a_z39 A.d_z39 ["self", "now"] (sp_z39 A) := by
 refine T.F_z39.ok qi1 ?_ ?_
 ·rintro _ _ _ _ ⟨x, q, now, rfl, _⟩
  rfl
 ·rintro cdv Ar outer s H _ Q E hr ⟨x, q, now, rfl, ⟨dx, hx⟩, k⟩
  have nd := qi1.nd
  refine ⟨_, (qac (qag (qbs qea (qaK qjQ (pv 1) (qae (pv 0) rfl)) (qai rfl T.c_LATE_AFTER) (nomark _)))), ?_⟩
  refine ⟨_, rfl, _, rfl, x, A.C_Asked, dx, _, _, rfl, hx, T.cl_Asked, T.na_y5, lz 4, _, _, rfl, rfl, _, _, rfl, rfl, ?_⟩
  show Q (.bl (decide (_ <= _))) H
  rw [show decide ((1000 : Int) <= (now : Int) - (q.o.since : Int)) = decide (q.o.since + 1000 <= now) from decide_eq_decide.mpr (by omega)]
  exact k
end
section
variable {H0 h0 H : Hp} {l : List As} {A : Adr} {α : Type} {R : α -> As} {ps qs : List α}
theorem Sl.someOb {ps : List (Addr × Contact)} (c : Sl H0 h0 H l) (i : Nat) (e : l[i]? = some (Each (SomeR A) ps)) : ∀ q ∈ ps, IsOb H A.C_Someone nSomeone (vSomeone q.2) q.1 := by
 intro q m
 obtain ⟨j, hj⟩ := List.getElem?_of_mem m
 exact ((c.pull i e).focus0 hj).ob 0 rfl
theorem Sl.part0 (c : Sl H0 h0 H (Each R (ps ++ qs) :: l)) : Sl H0 h0 H (Each R ps :: Each R qs :: l) := by
 have c1 : Sl H0 h0 H (stars [Each R ps, Each R qs] :: l) := c.imp0 fun h p => by
  unfold Each at p
  rw [List.map_append] at p
  exact qbB (qbv.mp p) (fun _ x => x) fun _ x => qa5.mpr x
 exact c1.open0 (k := [_, _])
theorem Sl.filt0 (p : α -> Bool) (c : Sl H0 h0 H (Each R ps :: l)) : Sl H0 h0 H (Each R (ps.filter p) :: l) :=
 (((c.reord0 (List.filter_append_perm p ps).symm).part0).pull 1 rfl).drop0
theorem Sl.dropped0 {x : α} (c : Sl H0 h0 H (Each R (x :: ps) :: l)) : Sl H0 h0 H (Each R ps :: l) := (c.part0 (ps := [x])).drop0
end
theorem qfo {X : Cx} {K : PySem.W.Frag} {e : Expr} {f : Str} {ta : TE} {pos : Pos} (hK : X.K = K) (he : PE X e ta) (hb : attributeBase e f X.env (eval e X.env) = eval e X.env) : PE X (.Attribute e f pos) (tFld K ta f) := by
 subst hK
 exact qae he hb
theorem IsOb.at_ {H : Hp} {C a : Addr} {ns : List Str} {vs vs' : List V} {n : Str} {i : Nat} (h : IsOb H C ns vs a) (h' : IsOb H C ns vs' a) (e : idx n ns = some i) : vs[i]? = vs'[i]? := by
 obtain ⟨dx, h⟩ := h
 obtain ⟨dx', h'⟩ := h'
 rw [h] at h'
 have z : ns.zip vs = ns.zip vs' := by injection h' with h'; injection h'
 rw [<- qc3 e, <- qc3 e, z]
theorem qct {α : Type} {p : α -> Bool} : ∀ {l : List α} {x : α}, l.find? p = some x -> ∃ j : Nat, l[j]? = some x /\ p x = true /\ ∀ m, m < j -> ∀ y, l[m]? = some y -> p y = false
 | [], x, h => by cases h
 | a :: l, x, h => by
  rw [List.find?_cons] at h
  cases e : p a with
  | true =>
   rw [e] at h
   cases h
   exact ⟨0, rfl, e, fun m hm => absurd hm (Nat.not_lt_zero _)⟩
  | false =>
   rw [e] at h
   obtain ⟨j, h1, h2, h3⟩ := qct h
   refine ⟨j + 1, h1, h2, fun m hm y hy => ?_⟩
   cases m with
   | zero => cases hy; exact e
   | succ m => exact h3 m (by omega) y hy
theorem qcI {α : Type} {p : α -> Bool} : ∀ {l : List α} {x : α} {j : Nat}, l[j]? = some x -> p x = true -> (∀ m, m < j -> ∀ y, l[m]? = some y -> p y = false) -> l.find? p = some x
 | [], x, j, h, _, _ => by simp at h
 | a :: l, x, 0, h, hp, _ => by
  cases h
  rw [List.find?_cons, hp]
 | a :: l, x, j + 1, h, hp, hn => by
  rw [List.find?_cons, hn 0 (by omega) a rfl]
  exact qcI (j := j) h hp fun m hm y hy => hn (m + 1) (by omega) y hy
theorem qb6 {α β : Type} (f : α -> β) (p : β -> Bool) : ∀ l : List α, (l.map f).find? p = (l.find? fun x => p (f x)).map f
 | [] => rfl
 | a :: l => by
  rw [List.map_cons, List.find?_cons, List.find?_cons]
  cases p (f a) with
  | true => rfl
  | false => exact qb6 f p l
theorem qa9 {α : Type} {ps : List (Addr × α)} {i : Nat} {y : V} (h : (refs ps)[i]? = some y) : ∃ q, ps[i]? = some q /\ y = .ref q.1 := by
 unfold refs at h
 rw [List.getElem?_map] at h
 cases e : ps[i]? with
 | none => rw [e] at h; cases h
 | some q => rw [e] at h; cases h; exact ⟨q, rfl, rfl⟩
theorem qfx {α : Type} (ps qs : List (Addr × α)) : refs (ps ++ qs) = refs ps ++ refs qs := by unfold refs; rw [List.map_append]
theorem qcZ {α : Type} (ps : List (Addr × α)) : refs ps = (ps.map Prod.fst).map V.ref := by unfold refs; rw [List.map_map]; rfl
theorem qcP {α : Type} (ps : List (Addr × α)) (j : Nat) : ((ps.map Prod.fst).eraseIdx j).map V.ref = refs (ps.eraseIdx j) := by rw [qcZ, qbE Prod.fst]
theorem qbg {α : Type} {l : List α} {i : Nat} {x : α} (h : l[i]? = some x) : l.take (i + 1) = l.take i ++ [x] := by rw [List.take_add_one, h]; rfl
theorem qcw {α : Type} {l : List α} {i : Nat} {x : α} (p : α -> Bool) (h : l[i]? = some x) (e : p x = true) : (l.take (i + 1)).filter p = (l.take i).filter p ++ [x] := by
 rw [qbg h, List.filter_append, List.filter_cons_of_pos e, List.filter_nil]
theorem qcz {α : Type} {l : List α} {i : Nat} {x : α} (p : α -> Bool) (h : l[i]? = some x) (e : p x = false) : (l.take (i + 1)).filter p = (l.take i).filter p := by
 rw [qbg h, List.filter_append, List.filter_cons_of_neg (by rw [e]; exact Bool.false_ne_true), List.filter_nil, List.append_nil]
theorem qbl {α : Type} {l : List α} {i : Nat} {x : α} (h : l[i]? = some x) : i < l.length := (List.getElem?_eq_some_iff.mp h).1
theorem qaM {α β : Type} (p : β -> Bool) (l : List (α × β)) : (l.filter fun q => p q.2).map Prod.snd = (l.map Prod.snd).filter p := by
 rw [List.filter_map]; rfl
theorem qcy {m n : Nat} : (!decide (iV m = iV n)) = (m != n) := by
 unfold iV
 rw [Bool.eq_iff_iff]
 simp
 omega
theorem qby {m n : Nat} : decide (iV m = iV n) = (m == n) := by
 unfold iV
 rw [Bool.eq_iff_iff]
 simp
 omega
abbrev nBucket : List Str := ["known", "waiting"]
def BuckR (A : Adr) (q : Addr × Bucket) : As := fun h => ∃ (kl wl : Addr) (ks ws : List (Addr × Contact)), (ks.map Prod.snd = q.2.known /\ ws.map Prod.snd = q.2.waiting) /\
 stars [Ob A.C_Bucket nBucket [.ref kl, .ref wl] q.1, Pt kl (.lst (refs ks)), Pt wl (.lst (refs ws)), Each (SomeR A) ks, Each (SomeR A) ws] h
section
variable {H0 h0 H : Hp} {l : List As} {A : Adr} {b : Addr} {q : Bucket}
theorem Sl.prop0 {p : Prop} {P : As} (c : Sl H0 h0 H ((fun h => p /\ P h) :: l)) : p /\ Sl H0 h0 H (P :: l) := by
 obtain ⟨h, s, ⟨h1, h2, d, e, ⟨x, p⟩, q⟩, r⟩ := c
 exact ⟨x, h, s, ⟨h1, h2, d, e, p, q⟩, r⟩
theorem qbF (c : Sl H0 h0 H (BuckR A (b, q) :: l)) : ∃ (kl wl : Addr) (ks ws : List (Addr × Contact)), (ks.map Prod.snd = q.known /\ ws.map Prod.snd = q.waiting) /\
  Sl H0 h0 H (Ob A.C_Bucket nBucket [.ref kl, .ref wl] b :: Pt kl (.lst (refs ks)) :: Pt wl (.lst (refs ws)) :: Each (SomeR A) ks :: Each (SomeR A) ws :: l) := by
 obtain ⟨kl, c1⟩ := c.ex0
 obtain ⟨wl, c2⟩ := c1.ex0
 obtain ⟨ks, c3⟩ := c2.ex0
 obtain ⟨ws, c4⟩ := c3.ex0
 obtain ⟨e, c5⟩ := c4.prop0
 exact ⟨kl, wl, ks, ws, e, c5.open0 (k := [_, _, _, _, _])⟩
theorem qa2 {kl wl : Addr} {ks ws : List (Addr × Contact)} (e1 : ks.map Prod.snd = q.known) (e2 : ws.map Prod.snd = q.waiting)
  (c : Sl H0 h0 H (Ob A.C_Bucket nBucket [.ref kl, .ref wl] b :: Pt kl (.lst (refs ks)) :: Pt wl (.lst (refs ws)) :: Each (SomeR A) ks :: Each (SomeR A) ws :: l)) : Sl H0 h0 H (BuckR A (b, q) :: l) :=
 (Sl.fold0 (k := [_, _, _, _, _]) c).imp0 fun h p => ⟨kl, wl, ks, ws, ⟨e1, e2⟩, p⟩
end
section
variable {P : Program} {w : World} {K : PySem.W.Frag} {mg : Str -> Option Value} {base : Heap} {A : Adr}
def sp_z57 (A : Adr) : Sp := fun vs H Q _ => ∃ (x dx : Addr), vs = [.ref x] /\ H x = some (.ins A.C_Bucket dx []) /\ ∀ H' h', Sb h' H' -> BuckR A (x, {}) h' -> Fm H (cel x (.ins A.C_Bucket dx [])) H' h' -> Q .non H'
theorem ok_z57 (T : Txt K mg A) : FnOk P w K mg base CX0 1 A.a_z57 A.d_z57 ["self"] (sp_z57 A) := by
 refine T.F_z57.ok qiC ?_ ?_
 ·rintro _ _ _ _ ⟨x, dx, rfl, _⟩
  rfl
 ·rintro cdv Ar outer s H _ Q E hr ⟨x, dx, rfl, hx, k⟩
  have nd := qiC.nd
  refine ⟨_, (qab (qau (pv 0) (qaB qad) rfl)
   (qac (qau (pv 0) (qaB qad) rfl))), ?_⟩
  have c0 := init0 hx
  refine ⟨by decide, fun kl hkl => ?_⟩
  have c1 := c0.new (o := .lst []) hkl
  refine ⟨_, rfl, x, A.C_Bucket, dx, _, rfl, c1.get 1 rfl, T.cl_Bucket, T.na_y6, (by show 0 < 1000; decide), ?_⟩
  have c2 := c1.set (o' := .ins A.C_Bucket dx (putF "known" (.ref kl) [])) 1 rfl
  refine ⟨by decide, fun wl hwl => ?_⟩
  have c3 := c2.new (o := .lst []) hwl
  refine ⟨_, rfl, x, A.C_Bucket, dx, _, rfl, c3.get 2 rfl, T.cl_Bucket, T.na_y7, (by show 1 < 1000; decide), ?_⟩
  have c4 := c3.set (o' := .ins A.C_Bucket dx (nBucket.zip [.ref kl, .ref wl])) 2 rfl
  have c5 := (c4.emp0 (R := SomeR A)).emp0 (R := SomeR A)
  have c6 : Sl H _ _ _ := (((((c5.pull 1 rfl).pull 1 rfl).pull 2 rfl).pull 3 rfl).pull 4 rfl)
  obtain ⟨h', p', sb, fm⟩ := (qa2 (q := {}) (ks := []) (ws := []) rfl rfl (c6.imp0 (P' := Ob A.C_Bucket nBucket [.ref kl, .ref wl] x) fun h p => ⟨dx, p⟩)).fin
  exact k _ h' sb p' fm
def pickBy (ks : List (Addr × Contact)) (n : Nat) : V := match ks.find? fun q => q.2.name == n with
 | some q => .ref q.1
 | none => .non
def sp_z20 (A : Adr) : Sp := fun vs H Q _ => ∃ (b kl : Addr) (wl : V) (n : Nat) (ks : List (Addr × Contact)), vs = [.ref b, iV n] /\ IsOb H A.C_Bucket nBucket [.ref kl, wl] b /\ H kl = some (.lst (refs ks)) /\
 (∀ q ∈ ks, IsOb H A.C_Someone nSomeone (vSomeone q.2) q.1) /\ Q (pickBy ks n) H
theorem qgU (T : Txt K mg A) : FnOk P w K mg base CX0 1 A.a_z20 A.d_z20 ["self", "name"] (sp_z20 A) := by
 refine T.F_z20.ok qiH ?_ ?_
 ·rintro _ _ _ _ ⟨b, kl, wl, n, ks, rfl, _⟩
  rfl
 ·rintro cdv Ar outer s H _ Q E hr ⟨b, kl, wl, n, ks, rfl, ⟨db, hb⟩, hk, ho, k⟩
  have nd := qiH.nd
  refine ⟨_, (qab (qbW PassesOwn.never rfl (qaU (qae (pv 0) rfl)) (qaN (i := 2) nd rfl (Or.inl rfl)) (qac (qaC (qar qbN (qae (pv 2) rfl) (pv 1) (nomark _)) (qac (qag (pv 2))) qao)))
   (qac (qag qbt))), ?_⟩
  refine ⟨_, rfl, b, A.C_Bucket, db, _, _, rfl, hb, T.cl_Bucket, T.na_y6, lz 0, kl, rfl, ⟨_, SqL.of hk⟩, ?_⟩
  refine qaY (K := K) (a := kl) (xs := refs ks) (fun i σ H' => H' = H /\ (∃ v, σ = [some (.ref b), some (iV n), v]) /\ ∀ m, m < i -> ∀ q, ks[m]? = some q -> (q.2.name == n) = false) ⟨rfl, ⟨none, rfl⟩, fun m hm => absurd hm (Nat.not_lt_zero _)⟩ (fun i σ H' _ h => h.1 ▸ SqL.of hk) ?_ ?_
  ·rintro i y σ H' hi ⟨rfl, ⟨v, rfl⟩, hno⟩
   obtain ⟨q, hq, rfl⟩ := qa9 hi
   obtain ⟨dq, hoq⟩ := ho q (List.mem_of_getElem? hq)
   refine ⟨_, rfl, q.1, A.C_Someone, dq, _, _, rfl, hoq, T.cl_Someone, T.na_y40, lz 0, _, rfl, rfl, _, rfl, ?_⟩
   rw [qby]
   cases e : q.2.name == n with
   | true =>
    refine iteT ⟨_, rfl, ?_⟩
    have : pickBy ks n = .ref q.1 := by unfold pickBy; rw [qcI (p := fun q : Addr × Contact => q.2.name == n) hq e hno]
    rw [this] at k
    exact k
   | false =>
    refine iteF ⟨rfl, ⟨_, rfl⟩, fun m hm r hr => ?_⟩
    by_cases z : m = i
    ·subst z; rw [hq] at hr; cases hr; exact e
    ·exact hno m (by omega) r hr
  ·rintro σ H' ⟨rfl, ⟨v, rfl⟩, hno⟩
   have : pickBy ks n = .non := by
    unfold pickBy
    have : (ks.find? fun q => q.2.name == n) = none := by
     rw [List.find?_eq_none]
     intro q hq
     obtain ⟨j, hj⟩ := List.getElem?_of_mem hq
     rw [hno j (by rw [qaj]; exact qbl hj) q hj]
     exact Bool.false_ne_true
    rw [this]
   rw [this] at k
   exact k
def unkIn (b : Bucket) (c : Contact) : Bucket :=
  if b.known.length < 8 then { known := b.known ++ [⟨c.name, c.at_, 0⟩], waiting := b.waiting.filter fun y => y.name != c.name }
  else
   let w := (b.waiting.filter fun y => y.name != c.name) ++ [⟨c.name, c.at_, 0⟩]
   { b with waiting := w.drop (w.length - 8) }
def sp_z5 (A : Adr) : Sp := fun vs H Q _ => ∃ (b : Addr) (q : Bucket) (n ad : Nat) (h : Hp), vs = [.ref b, iV n, iV ad] /\ q.known.length <= 8 /\ q.waiting.length <= 8 /\ Sb h H /\ BuckR A (b, q) h /\
 ∀ H' h', Sb h' H' -> BuckR A (b, unkIn q ⟨n, ad, 0⟩) h' -> Fm H h H' h' -> Q .non H'
theorem Sl.someNew {H0 h0 H H' : Hp} {l : List As} {x dx : Addr} {n a : Nat} (c : Sl H0 h0 H l) (nx : H x = none) (ndx : H dx = none) (ne : dx ≠ x) (ob : IsOb H' A.C_Someone nSomeone [iV n, iV a, .bl false] x)
  (kp : ∀ b o, upd (upd H dx (.own x)) x (.ins A.C_Someone dx []) b = some o -> b ≠ x -> H' b = some o) : Sl H0 h0 H' (SomeR A (x, ⟨n, a, 0⟩) :: l) :=
 c.sameOb (Same.made nx ndx kp) nx ob
theorem small9 {n : Nat} (h : n <= 9) : n < sizeLine := Nat.lt_of_le_of_lt h (by decide)
theorem ok_z5 (T : Txt K mg A) : FnOk P w K mg base CX0 3 A.a_z5 A.d_z5 ["self", "name", "address"] (sp_z5 A) := by
 refine T.F_z5.ok sc_z5 ?_ ?_
 ·rintro _ _ _ _ ⟨b, q, n, ad, h, rfl, _⟩
  rfl
 ·rintro cdv Ar outer s H _ Q E hr ⟨b, q, n, ad, h, rfl, hkl, hwl, sb, hB, k⟩
  have nd := sc_z5.nd
  refine ⟨_, (qab (qau (pv 0) (qgk rfl nd (qaU (qae (pv 0) rfl)) (own := [("other", 3)]) (qcd (by rfl)) (fun _ _ _ _ _ => qaN (i := 3) nd rfl (Or.inl rfl)) (fun _ _ _ _ _ => (qef (qar qdA (qfo (K := K) rfl (pv 3) rfl) (pv 1) (nomark _)))) (fun _ _ _ _ _ => (pv 3))) rfl)
   (qab (qaC (qar qdP (qav qah (by rfl) T.n_len PySem.boot_len (qaa (qae (pv 0) rfl) qad)) (qai rfl T.c_MOST_KNOWN) (nomark _)) (qab (qap (qb4 PySem.F.plainAttrs_list PySem.F.slot_list_append PySem.F.type_list_append qa3 (qae (pv 0) rfl) (qaa (qa8 T.mk_Someone (qht T) hr.md rfl T.mg_Someone T.b_z41 .nil pass0 (qaa (pv 1) (qaa (pv 2) qad))) qad)))
   (qac qcD)) qao)
   (qab (qap (qb4 PySem.F.plainAttrs_list PySem.F.slot_list_append PySem.F.type_list_append qa3 (qae (pv 0) rfl) (qaa (qa8 T.mk_Someone (qht T) hr.md rfl T.mg_Someone T.b_z41 .nil pass0 (qaa (pv 1) (qaa (pv 2) qad))) qad)))
   (qac (qaC (qar qeP (qav qah (by rfl) T.n_len PySem.boot_len (qaa (qae (pv 0) rfl) qad)) (qai rfl T.c_MOST_WAITING) (nomark _)) (qac (qap (qb4 PySem.F.plainAttrs_list PySem.F.slot_list_pop PySem.F.type_list_pop qfO (qae (pv 0) rfl) (qaa qan qad)))) qao))))), ?_⟩
  obtain ⟨kl, wl, ks, ws, ⟨ek, ew⟩, c0⟩ := qbF (Sl.init sb hB)
  have lk : ks.length = q.known.length := by rw [<- ek, List.length_map]
  have lw : ws.length = q.waiting.length := by rw [<- ew, List.length_map]
  obtain ⟨db, hb⟩ := c0.ob 0 rfl
  refine ⟨_, rfl, b, A.C_Bucket, db, _, _, rfl, hb, T.cl_Bucket, T.na_y7, lz 1, wl, rfl, ⟨_, SqL.of (c0.get 2 rfl)⟩, fun D hD => ?_⟩
  refine qdV (K := K) (a := wl) (xs := refs ws) (Pv := fun i H' => Sl H h H' [Pt D (.lst (refs ((ws.take i).filter fun q => q.2.name != n))), Ob A.C_Bucket nBucket [.ref kl, .ref wl] b, Pt kl (.lst (refs ks)), Pt wl (.lst (refs ws)), Each (SomeR A) ks, Each (SomeR A) ws]) (c0.new hD) (fun i H' _ c => SqL.of (c.get 3 rfl)) ?_ ?_
  ·rintro i y H1 hi c1
   obtain ⟨r, hr1, rfl⟩ := qa9 hi
   obtain ⟨dq, hoq⟩ := c1.someOb 5 rfl r (List.mem_of_getElem? hr1)
   refine ⟨rfl, ?_⟩
   refine ⟨_, rfl, r.1, A.C_Someone, dq, _, _, rfl, hoq, T.cl_Someone, T.na_y40, lz 0, _, rfl, rfl, _, rfl, ?_⟩
   rw [qcy]
   cases e : r.2.name != n with
   | true =>
    refine iteT ⟨_, rfl, _, c1.get 0 rfl, ?_, ?_⟩
    ·rw [qaj]
     have := List.length_filter_le (fun q : Addr × Contact => q.2.name != n) (ws.take i)
     rw [List.length_take] at this
     exact small9 (by omega)
    ·have := c1.set (o' := .lst (refs ((ws.take i).filter fun q => q.2.name != n) ++ [.ref r.1])) 0 rfl
     rw [qcw (fun q : Addr × Contact => q.2.name != n) hr1 e, qaF]
     exact this
   | false =>
    refine iteF ?_
    rw [qcz (fun q : Addr × Contact => q.2.name != n) hr1 e]
    exact c1
  ·rintro H1 c1
   rw [qaj, List.take_length] at c1
   obtain ⟨db1, hb1⟩ := c1.ob 1 rfl
   refine ⟨_, rfl, b, A.C_Bucket, db1, _, rfl, hb1, T.cl_Bucket, T.na_y7, (by show 2 < 1000; decide), ?_⟩
   have c2 := c1.obset (f := "waiting") (v := .ref D) (j := 1) 1 rfl hb1 (by decide +kernel) (by show 1 < 2; decide)
   generalize hws : (ws.filter fun q => q.2.name != n) = vs at *
   have c3 := ((c2.pull 5 rfl).filt0 fun q => q.2.name != n).pull 4 rfl |>.drop0
   rw [hws] at c3
   have ev : vs.map Prod.snd = q.waiting.filter fun y => y.name != n := by rw [<- hws, qaM (fun c : Contact => c.name != n), ew]
   have lv : vs.length <= 8 := by rw [<- hws]; exact Nat.le_trans (List.length_filter_le _ _) (by omega)
   have c4 := (((((c3.pull 0 rfl).pull 4 rfl).pull 2 rfl).pull 4 rfl).pull 4 rfl)
   obtain ⟨db2, hb2⟩ := c4.ob 0 rfl
   refine ⟨_, rfl, b, A.C_Bucket, db2, _, _, rfl, hb2, T.cl_Bucket, T.na_y6, lz 0, kl, _, rfl, .inl (SqL.of (c4.get 1 rfl)), _, _, rfl, rfl, _, rfl, ?_⟩
   refine ite2 (fun hc => ?_) fun hc => ?_
   ·have h8 : q.known.length < 8 := by
     have := of_decide_eq_true hc
     rw [qaj] at this
     omega
    refine ⟨_, rfl, b, A.C_Bucket, db2, _, _, rfl, hb2, T.cl_Bucket, T.na_y6, lz 0, .inl ⟨rfl, _, SqL.of (c4.get 1 rfl)⟩, ?_⟩
    refine ⟨_, rfl, _, rfl, fun x dx nx ndx ne => ⟨x, dx, n, ad, rfl, qaf, fun H2 ob kp => ⟨rfl, ?_⟩⟩⟩
    have c5 := c4.someNew nx ndx ne ob kp
    refine ⟨kl, _, _, rfl, rfl, c5.get 2 rfl, by rw [qaj]; exact small9 (by omega), ?_⟩
    have c6 := c5.set (o' := .lst (refs ks ++ [.ref x])) 2 rfl
    have c7 := ((c6.pull 4 rfl).pull 1 rfl).back0 (qs := ks ++ [(x, ⟨n, ad, 0⟩)]) (List.perm_append_comm.trans (.refl _))
    have c8 := (((((c7.pull 4 rfl).pull 1 rfl).pull 4 rfl).pull 4 rfl).pull 4 rfl)
    rw [<- qaF ks (x, (⟨n, ad, 0⟩ : Contact))] at c8 ⊢
    obtain ⟨h', p', sb', fm⟩ := (qa2 (q := unkIn q ⟨n, ad, 0⟩) (by unfold unkIn; rw [if_pos h8, List.map_append, ek]; rfl) (by unfold unkIn; rw [if_pos h8, ev]) c8).fin
    exact k _ h' sb' p' fm
   ·have h8 : ¬ q.known.length < 8 := fun z => hc (decide_eq_true (by rw [qaj]; omega))
    refine ⟨_, rfl, b, A.C_Bucket, db2, _, _, rfl, hb2, T.cl_Bucket, T.na_y7, lz 1, .inl ⟨rfl, _, SqL.of (c4.get 2 rfl)⟩, ?_⟩
    refine ⟨_, rfl, _, rfl, fun x dx nx ndx ne => ⟨x, dx, n, ad, rfl, qaf, fun H2 ob kp => ⟨rfl, ?_⟩⟩⟩
    have c5 := c4.someNew nx ndx ne ob kp
    refine ⟨D, _, _, rfl, rfl, c5.get 3 rfl, by rw [qaj]; exact small9 (by omega), ?_⟩
    have c6 := c5.set (o' := .lst (refs vs ++ [.ref x])) 3 rfl
    have c7 := ((c6.pull 5 rfl).pull 1 rfl).back0 (qs := vs ++ [(x, ⟨n, ad, 0⟩)]) (List.perm_append_comm.trans (.refl _))
    rw [<- qaF vs (x, (⟨n, ad, 0⟩ : Contact))] at c7 ⊢
    have ev' : (vs ++ [(x, (⟨n, ad, 0⟩ : Contact))]).map Prod.snd = (q.waiting.filter fun y => y.name != n) ++ [⟨n, ad, 0⟩] := by rw [List.map_append, ev]; rfl
    have lv' : (vs ++ [(x, (⟨n, ad, 0⟩ : Contact))]).length <= 9 := by rw [List.length_append]; show vs.length + 1 <= 9; omega
    generalize hus : vs ++ [(x, (⟨n, ad, 0⟩ : Contact))] = us at *
    have c8 := (((((c7.pull 0 rfl).pull 4 rfl).pull 4 rfl).pull 4 rfl).pull 4 rfl)
    obtain ⟨db3, hb3⟩ := c8.ob 0 rfl
    refine ⟨_, rfl, b, A.C_Bucket, db3, _, _, rfl, hb3, T.cl_Bucket, T.na_y7, lz 1, D, _, rfl, .inl (SqL.of (c8.get 2 rfl)), _, _, rfl, rfl, _, rfl, ?_⟩
    refine ite2 (fun hc => ?_) fun hc => ?_
    ·have h9 : us.length = 9 := by
      have := of_decide_eq_true hc
      rw [qaj] at this
      omega
     cases us with
     | nil => cases h9
     | cons u us =>
     refine ⟨_, rfl, b, A.C_Bucket, db3, _, _, rfl, hb3, T.cl_Bucket, T.na_y7, lz 1, .inl ⟨rfl, _, SqL.of (c8.get 2 rfl)⟩, D, _, 0, 0, _, rfl, rfl, c8.get 2 rfl, by decide, by decide, (by unfold seqIndex?; rw [qaj]; simp), rfl, ?_⟩
     have c9 := c8.set (o' := .lst (refs us)) 2 rfl
     have c10 := (c9.pull 4 rfl).dropped0
     have c11 := (((((c10.pull 0 rfl).pull 4 rfl).pull 4 rfl).pull 4 rfl).pull 4 rfl)
     obtain ⟨h', p', sb', fm⟩ := (qa2 (q := unkIn q ⟨n, ad, 0⟩) (by unfold unkIn; rw [if_neg h8, ek]) (by
      unfold unkIn
      rw [if_neg h8]
      dsimp only
      rw [<- ev', List.length_map, h9]; rfl) c11).fin
     exact k _ h' sb' p' fm
    ·have h9 : us.length <= 8 := by
      refine Nat.le_of_not_lt fun z => hc (decide_eq_true ?_)
      rw [qaj]
      omega
     obtain ⟨h', p', sb', fm⟩ := (qa2 (q := unkIn q ⟨n, ad, 0⟩) (by unfold unkIn; rw [if_neg h8, ek]) (by
      unfold unkIn
      rw [if_neg h8]
      dsimp only
      rw [<- ev', List.length_map, Nat.sub_eq_zero_of_le h9]; rfl) c8).fin
     exact k _ h' sb' p' fm
theorem qcn {ks : List (Addr × Contact)} {n : Nat} {q : Addr × Contact} (h : (ks.find? fun q => q.2.name == n) = some q) : pickBy ks n = .ref q.1 := by unfold pickBy; rw [h]
theorem qcq {ks : List (Addr × Contact)} {n : Nat} (h : (ks.find? fun q => q.2.name == n) = none) : pickBy ks n = .non := by unfold pickBy; rw [h]
theorem qcE {ks : List (Addr × Contact)} {l : List Contact} (e : ks.map Prod.snd = l) (p : Contact -> Bool) : l.find? p = (ks.find? fun q => p q.2).map Prod.snd := by rw [<- e, qb6]
theorem qeO {b : Bucket} {c : Contact} (h : (b.known.find? fun x => x.name == c.name) = none) : heardIn b c = unkIn b c := by unfold heardIn; rw [h]; rfl
theorem qb3 {b : Bucket} {c x : Contact} (h : (b.known.find? fun x => x.name == c.name) = some x) : heardIn b c = if x.at_ = c.at_ then { b with known := (b.known.filter fun y => y.name != c.name) ++ [{ x with silent := 0 }] } else b := by unfold heardIn; rw [h]
theorem qdM {ks : List (Addr × Contact)} {H : Hp} {n : Nat} {r : Addr × Contact} (ho : ∀ q ∈ ks, IsOb H A.C_Someone nSomeone (vSomeone q.2) q.1) (h : (ks.find? fun q => q.2.name == n) = some r) :
  ∃ j : Nat, ks[j]? = some r /\ r.2.name = n /\ (ks.map Prod.fst)[j]? = some r.1 /\ (∀ m, m < j -> (ks.map Prod.fst)[m]? ≠ some r.1) := by
 obtain ⟨j, h1, h2, h3⟩ := qct h
 refine ⟨j, h1, by simpa using h2, by rw [List.getElem?_map, h1]; rfl, fun m hm z => ?_⟩
 rw [List.getElem?_map] at z
 cases e : ks[m]? with
 | none => rw [e] at z; cases z
 | some y =>
  rw [e] at z
  have z : y.1 = r.1 := by injection z
  have a := ho y (List.mem_of_getElem? e)
  rw [z] at a
  have := a.at_ (ho r (List.mem_of_getElem? h1)) (n := "name") (i := 0) (by decide +kernel)
  have : iV y.2.name = iV r.2.name := by injection this
  have : y.2.name = r.2.name := by have := V.int.inj this; omega
  have b := h3 m hm y e
  rw [this, h2] at b
  cases b
theorem qe4 (T : Txt K mg A) {ks : List (Addr × Contact)} {H : Hp} (ho : ∀ q ∈ ks, IsOb H A.C_Someone nSomeone (vSomeone q.2) q.1) : ∀ b, b ∈ ks.map Prod.fst -> ∃ C dx fs, H b = some (.ins C dx fs) /\ CmpK K C := by
 intro b hb
 obtain ⟨q, hq, rfl⟩ := List.mem_map.mp hb
 obtain ⟨dx, e⟩ := ho q hq
 exact ⟨_, dx, _, e, T.cm_Someone⟩
def sp_z46 (A : Adr) : Sp := fun vs H Q _ => ∃ (b : Addr) (q : Bucket) (n ad : Nat) (h : Hp), vs = [.ref b, iV n, iV ad] /\ q.known.length <= 8 /\ q.waiting.length <= 8 /\ (q.known.map (·.name)).Nodup /\ Sb h H /\ BuckR A (b, q) h /\
 ∀ H' h', Sb h' H' -> BuckR A (b, heardIn q ⟨n, ad, 0⟩) h' -> Fm H h H' h' -> Q .non H'
theorem ok_z46 (T : Txt K mg A) : FnOk P w K mg base CX0 4 A.a_z46 A.d_z46 ["self", "name", "address"] (sp_z46 A) := by
 refine T.F_z46.ok qiG ?_ ?_
 ·rintro _ _ _ _ ⟨b, q, n, ad, h, rfl, _⟩
  rfl
 ·rintro cdv Ar outer s H _ Q E hr ⟨b, q, n, ad, h, rfl, hkl, hwl, hnd, sb, hB, k⟩
  have nd := qiG.nd
  refine ⟨_, (qab (qax (i := 3) nd rfl (Or.inl rfl) (qak (pv 0) T.cl_Bucket T.me_z20 (qgU T) hr.md T.b_z20 .nil pass0 (qaa (pv 1) qad)))
   (qac (qaC (qbf (qcf (pv 3))) (qac (qap (qak (pv 0) T.cl_Bucket T.me_z5 (ok_z5 T) hr.md T.b_z5 .nil pass0 (qaa (pv 1) (qaa (pv 2) qad))))) (qac (qaC (qar qbN (qae (pv 3) rfl) (pv 2) (nomark _)) (qab (qap (qb4 PySem.F.plainAttrs_list PySem.F.slot_list_remove PySem.F.type_list_remove (qc8 (qeH hr)) (qae (pv 0) rfl) (qaa (pv 3) qad)))
   (qab (qap (qb4 PySem.F.plainAttrs_list PySem.F.slot_list_append PySem.F.type_list_append qa3 (qae (pv 0) rfl) (qaa (pv 3) qad)))
   (qac (qau (pv 3) qcY rfl)))) qao))))), ?_⟩
  obtain ⟨kl, wl, ks, ws, ⟨ek, ew⟩, c0⟩ := qbF (Sl.init sb hB)
  have lk : ks.length = q.known.length := by rw [<- ek, List.length_map]
  obtain ⟨db, hb⟩ := c0.ob 0 rfl
  have hk0 := c0.get 1 rfl
  have ho := c0.someOb 3 rfl
  have ef := qcE ek fun x => x.name == n
  refine ⟨_, rfl, b, db, _, rfl, hb, ln0, _, rfl, b, kl, _, n, ks, rfl, ⟨db, hb⟩, hk0, ho, ?_⟩
  rcases hf : ks.find? fun q => q.2.name == n with _ | r
  ·rw [qcq hf]
   refine ⟨_, rfl, _, rfl, ?_⟩
   rw [decide_eq_true rfl]
   refine iteT ?_
   refine ⟨_, rfl, b, db, _, rfl, hb, ln0, _, rfl, _, rfl, b, q, n, ad, h, rfl, hkl, hwl, sb, hB, fun H' h' sb' p' fm => ?_⟩
   rw [hf] at ef
   exact k H' h' sb' (by rw [qeO (c := ⟨n, ad, 0⟩) ef]; exact p') fm
  ·rw [qcn hf]
   refine ⟨_, rfl, _, rfl, ?_⟩
   rw [decide_eq_false (by intro z; cases z)]
   refine iteF ?_
   obtain ⟨j, hj, hrn, hj1, hj2⟩ := qdM ho hf
   rw [hf] at ef
   obtain ⟨dr, hr0⟩ := ho r (List.mem_of_getElem? hj)
   refine ⟨_, rfl, r.1, A.C_Someone, dr, _, _, rfl, hr0, T.cl_Someone, T.na_y39, lz 1, _, rfl, rfl, _, rfl, ?_⟩
   rw [qby]
   cases e2 : r.2.at_ == ad with
   | false =>
    refine iteF ?_
    refine k H h sb ?_ (Fm.refl _ _)
    rw [qb3 (c := ⟨n, ad, 0⟩) ef, if_neg (by simpa using e2)]
    exact hB
   | true =>
    refine iteT ?_
    refine ⟨_, rfl, b, A.C_Bucket, db, _, _, rfl, hb, T.cl_Bucket, T.na_y6, lz 0, .inl ⟨rfl, _, SqL.of hk0⟩, _, rfl, kl, r.1, ks.map Prod.fst, j, rfl, rfl, (by rw [<- qcZ]; exact hk0), hj1, hj2, qe4 T ho, ?_⟩
    rw [qcP]
    have c1 := c0.set (o' := .lst (refs (ks.eraseIdx j))) 1 rfl
    obtain ⟨db1, hb1⟩ := c1.ob 0 rfl
    refine ⟨_, rfl, b, A.C_Bucket, db1, _, _, rfl, hb1, T.cl_Bucket, T.na_y6, lz 0, .inl ⟨rfl, _, SqL.of (c1.get 1 rfl)⟩, _, rfl, kl, _, _, rfl, rfl, c1.get 1 rfl, ?_, ?_⟩
    ·rw [qaj]
     have := qb1 ks j
     exact small9 (by omega)
    have c2 := c1.set (o' := .lst (refs (ks.eraseIdx j) ++ [.ref r.1])) 1 rfl
    have c3 := (c2.pull 3 rfl).focus0 hj
    obtain ⟨dr3, hr3⟩ : IsOb _ A.C_Someone nSomeone (vSomeone r.2) r.1 := c3.ob 0 rfl
    refine ⟨_, rfl, r.1, A.C_Someone, dr3, _, rfl, hr3, T.cl_Someone, T.na_y41, (by show 3 < 1000; decide), ?_⟩
    have c4 := c3.obset (f := "was_silent") (v := .bl false) (j := 2) 0 rfl hr3 (by decide +kernel) (by show 2 < 3; decide)
    have c5 := Sl.back0 (R := SomeR A) (y := (r.1, (⟨r.2.name, r.2.at_, 0⟩ : Contact))) (qs := ks.eraseIdx j ++ [(r.1, (⟨r.2.name, r.2.at_, 0⟩ : Contact))]) c4 (List.perm_append_comm.trans (.refl _))
    have c6 := (((((c5.pull 4 rfl).pull 1 rfl).pull 4 rfl).pull 4 rfl).pull 4 rfl)
    have e6 : refs (ks.eraseIdx j) ++ [V.ref r.1] = refs (ks.eraseIdx j ++ [(r.1, (⟨r.2.name, r.2.at_, 0⟩ : Contact))]) := (qaF (ks.eraseIdx j) (r.1, (⟨r.2.name, r.2.at_, 0⟩ : Contact))).symm
    rw [e6] at c6 ⊢
    obtain ⟨h', p', sb', fm⟩ := (qa2 (q := heardIn q ⟨n, ad, 0⟩) (by
     rw [qb3 (c := ⟨n, ad, 0⟩) ef, if_pos (by simpa using e2), List.map_append, qbE, ek]
     have := qbA hnd (j := j) (x := r.2) (by rw [<- ek, List.getElem?_map, hj]; rfl)
     rw [hrn] at this
     rw [this]
     rfl) (by rw [qb3 (c := ⟨n, ad, 0⟩) ef, if_pos (by simpa using e2)]; exact ew) c6).fin
    exact k _ h' sb' p' fm
end
theorem qfF {α : Type} : ∀ {l : List α} {i : Nat} {x : α}, l[i]? = some x -> l.set i x = l
 | [], _, _, h => by simp at h
 | a :: l, 0, x, h => by cases h; rfl
 | a :: l, i + 1, x, h => by
  rw [List.set_cons_succ, qfF (l := l) (i := i) h]
theorem qdQ {α : Type} {ks : List (Addr × α)} {j : Nat} {r : Addr × α} {c : α} (h : ks[j]? = some r) : refs (ks.set j (r.1, c)) = refs ks := by
 unfold refs
 rw [List.map_set]
 exact qfF (by rw [List.getElem?_map, h]; rfl)
theorem qdh {f : Contact -> Contact} : ∀ {l : List Contact} {j : Nat} {x : Contact}, (l.map (·.name)).Nodup -> l[j]? = some x -> (l.map fun y => if y.name = x.name then f y else y) = l.set j (f x)
 | [], _, _, _, h => by simp at h
 | a :: l, 0, x, nd, h => by
  cases h
  rw [List.map_cons, if_pos rfl, List.set_cons_zero]
  congr 1
  rw [List.map_cons, List.nodup_cons] at nd
  refine (List.map_congr_left (g := id) fun y hy => ?_).trans (List.map_id _)
  have : ¬ y.name = a.name := fun z => nd.1 (by rw [<- z]; exact qcK hy)
  rw [if_neg this]; rfl
 | a :: l, j + 1, x, nd, h => by
  rw [List.map_cons, List.nodup_cons] at nd
  rw [List.map_cons, List.set_cons_succ, qdh nd.2 (j := j) h, if_neg]
  intro z
  exact nd.1 (z ▸ qcK (List.mem_of_getElem? h))
theorem qhc {l : List Contact} (nd : (l.map (·.name)).Nodup) {n a : Nat} : (l.find? fun x => x.name == n && x.at_ == a) = ((l.find? fun x => x.name == n).filter fun x => x.at_ == a) := by
 cases e : l.find? fun x => x.name == n with
 | none =>
  rw [List.find?_eq_none] at e
  show _ = none
  rw [List.find?_eq_none]
  intro x hx z
  rw [Bool.and_eq_true] at z
  exact e x hx z.1
 | some x =>
  obtain ⟨j, h1, h2, h3⟩ := qct e
  cases e2 : x.at_ == a with
  | true =>
   rw [show (some x).filter (fun x => x.at_ == a) = some x by simp [Option.filter, e2]]
   exact qcI (p := fun x : Contact => x.name == n && x.at_ == a) h1 (by simp only [h2, e2]; rfl) fun m hm y hy => by simp only [h3 m hm y hy]; rfl
  | false =>
   rw [show (some x).filter (fun x => x.at_ == a) = none by simp [Option.filter, e2]]
   rw [List.find?_eq_none]
   intro y hy z
   rw [Bool.and_eq_true] at z
   have : y = x := qdg nd hy (List.mem_of_getElem? h1) (by rw [beq_iff_eq] at h2; rw [h2]; simpa using z.1)
   rw [this, e2] at z
   cases z.2
theorem qkU {α : Type} : ∀ {l : List α}, l ≠ [] -> ∃ (vs : List α) (u : α), l = vs ++ [u] := by
 intro l h
 exact ⟨l.dropLast, l.getLast h, (List.dropLast_concat_getLast h).symm⟩
section
variable {P : Program} {w : World} {K : PySem.W.Frag} {mg : Str -> Option Value} {base : Heap} {A : Adr}
def sp_z36 (A : Adr) : Sp := fun vs H Q _ => ∃ (b : Addr) (q : Bucket) (n ad : Nat) (h : Hp), vs = [.ref b, iV n, iV ad] /\ q.known.length <= 8 /\ q.waiting.length <= 8 /\ (q.known.map (·.name)).Nodup /\ (∀ c ∈ q.known, c.silent <= 1) /\ Sb h H /\ BuckR A (b, q) h /\
 ∀ H' h', Sb h' H' -> BuckR A (b, silentIn q ⟨n, ad, 0⟩) h' -> Fm H h H' h' -> Q .non H'
def silOf (b : Bucket) (c : Contact) (r : Option Contact) : Bucket := match r with
 | none => b
 | some x => if x.silent = 0 then { b with known := b.known.map fun y => if y.name = c.name then { y with silent := 1 } else y }
  else { known := (b.known.filter fun y => y.name != c.name) ++ (b.waiting.getLast?).toList, waiting := b.waiting.dropLast }
theorem qaQ {b : Bucket} {c : Contact} {r : Option Contact} (h : (b.known.find? fun x => x.name == c.name && x.at_ == c.at_) = r) : silentIn b c = silOf b c r := by unfold silentIn silOf; rw [h]; cases r <;> rfl
theorem ok_z36 (T : Txt K mg A) : FnOk P w K mg base CX0 2 A.a_z36 A.d_z36 ["self", "name", "address"] (sp_z36 A) := by
 refine T.F_z36.ok qjL ?_ ?_
 ·rintro _ _ _ _ ⟨b, q, n, ad, h, rfl, _⟩
  rfl
 ·rintro cdv Ar outer s H _ Q E hr ⟨b, q, n, ad, h, rfl, hkl, hwl, hnd, hsl, sb, hB, k⟩
  have nd := qjL.nd
  refine ⟨_, (qab (qax (i := 3) nd rfl (Or.inl rfl) (qak (pv 0) T.cl_Bucket T.me_z20 (qgU T) hr.md T.b_z20 .nil pass0 (qaa (pv 1) qad)))
   (qab (qaC (PW.pt (qck (qbf (qcf (pv 3))) (qbI (qar qdA (qae (pv 3) rfl) (pv 2) (nomark _))))) (qac qcD) qao)
   (qab (qaC (qeC (qbC (qae (pv 3) rfl))) (qab (qau (pv 3) qcY rfl)
   (qac qcD)) qao)
   (qab (qap (qb4 PySem.F.plainAttrs_list PySem.F.slot_list_remove PySem.F.type_list_remove (qc8 (qeH hr)) (qae (pv 0) rfl) (qaa (pv 3) qad)))
   (qac (qaC (qar qeP (qav qah (by rfl) T.n_len PySem.boot_len (qaa (qae (pv 0) rfl) qad)) qan (nomark _)) (qac (qap (qb4 PySem.F.plainAttrs_list PySem.F.slot_list_append PySem.F.type_list_append qa3 (qae (pv 0) rfl) (qaa (qhz PySem.F.plainAttrs_list PySem.F.slot_list_pop PySem.F.type_list_pop mt_pop (qae (pv 0) rfl)) qad)))) qao)))))), ?_⟩
  obtain ⟨kl, wl, ks, ws, ⟨ek, ew⟩, c0⟩ := qbF (Sl.init sb hB)
  have lk : ks.length = q.known.length := by rw [<- ek, List.length_map]
  have lw : ws.length = q.waiting.length := by rw [<- ew, List.length_map]
  obtain ⟨db, hb⟩ := c0.ob 0 rfl
  have hk0 := c0.get 1 rfl
  have ho := c0.someOb 3 rfl
  have ef := qcE ek fun x => x.name == n
  have eb := qhc hnd (n := n) (a := ad)
  refine ⟨_, rfl, b, db, _, rfl, hb, ln0, _, rfl, b, kl, _, n, ks, rfl, ⟨db, hb⟩, hk0, ho, ?_⟩
  rcases hf : ks.find? fun q => q.2.name == n with _ | r
  ·rw [qcq hf]
   refine ⟨_, rfl, _, rfl, ?_⟩
   rw [decide_eq_true rfl]
   refine iteT (iteT ?_)
   rw [hf] at ef
   rw [ef] at eb
   exact k H h sb (by rw [qaQ (c := ⟨n, ad, 0⟩) eb]; exact hB) (Fm.refl _ _)
  ·rw [qcn hf]
   refine ⟨_, rfl, _, rfl, ?_⟩
   rw [decide_eq_false (by intro z; cases z)]
   refine iteF ?_
   obtain ⟨j, hj, hrn, hj1, hj2⟩ := qdM ho hf
   rw [hf] at ef
   rw [ef] at eb
   obtain ⟨dr, hr0⟩ := ho r (List.mem_of_getElem? hj)
   have hjq : q.known[j]? = some r.2 := by rw [<- ek, List.getElem?_map, hj]; rfl
   refine ⟨_, rfl, r.1, A.C_Someone, dr, _, _, rfl, hr0, T.cl_Someone, T.na_y39, lz 1, _, rfl, rfl, _, rfl, ?_⟩
   rw [qcy]
   cases e2 : r.2.at_ != ad with
   | true =>
    refine iteT ?_
    refine k H h sb ?_ (Fm.refl _ _)
    rw [show Option.filter (fun x : Contact => x.at_ == ad) (Option.map Prod.snd (some r)) = none by simp [Option.filter]; simpa using e2] at eb
    rw [qaQ (c := ⟨n, ad, 0⟩) eb]
    exact hB
   | false =>
    refine iteF ?_
    rw [show Option.filter (fun x : Contact => x.at_ == ad) (Option.map Prod.snd (some r)) = some r.2 by simp [Option.filter]; simpa using e2] at eb
    have hs1 := hsl r.2 (List.mem_of_getElem? hjq)
    refine ⟨_, rfl, r.1, A.C_Someone, dr, _, _, rfl, hr0, T.cl_Someone, T.na_y41, lz 2, _, rfl, ?_⟩
    by_cases hs : r.2.silent = 0
    ·rw [decide_eq_false (by omega)]
     refine iteT ?_
     have c3 := (c0.pull 3 rfl).focus0 hj
     obtain ⟨dr3, hr3⟩ : IsOb _ A.C_Someone nSomeone (vSomeone r.2) r.1 := c3.ob 0 rfl
     refine ⟨_, rfl, r.1, A.C_Someone, dr3, _, rfl, hr3, T.cl_Someone, T.na_y41, (by show 3 < 1000; decide), ?_⟩
     have c4 := c3.obset (f := "was_silent") (v := .bl true) (j := 2) 0 rfl hr3 (by decide +kernel) (by show 2 < 3; decide)
     have c5 := Sl.back0 (R := SomeR A) (y := (r.1, (⟨r.2.name, r.2.at_, 1⟩ : Contact))) (qs := ks.set j (r.1, (⟨r.2.name, r.2.at_, 1⟩ : Contact))) c4 (qbe hj)
     have c6 := (((((c5.pull 4 rfl).pull 1 rfl).pull 4 rfl).pull 4 rfl).pull 4 rfl)
     rw [<- qdQ (c := (⟨r.2.name, r.2.at_, 1⟩ : Contact)) hj] at c6
     obtain ⟨h', p', sb', fm⟩ := (qa2 (q := silentIn q ⟨n, ad, 0⟩) (by
      rw [qaQ (c := ⟨n, ad, 0⟩) eb]
      unfold silOf
      dsimp only
      rw [if_pos hs, List.map_set, ek, <- hrn]
      exact (qdh (f := fun y => ⟨y.name, y.at_, 1⟩) hnd hjq).symm) (by
      rw [qaQ (c := ⟨n, ad, 0⟩) eb]
      unfold silOf
      dsimp only
      rw [if_pos hs]
      exact ew) c6).fin
     exact k _ h' sb' p' fm
    ·rw [decide_eq_true (by omega)]
     refine iteF ?_
     have efil : q.known.filter (fun y => y.name != n) = (ks.eraseIdx j).map Prod.snd := by
      have := qbA hnd hjq
      rw [hrn] at this
      rw [this, qbE, ek]
     refine ⟨_, rfl, b, A.C_Bucket, db, _, _, rfl, hb, T.cl_Bucket, T.na_y6, lz 0, .inl ⟨rfl, _, SqL.of hk0⟩, _, rfl, kl, r.1, ks.map Prod.fst, j, rfl, rfl, (by rw [<- qcZ]; exact hk0), hj1, hj2, qe4 T ho, ?_⟩
     rw [qcP]
     have c1 := c0.set (o' := .lst (refs (ks.eraseIdx j))) 1 rfl
     have c2 := (((c1.pull 3 rfl).focus0 hj).drop0)
     have c3 := (((((c2.pull 4 rfl).pull 1 rfl).pull 4 rfl).pull 4 rfl).pull 4 rfl)
     obtain ⟨db1, hb1⟩ := c3.ob 0 rfl
     refine ⟨_, rfl, b, A.C_Bucket, db1, _, _, rfl, hb1, T.cl_Bucket, T.na_y7, lz 1, wl, _, rfl, .inl (SqL.of (c3.get 2 rfl)), _, _, rfl, rfl, _, rfl, ?_⟩
     refine ite2 (fun hc => ?_) fun hc => ?_
     ·have hne : ws ≠ [] := by
       rintro rfl
       have := of_decide_eq_true hc
       simp [refs] at this
      obtain ⟨vs, u, rfl⟩ := qkU hne
      refine ⟨_, rfl, b, A.C_Bucket, db1, _, _, rfl, hb1, T.cl_Bucket, T.na_y6, lz 0, .inl ⟨rfl, _, SqL.of (c3.get 1 rfl)⟩, ?_⟩
      refine ⟨_, rfl, b, A.C_Bucket, db1, _, _, rfl, hb1, T.cl_Bucket, T.na_y7, lz 1, .inl ⟨rfl, _, SqL.of (c3.get 2 rfl)⟩, wl, _, .ref u.1, rfl, rfl, c3.get 2 rfl, (by rw [qaF]; simp), ?_⟩
      rw [qaF, List.dropLast_concat]
      have c4 := c3.set (o' := .lst (refs vs)) 2 rfl
      refine ⟨kl, _, _, rfl, rfl, c4.get 1 rfl, ?_, ?_⟩
      ·rw [qaj]
       have := qb1 ks j
       exact small9 (by omega)
      have c5 := c4.set (o' := .lst (refs (ks.eraseIdx j) ++ [.ref u.1])) 1 rfl
      have c6 := (c5.pull 4 rfl).part0
      have c7 := ((c6.pull 1 rfl).pull 5 rfl).join0
      have c8 := (((((c7.pull 1 rfl).pull 1 rfl).pull 4 rfl).pull 4 rfl).pull 4 rfl)
      rw [<- qaF] at c8 ⊢
      obtain ⟨h', p', sb', fm⟩ := (qa2 (q := silentIn q ⟨n, ad, 0⟩) (by
       rw [qaQ (c := ⟨n, ad, 0⟩) eb]
       unfold silOf
       dsimp only
       rw [if_neg hs, List.map_append, efil, <- ew]
       simp) (by
       rw [qaQ (c := ⟨n, ad, 0⟩) eb]
       unfold silOf
       dsimp only
       rw [if_neg hs, <- ew]
       simp) c8).fin
      exact k _ h' sb' p' fm
     ·have hne : ws = [] := by
       cases ws with
       | nil => rfl
       | cons a l => exact absurd (decide_eq_true (by rw [qaj, List.length_cons]; omega)) hc
      subst hne
      obtain ⟨h', p', sb', fm⟩ := (qa2 (q := silentIn q ⟨n, ad, 0⟩) (by
       rw [qaQ (c := ⟨n, ad, 0⟩) eb]
       unfold silOf
       dsimp only
       rw [if_neg hs, efil, <- ew]
       simp) (by
       rw [qaQ (c := ⟨n, ad, 0⟩) eb]
       unfold silOf
       dsimp only
       rw [if_neg hs, <- ew]
       rfl) c3).fin
      exact k _ h' sb' p' fm
end
abbrev nBuckets : List Str := ["own_name", "rows"]
def BucksR (A : Adr) (a : Addr) (own : Nat) (bs : List Bucket) : As := fun h => ∃ (rl : Addr) (rs : List (Addr × Bucket)), (rs.map Prod.snd = bs) /\
 stars [Ob A.C_Buckets nBuckets [iV own, .ref rl] a, Pt rl (.lst (refs rs)), Each (BuckR A) rs] h
section
variable {H0 h0 H : Hp} {l : List As} {A : Adr} {a : Addr} {own : Nat} {bs : List Bucket}
theorem qbL (c : Sl H0 h0 H (BucksR A a own bs :: l)) : ∃ (rl : Addr) (rs : List (Addr × Bucket)), rs.map Prod.snd = bs /\
  Sl H0 h0 H (Ob A.C_Buckets nBuckets [iV own, .ref rl] a :: Pt rl (.lst (refs rs)) :: Each (BuckR A) rs :: l) := by
 obtain ⟨rl, c1⟩ := c.ex0
 obtain ⟨rs, c2⟩ := c1.ex0
 obtain ⟨e, c3⟩ := c2.prop0
 exact ⟨rl, rs, e, c3.open0 (k := [_, _, _])⟩
theorem qcr {rl : Addr} {rs : List (Addr × Bucket)} (e1 : rs.map Prod.snd = bs)
  (c : Sl H0 h0 H (Ob A.C_Buckets nBuckets [iV own, .ref rl] a :: Pt rl (.lst (refs rs)) :: Each (BuckR A) rs :: l)) : Sl H0 h0 H (BucksR A a own bs :: l) :=
 (Sl.fold0 (k := [_, _, _]) c).imp0 fun h p => ⟨rl, rs, e1, p⟩
end
structure GoodBs (own : Nat) (bs : List Bucket) : Prop where
 ow : own < 2 ^ 160
 len : bs.length = 160
 ea : ∀ i b, bs[i]? = some b -> GoodB own i b
theorem Good.bucks {lid : Nat} {s : Abs} (g : Good lid s) : GoodBs s.own s.buckets := ⟨g.own, g.bl, g.bs⟩
section
variable {P : Program} {w : World} {K : PySem.W.Frag} {mg : Str -> Option Value} {base : Heap} {A : Adr}
def sp_z40 (A : Adr) : Sp := fun vs H Q _ => ∃ (x dx : Addr) (own : Nat), vs = [.ref x, iV own] /\ H x = some (.ins A.C_Buckets dx []) /\ ∀ H' h', Sb h' H' -> BucksR A x own (List.replicate 160 {}) h' -> Fm H (cel x (.ins A.C_Buckets dx [])) H' h' -> Q .non H'
theorem ok_z40 (T : Txt K mg A) : FnOk P w K mg base CX0 3 A.a_z40 A.d_z40 ["self", "own_name"] (sp_z40 A) := by
 refine T.F_z40.ok qiX ?_ ?_
 ·rintro _ _ _ _ ⟨x, dx, own, rfl, _⟩
  rfl
 ·rintro cdv Ar outer s H _ Q E hr ⟨x, dx, own, rfl, hx, k⟩
  have nd := qiX.nd
  refine ⟨_, (qab (qau (pv 0) (pv 1) rfl)
   (qac (qau (pv 0) (qgk rfl nd (qe2 rfl T.n_range (qaa (qai rfl T.c_BUCKETS) qad)) (own := [("place", 2)]) (qcd (by rfl)) (fun _ _ _ _ _ => qaN (i := 2) nd rfl (Or.inl rfl)) (fun _ _ _ _ _ => qgG) (fun _ _ _ _ _ => (qeg T.mk_Bucket (ok_z57 T) hr.md rfl T.mg_Bucket T.b_z57 .nil pass0))) rfl))), ?_⟩
  refine ⟨_, rfl, _, rfl, x, A.C_Buckets, dx, _, rfl, hx, T.cl_Buckets, T.na_y8, (by show 0 < 1000; decide), ?_⟩
  have c0 := (init0 hx).set (o' := .ins A.C_Buckets dx (putF "own_name" (iV own) [])) 0 rfl
  refine ⟨160, rfl, by decide, by decide, fun D hD => ?_⟩
  have c1 := c0.new (o := .lst []) hD
  refine qfG (Pv := fun i H' => ∃ rs : List (Addr × Bucket), rs.map Prod.snd = List.replicate i {} /\ Sl H (cel x (.ins A.C_Buckets dx [])) H' [Pt D (.lst (refs rs)), Pt x (.ins A.C_Buckets dx (putF "own_name" (iV own) [])), Each (BuckR A) rs]) ⟨[], rfl, ((c1.emp0 (R := BuckR A)).pull 2 rfl).pull 2 rfl⟩ ?_ ?_
  ·rintro i H1 hi ⟨rs, hrs, c2⟩
   have hi : i < 160 := hi
   refine ⟨rfl, ?_⟩
   refine tYesI ?_
   intro y dy ny ndy ne
   refine ⟨y, dy, rfl, qaf, fun H2 h2 sb2 p2 fm2 => ⟨rfl, ?_⟩⟩
   have c3 := c2.made ny ndy ne p2 sb2 fm2
   have hl : rs.length = i := by have := congrArg List.length hrs; rwa [List.length_map, List.length_replicate] at this
   refine ⟨_, c3.get 1 rfl, by rw [qaj, hl]; exact Nat.lt_of_lt_of_le hi (by decide), rs ++ [(y, ({} : Bucket))], by rw [List.map_append, hrs, List.replicate_succ']; rfl, ?_⟩
   have c4 := c3.set (o' := .lst (refs rs ++ [.ref y])) 1 rfl
   rw [qaF]
   have c5 := ((c4.pull 3 rfl).pull 1 rfl).back0 (qs := rs ++ [(y, ({} : Bucket))]) (List.perm_append_comm.trans (.refl _))
   exact (((c5.pull 0 rfl).pull 2 rfl).pull 2 rfl)
  ·rintro H1 ⟨rs, hrs, c2⟩
   have hrs : rs.map Prod.snd = List.replicate 160 {} := hrs
   refine ⟨_, rfl, x, A.C_Buckets, dx, _, rfl, c2.get 1 rfl, T.cl_Buckets, T.na_y9, (by show 1 < 1000; decide), ?_⟩
   have c3 := c2.set (o' := .ins A.C_Buckets dx (nBuckets.zip [iV own, .ref D])) 1 rfl
   have c4 := (((c3.pull 2 rfl).pull 1 rfl).pull 2 rfl)
   obtain ⟨h', p', sb, fm⟩ := (qcr hrs (c4.imp0 (P' := Ob A.C_Buckets nBuckets [iV own, .ref D] x) fun h p => ⟨dx, p⟩)).fin
   exact k _ h' sb p' fm
def sp_z10 (A : Adr) : Sp := fun vs H Q _ => ∃ (a rl : Addr) (own n : Nat) (rs : List (Addr × Bucket)) (r : Addr × Bucket), vs = [.ref a, iV n] /\ IsOb H A.C_Buckets nBuckets [iV own, .ref rl] a /\ H rl = some (.lst (refs rs)) /\ n ≠ own /\ rs[place own n]? = some r /\ Q (.ref r.1) H
theorem qhk (T : Txt K mg A) : FnOk P w K mg base CX0 1 A.a_z10 A.d_z10 ["self", "name"] (sp_z10 A) := by
 refine T.F_z10.ok qiT ?_ ?_
 ·rintro _ _ _ _ ⟨a, rl, own, n, rs, r, rfl, _⟩
  rfl
 ·rintro cdv Ar outer s H _ Q E hr ⟨a, rl, own, n, rs, r, rfl, ⟨da, ha⟩, hl, hne, hi, k⟩
  have nd := qiT.nd
  refine ⟨_, (qac (qag (qcj qbp (qae (pv 0) rfl) (qaK qjQ (qhz PySem.F.plainAttrs_int PyProof.Rows.slot_int_bit_length PyProof.Rows.type_int_bit_length qg4 (qaK qf4 (pv 1) (qae (pv 0) rfl))) qan) (fun _ _ => rfl)))), ?_⟩
  have hx : Nat.xor n own ≠ 0 := fun z => hne (qcT.mp z)
  have e : V.int ((Builtin.Int.intBits (Builtin.bitXor (n : Int) (own : Int)) : Int) - 1) = iV (place own n) := by
   unfold iV
   congr 1
   rw [qbd, qh9 hx]
   unfold place
   rw [show Nat.xor own n = Nat.xor n own from Nat.xor_comm own n]
  refine ⟨_, rfl, a, A.C_Buckets, da, _, _, rfl, ha, T.cl_Buckets, T.na_y9, lz 1, ?_⟩
  refine ⟨_, rfl, _, rfl, a, A.C_Buckets, da, _, _, rfl, ha, T.cl_Buckets, T.na_y8, lz 0, _, _, rfl, rfl, ?_⟩
  refine ⟨rfl, _, rfl, rfl, _, _, rfl, rfl, ?_⟩
  dsimp only
  rw [e]
  exact ⟨rl, _, _, _, rfl, rfl, SqL.of hl, qbo (by unfold refs; rw [List.getElem?_map, hi]; rfl), k⟩
end
def knownIn (bs : List Bucket) (n : Nat) : Option Contact := (bs.flatMap fun b => b.known).find? fun c => c.name == n
theorem qcc (s : Abs) (n : Nat) : knownBy s n = knownIn s.buckets n := rfl
theorem qeQ {n : Nat} : ∀ {bs : List Bucket} {i : Nat} {b : Bucket}, bs[i]? = some b -> (∀ (j : Nat) b', j ≠ i -> bs[j]? = some b' -> ∀ c ∈ b'.known, c.name ≠ n) -> knownIn bs n = b.known.find? fun c => c.name == n
 | [], i, b, h, _ => by simp at h
 | a :: bs, 0, b, h, ho => by
  cases h
  unfold knownIn
  rw [List.flatMap_cons, List.find?_append]
  have : ((bs.flatMap fun b => b.known).find? fun c => c.name == n) = none := by
   rw [List.find?_eq_none]
   intro c hc z
   obtain ⟨b', hb', hc⟩ := List.mem_flatMap.mp hc
   obtain ⟨j, hj⟩ := List.getElem?_of_mem hb'
   exact ho (j + 1) b' (by omega) hj c hc (by simpa using z)
  rw [this, Option.or_none]
 | a :: bs, i + 1, b, h, ho => by
  unfold knownIn
  rw [List.flatMap_cons, List.find?_append]
  have : (a.known.find? fun c => c.name == n) = none := by
   rw [List.find?_eq_none]
   intro c hc z
   exact ho 0 a (by omega) rfl c hc (by simpa using z)
  rw [this, Option.none_or]
  exact qeQ (bs := bs) (i := i) h fun j b' hj hb => ho (j + 1) b' (by omega) hb
section
variable {own n : Nat} {bs : List Bucket}
theorem GoodBs.own_none (g : GoodBs own bs) : knownIn bs own = none := by
 unfold knownIn
 rw [List.find?_eq_none]
 intro c hc z
 obtain ⟨b, hb, hc⟩ := List.mem_flatMap.mp hc
 obtain ⟨j, hj⟩ := List.getElem?_of_mem hb
 exact ((g.ea j b hj).kc c hc).1.ne (by simpa using z)
theorem GoodBs.find (g : GoodBs own bs) {b : Bucket} (h : bs[place own n]? = some b) : knownIn bs n = b.known.find? fun c => c.name == n := by
 refine qeQ h fun j b' hj hb c hc z => ?_
 have := ((g.ea j b' hb).kc c hc).2
 rw [z] at this
 exact hj this.symm
theorem GoodBs.at_ (g : GoodBs own bs) (hn : n < 2 ^ 160) (ne : n ≠ own) : ∃ b, bs[place own n]? = some b /\ bucket bs (place own n) = b /\ GoodB own (place own n) b := by
 have hl : place own n < bs.length := by rw [g.len]; exact qfD g.ow hn ne
 refine ⟨bs[place own n], List.getElem?_eq_getElem hl, ?_, g.ea _ _ (List.getElem?_eq_getElem hl)⟩
 unfold bucket
 rw [List.getD_eq_getElem?_getD, List.getElem?_eq_getElem hl]
 rfl
end
section
variable {P : Program} {w : World} {K : PySem.W.Frag} {mg : Str -> Option Value} {base : Heap} {A : Adr}
theorem Sl.buckOb {H0 h0 H : Hp} {l : List As} {rs : List (Addr × Bucket)} (c : Sl H0 h0 H l) (i : Nat) (e : l[i]? = some (Each (BuckR A) rs)) : ∀ r ∈ rs, ∃ kl wl, IsOb H A.C_Bucket nBucket [.ref kl, .ref wl] r.1 := by
 intro q m
 obtain ⟨j, hj⟩ := List.getElem?_of_mem m
 obtain ⟨kl, wl, ks, ws, _, c1⟩ := qbF (b := q.1) (q := q.2) ((c.pull i e).focus0 hj)
 exact ⟨kl, wl, c1.ob 0 rfl⟩
theorem IsOb.up {h H : Hp} {C a : Addr} {ns : List Str} {vs : List V} (x : IsOb h C ns vs a) (s : Sb h H) : IsOb H C ns vs a := let ⟨d, e⟩ := x; ⟨d, s _ _ e⟩
def sp_z16 (A : Adr) : Sp := fun vs H Q _ => ∃ (a : Addr) (own n : Nat) (bs : List Bucket) (hB : Hp), vs = [.ref a, iV n] /\ GoodBs own bs /\ n < 2 ^ 160 /\ Sb hB H /\ BucksR A a own bs hB /\ (knownIn bs n = none -> Q .non H) /\
 ∀ c x, knownIn bs n = some c -> IsOb hB A.C_Someone nSomeone (vSomeone c) x -> Q (.ref x) H
theorem qkf (T : Txt K mg A) : FnOk P w K mg base CX0 2 A.a_z16 A.d_z16 ["self", "name"] (sp_z16 A) := by
 refine T.F_z16.ok qiA ?_ ?_
 ·rintro _ _ _ _ ⟨a, own, n, bs, hB, rfl, _⟩
  rfl
 ·rintro cdv Ar outer s H _ Q E hr ⟨a, own, n, bs, hB, rfl, g, hn, sb, hBp, k1, k2⟩
  have nd := qiA.nd
  refine ⟨_, (qab (qaC (qar qbN (pv 1) (qae (pv 0) rfl) (nomark _)) (qac (qag qbt)) qao)
   (qac (qag (qak (qak (pv 0) T.cl_Buckets T.me_z10 (qhk T) hr.md T.b_z10 .nil pass0 (qaa (pv 1) qad)) T.cl_Bucket T.me_z20 (qgU T) hr.md T.b_z20 .nil pass0 (qaa (pv 1) qad))))), ?_⟩
  obtain ⟨rl, rs, ers, c0⟩ := qbL (Sl.init (Sb.refl hB) hBp)
  obtain ⟨da, ha⟩ := (c0.ob 0 rfl).up sb
  have hl := sb _ _ (c0.get 1 rfl)
  refine ⟨_, rfl, _, rfl, a, A.C_Buckets, da, _, _, rfl, ha, T.cl_Buckets, T.na_y8, lz 0, rfl, _, rfl, ?_⟩
  rw [qby]
  cases e : n == own with
  | true =>
   refine iteT ?_
   have : n = own := by simpa using e
   exact k1 (this ▸ g.own_none)
  | false =>
   refine iteF ?_
   have ne : n ≠ own := by simpa using e
   obtain ⟨b, hb, _, gb⟩ := g.at_ hn ne
   obtain ⟨r, hr1, hr2⟩ : ∃ r, rs[place own n]? = some r /\ r.2 = b := by
    rw [<- ers, List.getElem?_map] at hb
    cases q : rs[place own n]? with
    | none => rw [q] at hb; cases hb
    | some r => rw [q] at hb; exact ⟨r, rfl, by injection hb⟩
   have ef := g.find (n := n) hb
   obtain ⟨kl, wl, ks, ws, ⟨ek, ew⟩, c1⟩ := qbF (b := r.1) (q := r.2) ((c0.pull 2 rfl).focus0 hr1)
   obtain ⟨dr, hro⟩ := (c1.ob 0 rfl).up sb
   have ho := c1.someOb 3 rfl
   refine ⟨_, rfl, a, da, _, rfl, ha, ln0, _, rfl, a, rl, own, n, rs, r, rfl, ⟨da, ha⟩, hl, ne, hr1, r.1, dr, _, rfl, hro, ln0, _, rfl, ?_⟩
   refine ⟨r.1, kl, _, n, ks, rfl, ⟨dr, hro⟩, sb _ _ (c1.get 1 rfl), fun q hq => (ho q hq).up sb, ?_⟩
   rw [hr2] at ek
   rw [qcE ek fun x => x.name == n] at ef
   rcases hf : ks.find? fun q => q.2.name == n with _ | q
   ·rw [qcq hf]
    rw [hf] at ef
    exact k1 ef
   ·rw [qcn hf]
    rw [hf] at ef
    obtain ⟨j, hj, _⟩ := qct hf
    exact k2 q.2 q.1 ef (ho q (List.mem_of_getElem? hj))
def sp_z38 (A : Adr) : Sp := fun vs H Q _ => ∃ (a : Addr) (own n ad : Nat) (bs : List Bucket) (h : Hp), vs = [.ref a, iV n, iV ad] /\ GoodBs own bs /\ n < 2 ^ 160 /\ Sb h H /\ BucksR A a own bs h /\
 ∀ H' h', Sb h' H' -> BucksR A a own (heard own bs ⟨n, ad, 0⟩) h' -> Fm H h H' h' -> Q .non H'
theorem qi9 {rs : List (Addr × Bucket)} {bs : List Bucket} {i : Nat} {b : Bucket} (ers : rs.map Prod.snd = bs) (hb : bs[i]? = some b) : ∃ r, rs[i]? = some r /\ r.2 = b := by
 rw [<- ers, List.getElem?_map] at hb
 cases q : rs[i]? with
 | none => rw [q] at hb; cases hb
 | some r => rw [q] at hb; exact ⟨r, rfl, by injection hb⟩
theorem qhC (T : Txt K mg A) : FnOk P w K mg base CX0 5 A.a_z38 A.d_z38 ["self", "name", "address"] (sp_z38 A) := by
 refine T.F_z38.ok qjX ?_ ?_
 ·rintro _ _ _ _ ⟨a, own, n, ad, bs, h, rfl, _⟩
  rfl
 ·rintro cdv Ar outer s H _ Q E hr ⟨a, own, n, ad, bs, h, rfl, g, hn, sb, hBp, k⟩
  have nd := qjX.nd
  refine ⟨_, (qac (qaC (qar qdA (pv 1) (qae (pv 0) rfl) (nomark _)) (qac (qap (qak (qak (pv 0) T.cl_Buckets T.me_z10 (qhk T) hr.md T.b_z10 .nil pass0 (qaa (pv 1) qad)) T.cl_Bucket T.me_z46 (ok_z46 T) hr.md T.b_z46 .nil pass0 (qaa (pv 1) (qaa (pv 2) qad))))) qao)), ?_⟩
  obtain ⟨rl, rs, ers, c0⟩ := qbL (Sl.init sb hBp)
  obtain ⟨da, ha⟩ := c0.ob 0 rfl
  have hl := c0.get 1 rfl
  refine ⟨_, rfl, _, rfl, a, A.C_Buckets, da, _, _, rfl, ha, T.cl_Buckets, T.na_y8, lz 0, rfl, _, rfl, ?_⟩
  rw [qcy]
  cases e : n != own with
  | false =>
   refine iteF ?_
   have : n = own := by simpa using e
   refine k H h sb ?_ (Fm.refl _ _)
   unfold heard
   rw [if_pos this]
   exact hBp
  | true =>
   refine iteT ?_
   have ne : n ≠ own := by simpa using e
   obtain ⟨b, hb, hbk, gb⟩ := g.at_ hn ne
   obtain ⟨r, hr1, rfl⟩ := qi9 ers hb
   obtain ⟨kl, wl, dr, hro⟩ := c0.buckOb 2 rfl r (List.mem_of_getElem? hr1)
   obtain ⟨h1, hP, sb1, kc⟩ := ((c0.pull 2 rfl).focus0 hr1).call0
   refine ⟨_, rfl, a, da, _, rfl, ha, ln0, _, rfl, a, rl, own, n, rs, r, rfl, ⟨da, ha⟩, hl, ne, hr1, r.1, dr, _, rfl, hro, ln0, _, rfl, _, rfl, ?_⟩
   refine ⟨r.1, r.2, n, ad, h1, rfl, gb.kl, gb.wl, gb.kn, sb1, hP, fun H2 h2 sb2 p2 fm2 => ?_⟩
   have c2 := (kc p2 sb2 fm2).back0 (qs := rs.set (place own n) (r.1, heardIn r.2 ⟨n, ad, 0⟩)) (qbe hr1)
   have c3 := (((c2.pull 0 rfl).pull 2 rfl).pull 2 rfl)
   rw [<- qdQ (c := heardIn r.2 ⟨n, ad, 0⟩) hr1] at c3
   obtain ⟨h', p', sb', fm⟩ := (qcr (bs := heard own bs ⟨n, ad, 0⟩) (by
    unfold heard
    rw [if_neg ne, List.map_set, ers]
    dsimp only
    rw [hbk]) c3).fin
   exact k _ h' sb' p' fm
def sp_z25 (A : Adr) : Sp := fun vs H Q _ => ∃ (a : Addr) (own n ad : Nat) (bs : List Bucket) (h : Hp), vs = [.ref a, iV n, iV ad] /\ GoodBs own bs /\ n < 2 ^ 160 /\ Sb h H /\ BucksR A a own bs h /\
 ∀ H' h', Sb h' H' -> BucksR A a own (silent own bs ⟨n, ad, 0⟩) h' -> Fm H h H' h' -> Q .non H'
theorem ok_z25 (T : Txt K mg A) : FnOk P w K mg base CX0 3 A.a_z25 A.d_z25 ["self", "name", "address"] (sp_z25 A) := by
 refine T.F_z25.ok qjy ?_ ?_
 ·rintro _ _ _ _ ⟨a, own, n, ad, bs, h, rfl, _⟩
  rfl
 ·rintro cdv Ar outer s H _ Q E hr ⟨a, own, n, ad, bs, h, rfl, g, hn, sb, hBp, k⟩
  have nd := qjy.nd
  refine ⟨_, (qac (qaC (qar qdA (pv 1) (qae (pv 0) rfl) (nomark _)) (qac (qap (qak (qak (pv 0) T.cl_Buckets T.me_z10 (qhk T) hr.md T.b_z10 .nil pass0 (qaa (pv 1) qad)) T.cl_Bucket T.me_z36 (ok_z36 T) hr.md T.b_z36 .nil pass0 (qaa (pv 1) (qaa (pv 2) qad))))) qao)), ?_⟩
  obtain ⟨rl, rs, ers, c0⟩ := qbL (Sl.init sb hBp)
  obtain ⟨da, ha⟩ := c0.ob 0 rfl
  have hl := c0.get 1 rfl
  refine ⟨_, rfl, _, rfl, a, A.C_Buckets, da, _, _, rfl, ha, T.cl_Buckets, T.na_y8, lz 0, rfl, _, rfl, ?_⟩
  rw [qcy]
  cases e : n != own with
  | false =>
   refine iteF ?_
   have : n = own := by simpa using e
   refine k H h sb ?_ (Fm.refl _ _)
   unfold silent
   rw [if_pos this]
   exact hBp
  | true =>
   refine iteT ?_
   have ne : n ≠ own := by simpa using e
   obtain ⟨b, hb, hbk, gb⟩ := g.at_ hn ne
   obtain ⟨r, hr1, rfl⟩ := qi9 ers hb
   obtain ⟨kl, wl, dr, hro⟩ := c0.buckOb 2 rfl r (List.mem_of_getElem? hr1)
   obtain ⟨h1, hP, sb1, kc⟩ := ((c0.pull 2 rfl).focus0 hr1).call0
   refine ⟨_, rfl, a, da, _, rfl, ha, ln0, _, rfl, a, rl, own, n, rs, r, rfl, ⟨da, ha⟩, hl, ne, hr1, r.1, dr, _, rfl, hro, ln0, _, rfl, _, rfl, ?_⟩
   refine ⟨r.1, r.2, n, ad, h1, rfl, gb.kl, gb.wl, gb.kn, fun c hc => (gb.kc c hc).1.sl, sb1, hP, fun H2 h2 sb2 p2 fm2 => ?_⟩
   have c2 := (kc p2 sb2 fm2).back0 (qs := rs.set (place own n) (r.1, silentIn r.2 ⟨n, ad, 0⟩)) (qbe hr1)
   have c3 := (((c2.pull 0 rfl).pull 2 rfl).pull 2 rfl)
   rw [<- qdQ (c := silentIn r.2 ⟨n, ad, 0⟩) hr1] at c3
   obtain ⟨h', p', sb', fm⟩ := (qcr (bs := silent own bs ⟨n, ad, 0⟩) (by
    unfold silent
    rw [if_neg ne, List.map_set, ers]
    dsimp only
    rw [hbk]) c3).fin
   exact k _ h' sb' p' fm
end
end NM
namespace NM
open PySem PySem.Spec PySem.W PyProof.Rows L2
structure Bse (K : PySem.W.Frag) (mg : Str -> Option Value) (base : Heap) : Prop where
 kin : K.In base
 bm : BmAt mg base
section
variable {P : Program} {w : World} {K : PySem.W.Frag} {mg : Str -> Option Value} {base : Heap}
theorem _root_.L2.Fun.okC {x qual : Str} {st : Stmt} {f : Addr} {fd : FuncData} {N ps : List Str} {k : Nat} {sp : Sp} (F : L2.Fun K x qual st f fd) (S : FnScope N ps (defScope st)) (len : ∀ vs H Q E, sp vs H Q E -> vs.length = ps.length)
  (hbody : ∀ (cdv : Value) (hc : fd.code = cdv) (A : Around) (outer : List Env) (s : Shared) (H : Hp) (vs : List V) (Q : VK) (E : XK), Room k (A.deeper (envOfC qual (defScope st) s.heap.objs.size f cdv)) -> sp vs H Q E ->
   ∃ t, PSs (cxOf CX0 P w K mg base N qual (defScope st) f cdv A outer s H E).nox (defBody st) t /\ t { nx := fun _ H' => Q .non H', rt := Q } (start N vs) H) : FnOk P w K mg base CX0 (k + 1) f fd ps sp := by
 obtain ⟨oc, od, kV, doc, pm, an, cdv, ct, osl, rfl, lk, hcd⟩ := F.ex
 refine fn_of lk hcd S len fun A outer s H vs Q E hr hsp => ?_
 obtain ⟨t, h, q⟩ := hbody cdv rfl A outer s H vs Q E hr hsp
 exact ⟨t, h.nox, q⟩
end
def TbA (P : Addr) (pos : Pos) (qual : Str) : As := fun h => (∃ ps, (TriplesOk ps.toList /\ codeAmong pos ps.toList = none) /\ Pt P (.tbl ps) h) \/
 ∃ ps c', (TriplesOk ps.toList /\ codeAmong pos ps.toList = some (.ref c')) /\ stars [Pt P (.tbl ps), Pt c' (.ext fun h => h.CodeRec (.ref c') qual)] h
section
variable {H0 h0 H H' : Hp} {l : List As} {P : Addr} {pos : Pos} {qual : Str} {R S : As}
theorem Sl.or0 (c : Sl H0 h0 H ((fun h => R h \/ S h) :: l)) : Sl H0 h0 H (R :: l) \/ Sl H0 h0 H (S :: l) := by
 obtain ⟨h, s, ⟨h1, h2, d, e, p | p, q⟩, r⟩ := c
 ·exact .inl ⟨h, s, ⟨h1, h2, d, e, p, q⟩, r⟩
 ·exact .inr ⟨h, s, ⟨h1, h2, d, e, p, q⟩, r⟩
theorem qhj (c : Sl H0 h0 H (TbA P pos qual :: l)) : (∃ ps, (TriplesOk ps.toList /\ codeAmong pos ps.toList = none) /\ Sl H0 h0 H (Pt P (.tbl ps) :: l)) \/
  ∃ ps c', (TriplesOk ps.toList /\ codeAmong pos ps.toList = some (.ref c')) /\ Sl H0 h0 H (Pt P (.tbl ps) :: Pt c' (.ext fun h => h.CodeRec (.ref c') qual) :: l) := by
 rcases c.or0 with c | c
 ·obtain ⟨ps, c1⟩ := c.ex0
  exact .inl ⟨ps, c1.prop0⟩
 ·obtain ⟨ps, c1⟩ := c.ex0
  obtain ⟨c', c2⟩ := c1.ex0
  obtain ⟨e, c3⟩ := c2.prop0
  exact .inr ⟨ps, c', e, c3.open0 (k := [_, _])⟩
theorem tb_is (c : Sl H0 h0 H (TbA P pos qual :: l)) : Tb P pos qual H := by
 rcases qhj c with ⟨ps, e, c⟩ | ⟨ps, c', e, c⟩
 ·exact ⟨ps, c.get 0 rfl, e.1, .inl e.2⟩
 ·exact ⟨ps, c.get 0 rfl, e.1, .inr ⟨c', e.2, c.get 1 rfl⟩⟩
theorem qgW (c : Sl H0 h0 H (TbA P pos qual :: l)) (st : TbStep P pos qual H H') : Sl H0 h0 H' (TbA P pos qual :: l) := by
 rcases st with rfl | ⟨ps, c', h1, h2, h3, h4, rfl⟩
 ·exact c
 ·rcases qhj c with ⟨ps', e, c⟩ | ⟨ps', d', e, c⟩
  ·have : H P = some (.tbl ps') := c.get 0 rfl
   rw [h1] at this
   cases this
   have c1 := c.set0 (o' := .tbl (ps ++ #[rawInt pos.line, rawInt pos.col, .ref c']))
   have ne : c' ≠ P := fun z => by rw [z, h1] at h2; cases h2
   have c2 := c1.new (a := c') (o := .ext fun h => h.CodeRec (.ref c') qual) (by rw [qaq ne]; exact h2)
   have c3 := Sl.fold0 (k := [_, _]) (c2.pull 1 rfl)
   refine c3.imp0 fun h p => .inr ⟨_, c', ⟨?_, ?_⟩, p⟩
   ·rw [Array.toList_append]; exact qcW h4
   ·rw [Array.toList_append]; exact codeAmong_snoc _ h4 h3
  ·have : H P = some (.tbl ps') := c.get 0 rfl
   rw [h1] at this
   cases this
   rw [h3] at e
   cases e.2
end
def Is (k : Hp) : As := fun h => h = k
section
variable {H0 h0 H : Hp} {l : List As} {P : As}
theorem Sl.name0 (c : Sl H0 h0 H (P :: l)) : ∃ h1, P h1 /\ Sb h1 H /\ Sl H0 h0 H (Is h1 :: l) := by
 obtain ⟨h1, p, sb, k⟩ := c.call0
 exact ⟨h1, p, sb, k rfl sb (Fm.refl _ _)⟩
theorem Sl.isb {k : Hp} (c : Sl H0 h0 H l) (i : Nat) (e : l[i]? = some (Is k)) : Sb k H := by
 obtain ⟨h1, p, s⟩ := (c.pull i e).head
 cases (show h1 = k from p)
 exact s
end
def KeyP1 (K : PySem.W.Frag) (iy : Nat) (fld : Str) : L2.St -> Hp -> Addr × Int -> Prop := fun σ H q => ∃ (n t : Int) (C dx : Addr) (fs : List (Str × V)), σ[iy]? = some (some (.int t)) /\ H q.1 = some (.ins C dx fs) /\ Cls K C /\ NoAttr K C fld /\ fs.lookup fld = some (.int n) /\ q.2 = Builtin.bitXor n t
def KeyP2 (K : PySem.W.Frag) (iy : Nat) (fld fld2 : Str) : L2.St -> Hp -> Addr × Int -> Prop := fun σ H q => ∃ (n t : Int) (C dx : Addr) (fs : List (Str × V)) (b D db : Addr) (gs : List (Str × V)), σ[iy]? = some (some (.ref b)) /\ H b = some (.ins D db gs) /\ Cls K D /\ NoAttr K D fld2 /\ gs.lookup fld2 = some (.int t) /\
 H q.1 = some (.ins C dx fs) /\ Cls K C /\ NoAttr K C fld /\ fs.lookup fld = some (.int n) /\ q.2 = Builtin.bitXor n t
section
variable {K : PySem.W.Frag} {iy : Nat} {fld fld2 : Str}
theorem qhS {P : Addr} {pos : Pos} {qual : Str} : ∀ σ H H' q, TbStep P pos qual H H' -> KeyP1 K iy fld σ H q -> KeyP1 K iy fld σ H' q := by
 rintro σ H H' q st ⟨n, t, C, dx, fs, h1, h2, h3⟩
 exact ⟨n, t, C, dx, fs, h1, st.old h2 (by intro ps z; cases z), h3⟩
theorem qhR {P : Addr} {pos : Pos} {qual : Str} : ∀ σ H H' q, TbStep P pos qual H H' -> KeyP2 K iy fld fld2 σ H q -> KeyP2 K iy fld fld2 σ H' q := by
 rintro σ H H' q st ⟨n, t, C, dx, fs, b, D, db, gs, h0, h1, h2, h3, h4, h5, h6⟩
 exact ⟨n, t, C, dx, fs, b, D, db, gs, h0, st.old h1 (by intro ps z; cases z), h2, h3, h4, st.old h5 (by intro ps z; cases z), h6⟩
end
theorem qff {P : Program} {w : World} {H : Hp} {h : Heap} {a C dx : Addr} {fs : List (Str × V)} {f : Str} {n : Int} (ok : ObjOk P w H h a (.ins C dx fs)) (e : fs.lookup f = some (.int n)) : ∃ mA t, ObjM h a dx C mA /\ mA f = some (.int n t) := by
 obtain ⟨_, _, h3, h4, mA, h5, h6, _⟩ := ok
 have r := h6 f
 rw [e] at r
 cases q : mA f with
 | none => rw [q] at r; cases r
 | some v =>
  rw [q] at r
  obtain ⟨t, rfl⟩ : ∃ t, v = Value.int n t := r
  exact ⟨mA, t, ⟨h4, h5, h3⟩, q⟩
section
variable {X : Cx} {x y fld fld2 : Str} {iy k : Nat} {cy : Addr} {p1 p2 p3 p4 p5 : Pos} {params : Arguments} {scope : Scope}
theorem qeA {pins : List (Addr × Obj)} {σ : L2.St} {H : Hp} {s : Shared} {v : V} (I : L2.Inv X pins σ H s) (hN : X.N[iy]? = some y) (hv : Vis X.env.scope y) (hk : X.env.kindOf y = some .cell) (hc : X.env.cells.lookup y = some cy) (e : σ[iy]? = some (some v)) : ∃ u, RelV v u /\ s.heap.IsCell cy (some u) := by
 obtain ⟨m, _, hl⟩ := I.loc
 obtain ⟨u, r, ⟨h1, _⟩ | ⟨_, c, h2, h3⟩⟩ := hl iy y v hN e hv
 ·rw [hk] at h1; cases h1
 ·rw [hc] at h2; cases h2
  exact ⟨u, r, h3⟩
theorem turn1 (hr : Room k X.A) (hN : X.N[iy]? = some y) (hv : Vis X.env.scope y) (hk : X.env.kindOf y = some .cell) (hc : X.env.cells.lookup y = some cy)
  (hbind : ∀ qual body pm cdv ct u, bindArgs (kla_fn "<lambda>" qual params body scope [(y, cy)] pm cdv ct) ⟨[u], []⟩ = pure [(x, u)])
  (s1 : scope.names.lookup x = some .local) (s2 : scope.names.lookup y = some .free) (s3 : scope.isCoroutine = false) (s4 : scope.isGenerator = false) (s5 : scope.kind = .function) (s6 : ∀ z ∈ scope.names, z.2 ≠ .cell)
  (hb : ∀ env : Env, attributeBase (.Name x p1) fld env (eval (.Name x p1) env) = eval (.Name x p1) env) (hd : (x == ("__debug__" : Str)) = false) (hd2 : (y == ("__debug__" : Str)) = false) (hcd : (y == ("__classdict__" : Str)) = false) :
  ∀ (pins : List (Addr × Obj)) (s : Shared) (σ : L2.St) (H : Hp) (f c' : Addr) (ctv pm : Value) (q : Addr × Int), L2.Inv X pins σ H s -> s.heap.get? f = some (kla_obj "<lambda>" (X.env.qual ++ "<lambda>") params (.BinOp (.Attribute (.Name x p1) fld p2) .BitXor (.Name y p3) p4) scope [(y, cy)] pm c' ctv) ->
   s.heap.CodeRec (.ref c') (X.env.qual ++ "<lambda>") -> KeyP1 X.K iy fld σ H q -> wpAny (model X.prog X.w) X.A.in1.in1 (call (.ref f) [.ref q.1]) (KeyEnd s q.2) (fun _ _ => False) s := by
 rintro pins s σ H f c' ctv pm q I ho hcr ⟨n, t, C, dx, fs, e1, e2, cl, na, e3, e4⟩
 obtain ⟨u, ⟨tt, rfl⟩, hcell⟩ := qeA I hN hv hk hc e1
 refine wpAny_call (qfN ho hcr I.nolimit (by show X.A.depth < _; exact hr.depth) (hbind _ _ _ _ _ _) (fun z hz => ?_) (fun h1 hns hk1 => ?_) s3 s4 s5 s6)
 ·rcases List.mem_singleton.mp hz with rfl
  exact s1
 ·obtain ⟨mA, tn, O, hmA⟩ := qff (I.hok q.1 _ e2) e3
  obtain ⟨o', es, ep, hns1, r1⟩ := O.ns
  have O1 : ObjM h1 q.1 dx C mA := ⟨hk1 _ _ O.obj, ⟨o', es, ep, hk1 _ _ hns1, r1⟩, O.ne⟩
  refine wpAny_mono (qis (K := X.K) (t := t) (tt := tt) (fld := fld) (a := q.1) (dx := dx) (C := C) (mA := mA) (y := y) (c := cy) (x := x) s5 s1 hns (by rw [List.reverse_singleton]; simp) (fun b o e => hk1 b o (I.kIn b o e)) O1 cl na hmA s2 (by show List.lookup y [(y, cy)] = some cy; simp) ?_ (hb _) hd hd2 hcd) (fun v s' hq => ?_) fun _ _ z => z
  ·obtain ⟨oc, h1c, h2c⟩ := hcell
   exact ⟨oc, hk1 _ _ h1c, h2c⟩
  ·obtain ⟨tk, t', rfl, rfl⟩ := hq
   exact ⟨h1, tk, t', rfl, by rw [e4], hk1⟩
theorem turn2 (hr : Room k X.A) (hN : X.N[iy]? = some y) (hv : Vis X.env.scope y) (hk : X.env.kindOf y = some .cell) (hc : X.env.cells.lookup y = some cy)
  (hbind : ∀ qual body pm cdv ct u, bindArgs (kla_fn "<lambda>" qual params body scope [(y, cy)] pm cdv ct) ⟨[u], []⟩ = pure [(x, u)])
  (s1 : scope.names.lookup x = some .local) (s2 : scope.names.lookup y = some .free) (s3 : scope.isCoroutine = false) (s4 : scope.isGenerator = false) (s5 : scope.kind = .function) (s6 : ∀ z ∈ scope.names, z.2 ≠ .cell)
  (hb : ∀ env : Env, attributeBase (.Name x p1) fld env (eval (.Name x p1) env) = eval (.Name x p1) env) (hb2 : ∀ env : Env, attributeBase (.Name y p3) fld2 env (eval (.Name y p3) env) = eval (.Name y p3) env) (hd : (x == ("__debug__" : Str)) = false) (hd2 : (y == ("__debug__" : Str)) = false) (hcd : (y == ("__classdict__" : Str)) = false) :
  ∀ (pins : List (Addr × Obj)) (s : Shared) (σ : L2.St) (H : Hp) (f c' : Addr) (ctv pm : Value) (q : Addr × Int), L2.Inv X pins σ H s -> s.heap.get? f = some (kla_obj "<lambda>" (X.env.qual ++ "<lambda>") params (.BinOp (.Attribute (.Name x p1) fld p2) .BitXor (.Attribute (.Name y p3) fld2 p5) p4) scope [(y, cy)] pm c' ctv) ->
   s.heap.CodeRec (.ref c') (X.env.qual ++ "<lambda>") -> KeyP2 X.K iy fld fld2 σ H q -> wpAny (model X.prog X.w) X.A.in1.in1 (call (.ref f) [.ref q.1]) (KeyEnd s q.2) (fun _ _ => False) s := by
 rintro pins s σ H f c' ctv pm q I ho hcr ⟨n, t, C, dx, fs, b, D, db, gs, e1, f2, cl2, na2, f3, e2, cl, na, e3, e4⟩
 obtain ⟨u, rfl, hcell⟩ := qeA I hN hv hk hc e1
 refine wpAny_call (qfN ho hcr I.nolimit (by show X.A.depth < _; exact hr.depth) (hbind _ _ _ _ _ _) (fun z hz => ?_) (fun h1 hns hk1 => ?_) s3 s4 s5 s6)
 ·rcases List.mem_singleton.mp hz with rfl
  exact s1
 ·obtain ⟨mA, tn, O, hmA⟩ := qff (I.hok q.1 _ e2) e3
  obtain ⟨o', es, ep, hns1, r1⟩ := O.ns
  have O1 : ObjM h1 q.1 dx C mA := ⟨hk1 _ _ O.obj, ⟨o', es, ep, hk1 _ _ hns1, r1⟩, O.ne⟩
  obtain ⟨mB, tt, O2, hmB⟩ := qff (I.hok b _ f2) f3
  obtain ⟨o2, es2, ep2, hns2, r2⟩ := O2.ns
  have O3 : ObjM h1 b db D mB := ⟨hk1 _ _ O2.obj, ⟨o2, es2, ep2, hk1 _ _ hns2, r2⟩, O2.ne⟩
  refine wpAny_mono (qh8 (K := X.K) (t := t) (tt := tt) (fld := fld) (a := q.1) (dx := dx) (C := C) (mA := mA) (y := y) (c := cy) (x := x) s5 s1 hns (by rw [List.reverse_singleton]; simp) (fun b o e => hk1 b o (I.kIn b o e)) O1 cl na hmA s2 (by show List.lookup y [(y, cy)] = some cy; simp) ?_ O3 cl2 na2 hmB (hb _) (hb2 _) hd hd2 hcd) (fun v s' hq => ?_) fun _ _ z => z
  ·obtain ⟨oc, h1c, h2c⟩ := hcell
   exact ⟨oc, hk1 _ _ h1c, h2c⟩
  ·obtain ⟨tk, t', rfl, rfl⟩ := hq
   exact ⟨h1, tk, t', rfl, by rw [e4], hk1⟩
end
end NM
namespace NM
open PySem L2 Rc50
theorem qhL (xs : List V) (b : Nat) : cutV xs none (some (b : Int)) = xs.take b := by
 unfold cutV
 have e : HT.sIx xs.length 0 none = 0 := by unfold HT.sIx; simp
 rw [e, qcl, List.drop_zero, Nat.sub_zero]
 rcases Nat.le_total b xs.length with h | h
 ·rw [Nat.min_eq_left h]
 ·rw [Nat.min_eq_right h, List.take_length, List.take_of_length_le h]
theorem qe0 {α : Type} (ps : List (Addr × α)) (n : Nat) : (refs ps).take n = refs (ps.take n) := by unfold refs; rw [List.map_take]
theorem qdY : ∀ bs : List Bucket, (∀ b ∈ bs, b.known.length <= 8) -> (bs.flatMap fun b => b.known).length <= 8 * bs.length
 | [], _ => by simp
 | b :: bs, h => by
  rw [List.flatMap_cons, List.length_append, List.length_cons]
  have := qdY bs fun x hx => h x (List.mem_cons_of_mem _ hx)
  have := h b List.mem_cons_self
  omega
theorem GoodBs.nodup {own : Nat} {bs : List Bucket} (g : GoodBs own bs) : ((bs.flatMap fun b => b.known).map (·.name)).Nodup := (qbn bs 0 fun i b hb => by rw [Nat.zero_add]; exact g.ea i b hb).1
abbrev TbN (A : Adr) : As := TbA A.t_z23 qi6 ((("Buckets.nearest" : Str) ++ ".<locals>.") ++ "<lambda>")
section
variable {P : Program} {w : World} {K : PySem.W.Frag} {mg : Str -> Option Value} {base : Heap} {A : Adr}
theorem qgp {a : Addr} {own : Nat} {bs : List Bucket} {hB : Hp} (p : BucksR A a own bs hB) : ∃ (rl : Addr) (rs : List (Addr × Bucket)), rs.map Prod.snd = bs /\ IsOb hB A.C_Buckets nBuckets [iV own, .ref rl] a /\ hB rl = some (.lst (refs rs)) /\
  ∀ r ∈ rs, ∃ (kl : Addr) (wl : V) (ks : List (Addr × Contact)), IsOb hB A.C_Bucket nBucket [.ref kl, wl] r.1 /\ hB kl = some (.lst (refs ks)) /\ ks.map Prod.snd = r.2.known /\ ∀ q ∈ ks, IsOb hB A.C_Someone nSomeone (vSomeone q.2) q.1 := by
 obtain ⟨rl, rs, ers, c0⟩ := qbL (Sl.init (Sb.refl hB) p)
 refine ⟨rl, rs, ers, c0.ob 0 rfl, c0.get 1 rfl, fun r hr => ?_⟩
 obtain ⟨j, hj⟩ := List.getElem?_of_mem hr
 obtain ⟨kl, wl, ks, ws, ⟨ek, ew⟩, c1⟩ := qbF (b := r.1) (q := r.2) ((c0.pull 2 rfl).focus0 hj)
 exact ⟨kl, _, ks, c1.ob 0 rfl, c1.get 1 rfl, ek, c1.someOb 3 rfl⟩
def sp_z23 (A : Adr) : Sp := fun vs H Q _ => ∃ (a : Addr) (own t : Nat) (bs : List Bucket) (hB h : Hp), vs = [.ref a, iV t] /\ GoodBs own bs /\ BucksR A a own bs hB /\ Sb h H /\ stars [Is hB, TbN A] h /\
 ∀ H' h' p ps, Sb h' H' -> stars [Is hB, TbN A, Pt p (.lst (refs ps))] h' -> ps.map Prod.snd = nearest bs t -> (∀ q ∈ ps, IsOb hB A.C_Someone nSomeone (vSomeone q.2) q.1) -> Fm H h H' h' -> Q (.ref p) H'
theorem qgK (T : Txt K mg A) (B : Bse K mg base) : FnOk P w K mg base CX0 1 A.a_z23 A.d_z23 ["self", "name"] (sp_z23 A) := by
 refine T.F_z23.okC qkn (fun vs H Q E h => ?_) (fun cdv hcd Ar outer s H vs Q E hr h => ?_)
 ·obtain ⟨a, own, t, bs, hB, h, rfl, _⟩ := h
  rfl
 ·obtain ⟨a, own, t, bs, hB, h, rfl, g, hBp, sb, hst, k⟩ := h
  have nd := qkn.nd
  refine ⟨_, (qab (qax (i := 2) nd rfl (Or.inl rfl) (qaB qad))
   (qab (qbW PassesOwn.never rfl (qaU (qae (pv 0) rfl)) (qaN (i := 3) nd rfl (Or.inl rfl)) (qac (qap (qb4 PySem.F.plainAttrs_list PySem.F.slot_list_extend PySem.F.type_list_extend qdb (pv 2) (qaa (qae (pv 3) rfl) qad)))))
   (qac (qag (qaZ qbj (qeT (pv 2) ⟨hcd.symm.trans T.l_z23, .inl (PySem.W.codeHd_of_K B.kin T.h_z23), B.bm⟩ rfl T.n_sorted rfl rfl (qhS (K := K) (iy := 1) (fld := "name")) (turn1 (x := "someone") (y := "name") (fld := "name") (iy := 1) hr rfl (Or.inr (Or.inl rfl)) rfl rfl (fun _ _ _ _ _ _ => rfl) rfl rfl rfl rfl rfl (by decide) (fun _ => rfl) (by decide) (by decide) (by decide))) qci (qaP (qai rfl T.c_MOST_NEAREST))))))), ?_⟩
  obtain ⟨rl, rs, ers, ha, hl, hrow⟩ := qgp hBp
  have c0 : Sl H h H [Is hB, TbN A] := (Sl.init sb hst).open0 (k := [_, _])
  refine ⟨by decide, fun e he => ?_⟩
  have c1 := c0.new (o := .lst []) he
  obtain ⟨da, ha1⟩ := ha.up (c1.isb 1 rfl)
  refine ⟨_, rfl, a, A.C_Buckets, da, _, _, rfl, ha1, T.cl_Buckets, T.na_y9, lz 1, rl, rfl, ⟨_, SqL.of (c1.isb 1 rfl _ _ hl)⟩, ?_⟩
  refine qaY (K := K) (a := rl) (xs := refs rs) (fun i σ H' => ∃ es : List (Addr × Contact), (∃ v, σ = [some (.ref a), some (iV t), some (.ref e), v]) /\ es.map Prod.snd = (bs.take i).flatMap (fun b => b.known) /\ (∀ q ∈ es, IsOb hB A.C_Someone nSomeone (vSomeone q.2) q.1) /\ Sl H h H' [Pt e (.lst (refs es)), Is hB, TbN A])
   ⟨[], ⟨none, rfl⟩, rfl, (by intro q hq; cases hq), c1⟩ (fun i σ H' _ h => by obtain ⟨es, _, _, _, c⟩ := h; exact SqL.of (c.isb 1 rfl _ _ hl)) ?_ ?_
  ·rintro i y σ H' hi ⟨es, ⟨v, rfl⟩, hes, hob, c2⟩
   obtain ⟨r, hr1, rfl⟩ := qa9 hi
   obtain ⟨kl, wl, ks, hbo, hkl, ek, hko⟩ := hrow r (List.mem_of_getElem? hr1)
   have sB := c2.isb 1 rfl
   obtain ⟨db, hb⟩ := hbo.up sB
   have hbi : bs[i]? = some r.2 := by rw [<- ers, List.getElem?_map, hr1]; rfl
   have hle : es.length <= 8 * 160 := by
    have h1 := congrArg List.length hes
    rw [List.length_map] at h1
    have h2 := qdY (bs.take i) fun b hb => by
     obtain ⟨j, hj⟩ := List.getElem?_of_mem (List.mem_of_mem_take hb)
     exact (g.ea j b hj).kl
    rw [List.length_take, g.len] at h2
    omega
   have hk8 : ks.length <= 8 := by rw [<- List.length_map (f := Prod.snd), ek]; exact (g.ea i _ hbi).kl
   refine ⟨_, rfl, .inl ⟨rfl, _, SqL.of (c2.get 0 rfl)⟩, _, rfl, r.1, A.C_Bucket, db, _, _, rfl, hb, T.cl_Bucket, T.na_y6, lz 0, e, kl, _, _, rfl, rfl, c2.get 0 rfl, sB _ _ hkl, ?_, es ++ ks, ⟨_, rfl⟩, ?_, ?_, ?_⟩
   ·rw [qaj, qaj]
    exact small2 (by omega)
   ·rw [List.map_append, hes, ek, qbg hbi, List.flatMap_append]
    simp
   ·intro q hq
    rcases List.mem_append.mp hq with hq | hq
    ·exact hob q hq
    ·exact hko q hq
   ·have c3 := c2.set (o' := .lst (refs es ++ refs ks)) 0 rfl
    rw [qfx]
    exact c3
  ·rintro σ H' ⟨es, ⟨v, rfl⟩, hes, hob, c2⟩
   rw [qaj, <- List.length_map (f := Prod.snd) (as := rs), ers, List.take_length] at hes
   have sB := c2.isb 1 rfl
   refine ⟨_, rfl, e, es.map (fun q => (q.1, Builtin.bitXor (q.2.name : Int) (t : Int))), rfl, ?_, ?_, ?_, tb_is (c2.pull 2 rfl), fun H2 st l' p hp hw hn => ?_⟩
   ·rw [List.map_map]
    exact SqL.of (c2.get 0 rfl)
   ·rw [List.length_map]
    have h1 := congrArg List.length hes
    rw [List.length_map] at h1
    have h2 := qdY bs fun b hb => by
     obtain ⟨j, hj⟩ := List.getElem?_of_mem hb
     exact (g.ea j b hj).kl
    rw [g.len] at h2
    exact small2 (by omega)
   ·intro q hq
    obtain ⟨r, hr1, rfl⟩ := List.mem_map.mp hq
    obtain ⟨dr, hro⟩ := (hob r hr1).up sB
    exact ⟨_, _, A.C_Someone, dr, _, rfl, hro, T.cl_Someone, T.na_y40, lz 0, rfl⟩
   ·obtain ⟨es', hp', rfl⟩ := qd1 _ hp
    have c3 := qgW (c2.pull 2 rfl) st
    have c4 := c3.new (o := .lst (refs es')) hn
    rw [List.map_map]
    refine ⟨_, rfl, p, refs es', rfl, SqL.of (c4.get 0 rfl), fun p2 hp2 => ?_⟩
    rw [show cutV (refs es') none (some 8) = refs (es'.take 8) from (qhL _ 8).trans (qe0 _ _)]
    have c5 := c4.new (o := .lst (refs (es'.take 8))) hp2
    have c6 := (((((c5.pull 3 rfl).pull 2 rfl).pull 2 rfl).pull 3 rfl).pull 4 rfl)
    obtain ⟨h', p', sb', fm⟩ := (Sl.fold0 (k := [_, _, _]) c6).fin
    have hs : es'.map Prod.snd = sortN t (bs.flatMap fun b => b.known) := by
     refine qic g.nodup (by rw [<- hes]; exact hp'.map _) ?_
     rw [List.pairwise_map] at hw ⊢
     refine hw.imp fun {x y} z => ?_
     rw [qbd, qbd] at z
     unfold key
     omega
    refine k _ h' p2 (es'.take 8) sb' p' ?_ (fun q hq => hob q (hp'.mem_iff.mp (List.mem_of_mem_take hq))) fm
    rw [List.map_take, hs, qcb]
end
def fitsK (what k : Nat) : Bool := if what = 0 then k == 1 else if what = 2 then k == 7 else k == 3 || k == 5
theorem qk1 (what : Nat) (b : Body) : fits what b = fitsK what (kindOf b) := rfl
theorem natB (k a : Nat) : ((a : Int) == (k : Int)) = (k == a) := by rw [Bool.eq_iff_iff]; simp; omega
theorem inV1 (k a : Nat) : inV (iV k) [.int (a : Int)] = (k == a) := by
 unfold inV iV
 simp only [List.any_cons, List.any_nil, eqV, Bool.or_false]
 exact natB k a
theorem inV2 (k a b : Nat) : inV (iV k) [.int (a : Int), .int (b : Int)] = (k == a || k == b) := by
 unfold inV iV
 simp only [List.any_cons, List.any_nil, eqV, Bool.or_false]
 rw [natB, natB]
section
variable {P : Program} {w : World} {K : PySem.W.Frag} {mg : Str -> Option Value} {base : Heap} {A : Adr}
def isAns (o : Open) (k m s ad : Nat) : Bool := o.mark == m && (o.to_.at_ == ad && (o.to_.name == s && fitsK o.what k))
def sp_z6 (A : Adr) : Sp := fun vs H Q _ => ∃ (x l : Addr) (q : AskT) (k m s ad : Nat) (r1 r2 r3 : V), vs = [.ref x, .ref l, iV ad] /\ AskOk q /\ IsOb H A.C_Asked nAsked (vAsked q) x /\ IsOb H A.C_Letter nLetter [iV k, iV m, iV s, r1, r2, r3] l /\ Q (.bl (isAns q.o k m s ad)) H
theorem ok_z6 (T : Txt K mg A) : FnOk P w K mg base CX0 1 A.a_z6 A.d_z6 ["self", "letter", "address"] (sp_z6 A) := by
 refine T.F_z6.ok sc_z6 ?_ ?_
 ·rintro _ _ _ _ ⟨x, l, q, k, m, s, ad, r1, r2, r3, rfl, _⟩
  rfl
 ·rintro cdv Ar outer s H _ Q E hr ⟨x, l, ⟨kd, o⟩, k, m, sd, ad, r1, r2, r3, rfl, ok, ⟨dx, hx⟩, ⟨dl, hl⟩, kk⟩
  have nd := sc_z6.nd
  refine ⟨_, (qab (qaC (PW.pt (qck (qar qdA (qae (pv 1) rfl) (qae (pv 0) rfl) (nomark _)) (qck (qar qdA (pv 2) (qae (pv 0) rfl) (nomark _)) (qbI (qar qdA (qae (pv 1) rfl) (qae (pv 0) rfl) (nomark _)))))) (qac (qag qcY)) qao)
   (qac (qag (qbs qeD (qae (pv 1) rfl) (qfq (qdm rfl T.g_ANSWERING_KINDS) (qae (pv 0) rfl) (fun _ _ => rfl)) (by with_unfolding_all rfl))))), ?_⟩
  unfold isAns at kk
  refine ⟨_, rfl, l, A.C_Letter, dl, _, _, rfl, hl, T.cl_Letter, T.na_y18, lz 1, _, rfl, x, A.C_Asked, dx, _, _, rfl, hx, T.cl_Asked, T.na_y2, lz 1, rfl, _, rfl, ?_⟩
  rw [qcy]
  cases e1 : m != o.mark with
  | true =>
   refine iteT (iteT ?_)
   have : (o.mark == m) = false := by simp at e1 ⊢; omega
   rw [this] at kk
   exact kk
  | false =>
  have f1 : (o.mark == m) = true := by simp at e1 ⊢; omega
  refine iteF ?_
  refine ⟨_, rfl, _, rfl, x, A.C_Asked, dx, _, _, rfl, hx, T.cl_Asked, T.na_y0, lz 3, rfl, _, rfl, ?_⟩
  rw [qcy]
  cases e2 : ad != o.to_.at_ with
  | true =>
   refine iteT (iteT ?_)
   have : (o.to_.at_ == ad) = false := by simp at e2 ⊢; omega
   rw [this, Bool.false_and, Bool.and_false] at kk
   exact kk
  | false =>
  have f2 : (o.to_.at_ == ad) = true := by simp at e2 ⊢; omega
  refine iteF ?_
  refine ⟨_, rfl, l, A.C_Letter, dl, _, _, rfl, hl, T.cl_Letter, T.na_y21, lz 2, _, rfl, x, A.C_Asked, dx, _, _, rfl, hx, T.cl_Asked, T.na_y3, lz 2, rfl, _, rfl, ?_⟩
  rw [qcy]
  cases e3 : sd != o.to_.name with
  | true =>
   refine iteT ?_
   have : (o.to_.name == sd) = false := by simp at e3 ⊢; omega
   rw [this, Bool.false_and, Bool.and_false, Bool.and_false] at kk
   exact kk
  | false =>
  have f3 : (o.to_.name == sd) = true := by simp at e3 ⊢; omega
  rw [f1, f2, f3, Bool.true_and, Bool.true_and, Bool.true_and] at kk
  refine iteF ?_
  refine ⟨_, rfl, l, A.C_Letter, dl, _, _, rfl, hl, T.cl_Letter, T.na_y17, lz 0, _, rfl, x, A.C_Asked, dx, _, _, rfl, hx, T.cl_Asked, T.na_y1, lz 0, ?_⟩
  unfold fitsK at kk
  rcases ok with ⟨e, e'⟩ | ⟨e, e'⟩ | ⟨e, e' | e'⟩ <;> (dsimp only at e e' kk; subst e')
  ·refine ⟨A.g_ANSWERING_KINDS, _, _, A.t_ANSWERING_KINDS_0, rfl, T.k_ANSWERING_KINDS, rfl, rfl, _, _, rfl, .inr (T.u_ANSWERING_KINDS_0 H), rfl, rfl, ?_⟩
   rw [if_pos e] at kk
   show Q (.bl (inV (iV k) [.int ((1 : Nat) : Int)])) H
   rw [inV1]
   exact kk
  ·refine ⟨A.g_ANSWERING_KINDS, _, _, A.t_ANSWERING_KINDS_6, rfl, T.k_ANSWERING_KINDS, rfl, rfl, _, _, rfl, .inr (T.u_ANSWERING_KINDS_6 H), rfl, rfl, ?_⟩
   rw [if_neg (by omega), if_pos e] at kk
   show Q (.bl (inV (iV k) [.int ((7 : Nat) : Int)])) H
   rw [inV1]
   exact kk
  ·refine ⟨A.g_ANSWERING_KINDS, _, _, A.t_ANSWERING_KINDS_2, rfl, T.k_ANSWERING_KINDS, rfl, rfl, _, _, rfl, .inr (T.u_ANSWERING_KINDS_2 H), rfl, rfl, ?_⟩
   rw [if_neg (by omega), if_neg (by omega)] at kk
   show Q (.bl (inV (iV k) [.int ((3 : Nat) : Int), .int ((5 : Nat) : Int)])) H
   rw [inV2]
   exact kk
  ·refine ⟨A.g_ANSWERING_KINDS, _, _, A.t_ANSWERING_KINDS_4, rfl, T.k_ANSWERING_KINDS, rfl, rfl, _, _, rfl, .inr (T.u_ANSWERING_KINDS_4 H), rfl, rfl, ?_⟩
   rw [if_neg (by omega), if_neg (by omega)] at kk
   show Q (.bl (inV (iV k) [.int ((3 : Nat) : Int), .int ((5 : Nat) : Int)])) H
   rw [inV2]
   exact kk
end
abbrev nPost : List Str := ["own_name", "chance", "outgoing", "unanswered"]
def OutR (q : Addr × (Nat × Bytes)) : As := fun h => ∃ b : Addr, stars [Pt q.1 (.tup [iV q.2.1, .ref b]), Pt b (.lst (q.2.2.map iV))] h
def AskR (A : Adr) (q : Addr × AskT) : As := Ob A.C_Asked nAsked (vAsked q.2) q.1
def PostR (A : Adr) (a : Addr) (own st : Nat) (out : List (Nat × Bytes)) (us : List (Addr × AskT)) : As := fun h => ∃ (ch ol ul : Addr) (os : List (Addr × (Nat × Bytes))), (os.map Prod.snd = out) /\
 stars [Ob A.C_Post nPost [iV own, .ref ch, .ref ol, .ref ul] a, Ob A.C_Chance nChance [iV st] ch, Pt ol (.lst (refs os)), Pt ul (.lst (refs us)), Each OutR os, Each (AskR A) us] h
section
variable {H0 h0 H : Hp} {l : List As} {A : Adr} {a : Addr} {own st : Nat} {out : List (Nat × Bytes)} {us : List (Addr × AskT)}
theorem qaX (c : Sl H0 h0 H (PostR A a own st out us :: l)) : ∃ (ch ol ul : Addr) (os : List (Addr × (Nat × Bytes))), (os.map Prod.snd = out) /\
  Sl H0 h0 H (Ob A.C_Post nPost [iV own, .ref ch, .ref ol, .ref ul] a :: Ob A.C_Chance nChance [iV st] ch :: Pt ol (.lst (refs os)) :: Pt ul (.lst (refs us)) :: Each OutR os :: Each (AskR A) us :: l) := by
 obtain ⟨ch, c1⟩ := c.ex0
 obtain ⟨ol, c2⟩ := c1.ex0
 obtain ⟨ul, c3⟩ := c2.ex0
 obtain ⟨os, c4⟩ := c3.ex0
 obtain ⟨e, c5⟩ := c4.prop0
 exact ⟨ch, ol, ul, os, e, c5.open0 (k := [_, _, _, _, _, _])⟩
theorem qaS {ch ol ul : Addr} {os : List (Addr × (Nat × Bytes))} (e : os.map Prod.snd = out)
  (c : Sl H0 h0 H (Ob A.C_Post nPost [iV own, .ref ch, .ref ol, .ref ul] a :: Ob A.C_Chance nChance [iV st] ch :: Pt ol (.lst (refs os)) :: Pt ul (.lst (refs us)) :: Each OutR os :: Each (AskR A) us :: l)) : Sl H0 h0 H (PostR A a own st out us :: l) :=
 (Sl.fold0 (k := [_, _, _, _, _, _]) c).imp0 fun h p => ⟨ch, ol, ul, os, e, p⟩
theorem Sl.askOb (c : Sl H0 h0 H l) (i : Nat) (e : l[i]? = some (Each (AskR A) us)) : ∀ q ∈ us, IsOb H A.C_Asked nAsked (vAsked q.2) q.1 := by
 intro q m
 obtain ⟨j, hj⟩ := List.getElem?_of_mem m
 exact ((c.pull i e).focus0 hj).ob 0 rfl
theorem Sl.two {P Q : As} (c : Sl H0 h0 H (P :: Q :: l)) : ∃ h1 h2, P h1 /\ Q h2 /\ Dj h1 h2 := by
 obtain ⟨h, s, ⟨h1, _, d, e, p, h2, h3, d2, rfl, q, r⟩, f⟩ := c
 exact ⟨h1, h2, p, q, (Dj.uni_right.mp d).1⟩
theorem qlz {α : Type} {R : α -> As} {ps : List α} {ad : α -> Addr} (hR : ∀ x h, R x h -> h (ad x) ≠ none) (c : Sl H0 h0 H (Each R ps :: l)) {i j : Nat} {x y : α} (hij : i < j) (hi : ps[i]? = some x) (hj : ps[j]? = some y) : ad x ≠ ad y := by
 intro e
 have hj' : (ps.eraseIdx i)[j - 1]? = some y := by
  rw [List.getElem?_eraseIdx, if_neg (by omega), show j - 1 + 1 = j by omega]
  exact hj
 obtain ⟨h1, h2, p, q, d⟩ := (((c.focus0 hi).pull 1 rfl).focus0 hj' |>.pull 2 rfl).two
 rcases d (ad x) with z | z
 ·exact hR x h1 p z
 ·obtain ⟨h3, h4, p3, p4, d4⟩ := ((((c.focus0 hi).pull 1 rfl).focus0 hj').pull 2 rfl |>.pull 1 rfl).two
  rcases d4 (ad y) with z | z
  ·exact hR y h3 p3 z
  ·rw [<- e] at z; exact hR x h4 p4 z
theorem ask_in (x : Addr × AskT) (h : Hp) (p : AskR A x h) : h x.1 ≠ none := by
 obtain ⟨dx, p⟩ := p
 rw [qeK p]
 simp
end
section
variable {P : Program} {w : World} {K : PySem.W.Frag} {mg : Str -> Option Value} {base : Heap} {A : Adr}
def sp_z81 (A : Adr) : Sp := fun vs H Q _ => ∃ (x dx : Addr) (own st : Nat), vs = [.ref x, iV own, iV st] /\ H x = some (.ins A.C_Post dx []) /\ ∀ H' h', Sb h' H' -> PostR A x own st [] [] h' -> Fm H (cel x (.ins A.C_Post dx [])) H' h' -> Q .non H'
theorem ok_z81 (T : Txt K mg A) : FnOk P w K mg base CX0 3 A.a_z81 A.d_z81 ["self", "own_name", "seed"] (sp_z81 A) := by
 refine T.F_z81.ok qjI ?_ ?_
 ·rintro _ _ _ _ ⟨x, dx, own, st, rfl, _⟩
  rfl
 ·rintro cdv Ar outer s H _ Q E hr ⟨x, dx, own, st, rfl, hx, k⟩
  have nd := qjI.nd
  refine ⟨_, (qab (qau (pv 0) (pv 1) rfl)
   (qab (qau (pv 0) (qa8 T.mk_Chance (ok_z48 T) hr.md rfl T.mg_Chance T.b_z48 .nil pass0 (qaa (pv 2) qad)) rfl)
   (qab (qau (pv 0) (qaB qad) rfl)
   (qac (qau (pv 0) (qaB qad) rfl))))), ?_⟩
  refine ⟨_, rfl, _, rfl, x, A.C_Post, dx, _, rfl, hx, T.cl_Post, T.na_y33, (by show 0 < 1000; decide), ?_⟩
  have c0 := (init0 hx).set (o' := .ins A.C_Post dx (putF "own_name" (iV own) [])) 0 rfl
  refine ⟨_, rfl, fun y dy ny ndy ne => ⟨y, dy, st, rfl, qaf, fun H1 h1 sb1 p1 fm1 => ⟨rfl, ?_⟩⟩⟩
  have c1 := c0.made ny ndy ne p1 sb1 fm1
  refine ⟨_, rfl, x, A.C_Post, dx, _, rfl, c1.get 1 rfl, T.cl_Post, T.na_y31, (by show 1 < 1000; decide), ?_⟩
  have c2 := c1.set (o' := .ins A.C_Post dx ((["own_name", "chance"] : List Str).zip [iV own, .ref y])) 1 rfl
  refine ⟨by decide, fun ol hol => ?_⟩
  have c3 := c2.new (o := .lst []) hol
  refine ⟨_, rfl, x, A.C_Post, dx, _, rfl, c3.get 2 rfl, T.cl_Post, T.na_y32, (by show 2 < 1000; decide), ?_⟩
  have c4 := c3.set (o' := .ins A.C_Post dx ((["own_name", "chance", "outgoing"] : List Str).zip [iV own, .ref y, .ref ol])) 2 rfl
  refine ⟨by decide, fun ul hul => ?_⟩
  have c5 := c4.new (o := .lst []) hul
  refine ⟨_, rfl, x, A.C_Post, dx, _, rfl, c5.get 3 rfl, T.cl_Post, T.na_y34, (by show 3 < 1000; decide), ?_⟩
  have c6 := c5.set (o' := .ins A.C_Post dx (nPost.zip [iV own, .ref y, .ref ol, .ref ul])) 3 rfl
  have c7 := (c6.emp0 (R := AskR A)).emp0 (R := OutR)
  have c8 := ((((((c7.pull 1 rfl).pull 1 rfl).pull 2 rfl).pull 3 rfl).pull 4 rfl).pull 5 rfl)
  obtain ⟨h', p', sb, fm⟩ := (qaS (out := []) (os := []) (us := []) rfl (c8.imp0 (P' := Ob A.C_Post nPost [iV own, .ref y, .ref ol, .ref ul] x) fun h p => ⟨dx, p⟩)).fin
  exact k _ h' sb p' fm
def putO (out : List (Nat × Bytes)) (ad : Nat) (bs : Bytes) : List (Nat × Bytes) := if 256 <= out.length then out else out ++ [(ad, bs)]
def sp_z93 (A : Adr) : Sp := fun vs H Q _ => ∃ (a b : Addr) (ad own st : Nat) (bs : Bytes) (out : List (Nat × Bytes)) (us : List (Addr × AskT)) (h : Hp), vs = [.ref a, iV ad, .ref b] /\ out.length <= 256 /\ Sb h H /\ stars [PostR A a own st out us, Pt b (.lst (bs.map iV))] h /\
 ∀ H' h', Sb h' H' -> PostR A a own st (putO out ad bs) us h' -> Fm H h H' h' -> Q .non H'
theorem small1 {n : Nat} (h : n <= 100000) : n < sizeLine := Nat.lt_of_le_of_lt h (by decide)
theorem qjz (T : Txt K mg A) : FnOk P w K mg base CX0 1 A.a_z93 A.d_z93 ["self", "address", "octets"] (sp_z93 A) := by
 refine T.F_z93.ok qjR ?_ ?_
 ·rintro _ _ _ _ ⟨a, b, ad, own, st, bs, out, us, h, rfl, _⟩
  rfl
 ·rintro cdv Ar outer s H _ Q E hr ⟨a, b, ad, own, st, bs, out, us, h, rfl, ho, sb, hp, k⟩
  have nd := qjR.nd
  refine ⟨_, (qac (qaC (qar qdP (qav qah (by rfl) T.n_len PySem.boot_len (qaa (qae (pv 0) rfl) qad)) (qai rfl T.c_MOST_OUTGOING) (nomark _)) (qac (qap (qb4 PySem.F.plainAttrs_list PySem.F.slot_list_append PySem.F.type_list_append qa3 (qae (pv 0) rfl) (qaa (qiP (qaa (pv 1) (qaa (pv 2) qad))) qad)))) qao)), ?_⟩
  obtain ⟨ch, ol, ul, os, eo, c0⟩ := qaX ((Sl.init sb hp).open0 (k := [_, _]))
  have lo : os.length = out.length := by rw [<- eo, List.length_map]
  obtain ⟨da, ha⟩ := c0.ob 0 rfl
  refine ⟨_, rfl, a, A.C_Post, da, _, _, rfl, ha, T.cl_Post, T.na_y32, lz 2, ol, _, rfl, .inl (SqL.of (c0.get 2 rfl)), _, _, rfl, rfl, _, rfl, ?_⟩
  refine ite2 (fun hc => ?_) fun hc => ?_
  ·have hlt : out.length < 256 := by
    have := of_decide_eq_true hc
    rw [qaj] at this
    omega
   refine ⟨_, rfl, a, A.C_Post, da, _, _, rfl, ha, T.cl_Post, T.na_y32, lz 2, .inl ⟨rfl, _, SqL.of (c0.get 2 rfl)⟩, _, rfl, _, rfl, (by show 2 <= sizeLine; decide), fun p hp => ?_⟩
   have c1 := c0.new (o := .tup [iV ad, .ref b]) hp
   refine ⟨ol, _, _, rfl, rfl, c1.get 3 rfl, by rw [qaj]; exact small1 (by omega), ?_⟩
   have c2 := c1.set (o' := .lst (refs os ++ [.ref p])) 3 rfl
   have c3 := Sl.fold0 (k := [_, _]) (((((((((c2.pull 6 rfl).pull 6 rfl).pull 6 rfl).pull 6 rfl).pull 6 rfl).pull 6 rfl).pull 7 rfl).pull 7 rfl))
   have c4 := c3.imp0 (P' := OutR (p, (ad, bs))) fun h q => ⟨b, q⟩
   have c5 := ((c4.pull 5 rfl).pull 1 rfl).back0 (qs := os ++ [(p, (ad, bs))]) (List.perm_append_comm.trans (.refl _))
   have c6 := ((((((c5.pull 5 rfl).pull 1 rfl).pull 5 rfl).pull 5 rfl).pull 5 rfl).pull 5 rfl)
   rw [<- qaF os (p, (ad, bs))] at c6 ⊢
   obtain ⟨h', p', sb', fm⟩ := (qaS (out := putO out ad bs) (by unfold putO; rw [if_neg (by omega), List.map_append, eo]; rfl) c6).fin
   exact k _ h' sb' p' fm
  ·have hge : 256 <= out.length := by
    refine Nat.le_of_not_lt fun z => hc (decide_eq_true ?_)
    rw [qaj]
    omega
   obtain ⟨h', p', sb', fm⟩ := (qaS (out := putO out ad bs) (by unfold putO; rw [if_pos hge, eo]) c0).fin
   exact k _ h' sb' p' fm
def askT (st nm ad now kd what : Nat) : AskT := ⟨kd, ⟨mixed (goOn st), ⟨nm, ad, 0⟩, now, what⟩⟩
def sp_z92 (A : Adr) (K : PySem.W.Frag) : Sp := fun vs H Q _ => ∃ (a y r : Addr) (own st nm ad now kd what : Nat) (xs : List Nat) (out : List (Nat × Bytes)) (us : List (Addr × AskT)) (h : Hp), vs = [.ref a, .ref y, iV kd, .ref r, iV now, .bl (decide (what = 1))] /\
 HasNA K H y nm ad /\ h y = none /\ IsL H r xs /\ h r = none /\ xs.length <= 2000 /\ out.length <= 256 /\ us.length <= 100000 /\ Sb h H /\ PostR A a own st out us h /\
 ∀ H' h' x, Sb h' H' -> PostR A a own (goOn st) (putO out ad ([kd] ++ (be 8 (mixed (goOn st)) ++ (be 20 own ++ xs)))) (us ++ [(x, askT st nm ad now kd what)]) h' -> Fm H h H' h' -> Q .non H'
theorem HasNA.frame {H0 h0 H : Hp} {l : List As} {y : Addr} {n ad : Nat} (h : HasNA K H0 y n ad) (c : Sl H0 h0 H l) (e : h0 y = none) : HasNA K H y n ad := h.same fun o z => c.frame z e
theorem qg5 (T : Txt K mg A) : FnOk P w K mg base CX0 4 A.a_z92 A.d_z92 ["self", "someone", "kind", "rest", "now", "of_search"] (sp_z92 A K) := by
 refine T.F_z92.ok qjD ?_ ?_
 ·rintro _ _ _ _ ⟨a, y, r, own, st, nm, ad, now, kd, what, xs, out, us, h, rfl, _⟩
  rfl
 ·rintro cdv Ar outer s H _ Q E hr ⟨a, y, r, own, st, nm, ad, now, kd, what, xs, out, us, h, rfl, hy, hyn, hr0, hrn, hxl, ho, hu, sb, hp, k⟩
  have nd := qjD.nd
  refine ⟨_, (qab (qax (i := 6) nd rfl (Or.inl rfl) (qas (qae (pv 0) rfl) T.cl_Chance T.me_z49 (ok_z49 T) hr.md T.b_z49 .nil pass0))
   (qab (qap (qak (pv 0) T.cl_Post T.me_z93 (qjz T) hr.md T.b_z93 .nil pass0 (qaa (qae (pv 1) rfl) (qaa (qaw (qeX T) hr.md rfl T.mg_z35 T.F_z35.kp T.b_z35 .nil pass0 (qaa (pv 2) (qaa (pv 6) (qaa (qae (pv 0) rfl) (qaa (pv 3) qad))))) qad))))
   (qac (qap (qb4 PySem.F.plainAttrs_list PySem.F.slot_list_append PySem.F.type_list_append qa3 (qae (pv 0) rfl) (qaa (qa8 T.mk_Asked (ok_z62 T) hr.md rfl T.mg_Asked T.b_z62 .nil pass0 (qaa (pv 2) (qaa (pv 6) (qaa (pv 1) (qaa (pv 4) (qaa (pv 5) qad)))))) qad)))))), ?_⟩
  obtain ⟨ch, ol, ul, os, eo, c0⟩ := qaX (Sl.init sb hp)
  obtain ⟨da, ha⟩ := c0.ob 0 rfl
  obtain ⟨dc, hc⟩ := c0.ob 1 rfl
  obtain ⟨h1, p1, sb1, kc⟩ := c0.call 1 rfl
  refine ⟨_, rfl, a, A.C_Post, da, _, _, rfl, ha, T.cl_Post, T.na_y31, lz 1, ch, dc, _, rfl, hc, ln0, ch, st, h1, rfl, sb1, p1, fun H1 h1' sb1' p1' fm1 => ?_⟩
  have c1 := kc p1' sb1' fm1
  obtain ⟨da1, ha1⟩ := c1.ob 0 rfl
  obtain ⟨C, dy, fs, e1, cl, n1, n2, f1, f2⟩ := hy.frame c1 hyn
  have hr1 := c1.frame hr0 hrn
  refine ⟨_, rfl, a, da1, _, rfl, ha1, ln0, _, rfl, y, C, dy, fs, _, rfl, e1, cl, n2, f2, ?_⟩
  refine ⟨_, rfl, _, rfl, _, rfl, a, A.C_Post, da1, _, _, rfl, ha1, T.cl_Post, T.na_y33, lz 0, _, rfl, kd, mixed (goOn st), own, r, xs, rfl, hr1, hxl, fun H2 p2 s2 m2 l2 => ?_⟩
  have c2 := c1.same s2 m2 l2
  have c3 := Sl.fold0 (k := [_, _]) (qaS eo ((((((((c2.pull 0 rfl).pull 6 rfl).pull 6 rfl).pull 6 rfl).pull 6 rfl).pull 6 rfl).pull 6 rfl)))
  obtain ⟨h3, p3, sb3, kc3⟩ := c3.call0
  refine ⟨a, p2, ad, own, goOn st, _, out, us, h3, rfl, ho, sb3, p3, fun H4 h4 sb4 p4 fm4 => ?_⟩
  obtain ⟨ch', ol', ul', os', eo', c4⟩ := qaX (kc3 p4 sb4 fm4)
  obtain ⟨da4, ha4⟩ := c4.ob 0 rfl
  have hy4 := hy.frame c4 hyn
  refine ⟨_, rfl, a, A.C_Post, da4, _, _, rfl, ha4, T.cl_Post, T.na_y34, lz 3, .inl ⟨rfl, _, SqL.of (c4.get 3 rfl)⟩, ?_⟩
  refine ⟨_, rfl, _, rfl, _, rfl, _, rfl, _, rfl, fun x dx nx ndx ne => ?_⟩
  have yx : y ≠ x := by
   obtain ⟨_, _, _, z, _⟩ := hy4
   exact qat z nx
  have yd : y ≠ dx := by
   obtain ⟨_, _, _, z, _⟩ := hy4
   exact qat z ndx
  refine ⟨x, dx, y, kd, mixed (goOn st), nm, ad, now, decide (what = 1), rfl, qaf, yx, hy4.same fun o z => by rw [qaq yx, qaq yd]; exact z, fun H5 h5 sb5 p5 fm5 => ⟨rfl, ?_⟩⟩
  have c5 := c4.made nx ndx ne p5 sb5 fm5
  refine ⟨ul', _, _, rfl, rfl, c5.get 4 rfl, by rw [qaj]; exact small1 hu, ?_⟩
  have c6 := c5.set (o' := .lst (refs us ++ [.ref x])) 4 rfl
  have c7 := Sl.back0 (R := AskR A) (y := (x, askT st nm ad now kd what)) (qs := us ++ [(x, askT st nm ad now kd what)]) ((((((((c6.pull 5 rfl).pull 5 rfl).pull 5 rfl).pull 5 rfl).pull 5 rfl).pull 6 rfl).pull 6 rfl)) (List.perm_append_comm.trans (.refl _))
  have c8 := ((((((c7.pull 0 rfl).pull 5 rfl).pull 5 rfl).pull 5 rfl).pull 5 rfl).pull 5 rfl)
  have e8 : refs us ++ [V.ref x] = refs (us ++ [(x, askT st nm ad now kd what)]) := (qaF us (x, askT st nm ad now kd what)).symm
  rw [e8] at c8 ⊢
  obtain ⟨h', p', sb', fm⟩ := (qaS eo' c8).fin
  exact k _ h' x sb' p' fm
theorem qir (T : Txt K mg A) {us : List (Addr × AskT)} {H : Hp} (ho : ∀ q ∈ us, IsOb H A.C_Asked nAsked (vAsked q.2) q.1) : ∀ b, b ∈ us.map Prod.fst -> ∃ C dx fs, H b = some (.ins C dx fs) /\ CmpK K C := by
 intro b hb
 obtain ⟨q, hq, rfl⟩ := List.mem_map.mp hb
 obtain ⟨dx, e⟩ := ho q hq
 exact ⟨_, dx, _, e, T.cm_Asked⟩
def sp_z60 (A : Adr) : Sp := fun vs H Q _ => ∃ (a : Addr) (own st j : Nat) (q : Addr × AskT) (out : List (Nat × Bytes)) (us : List (Addr × AskT)) (h : Hp), vs = [.ref a, .ref q.1] /\ us[j]? = some q /\ Sb h H /\ PostR A a own st out us h /\
 ∀ H' h', Sb h' H' -> stars [PostR A a own st out (us.eraseIdx j), AskR A q] h' -> Fm H h H' h' -> Q .non H'
theorem qji (T : Txt K mg A) : FnOk P w K mg base CX0 1 A.a_z60 A.d_z60 ["self", "asked"] (sp_z60 A) := by
 refine T.F_z60.ok qjJ ?_ ?_
 ·rintro _ _ _ _ ⟨a, own, st, j, q, out, us, h, rfl, _⟩
  rfl
 ·rintro cdv Ar outer s H _ Q E hr ⟨a, own, st, j, q, out, us, h, rfl, hj, sb, hp, k⟩
  have nd := qjJ.nd
  refine ⟨_, (qac (qap (qb4 PySem.F.plainAttrs_list PySem.F.slot_list_remove PySem.F.type_list_remove (qc8 (qeH hr)) (qae (pv 0) rfl) (qaa (pv 1) qad)))), ?_⟩
  obtain ⟨ch, ol, ul, os, eo, c0⟩ := qaX (Sl.init sb hp)
  obtain ⟨da, ha⟩ := c0.ob 0 rfl
  have ho := c0.askOb 5 rfl
  have hul := c0.get 3 rfl
  refine ⟨_, rfl, a, A.C_Post, da, _, _, rfl, ha, T.cl_Post, T.na_y34, lz 3, .inl ⟨rfl, _, SqL.of hul⟩, _, rfl, ul, q.1, us.map Prod.fst, j, rfl, rfl, (by rw [<- qcZ]; exact hul), (by rw [List.getElem?_map, hj]; rfl), ?_, qir T ho, ?_⟩
  ·intro m hm z
   rw [List.getElem?_map] at z
   cases e : us[m]? with
   | none => rw [e] at z; cases z
   | some r =>
    rw [e] at z
    have z : r.1 = q.1 := by injection z
    exact qlz (ad := Prod.fst) ask_in (c0.pull 5 rfl) hm e hj z
  rw [qcP]
  have c1 := c0.set (o' := .lst (refs (us.eraseIdx j))) 3 rfl
  have c2 := (c1.pull 5 rfl).focus0 hj
  have c3 := qaS eo ((((((((c2.pull 0 rfl).pull 1 rfl).pull 6 rfl).pull 6 rfl).pull 6 rfl).pull 6 rfl).pull 6 rfl))
  obtain ⟨h', p', sb', fm⟩ := (Sl.fold0 (k := [_, _]) c3).fin
  exact k _ h' sb' p' fm
end
def leaveT (q : AskT) : AskT := ⟨q.kind, ⟨q.o.mark, q.o.to_, q.o.since, if q.o.what = 1 then 3 else q.o.what⟩⟩
def leaveA (q : Addr × AskT) : Addr × AskT := (q.1, leaveT q.2)
section
variable {P : Program} {w : World} {K : PySem.W.Frag} {mg : Str -> Option Value} {base : Heap} {A : Adr}
def sp_z7 (A : Adr) : Sp := fun vs H Q _ => ∃ (a l : Addr) (own st k m s ad : Nat) (r1 r2 r3 : V) (out : List (Nat × Bytes)) (us : List (Addr × AskT)) (h : Hp), vs = [.ref a, .ref l, iV ad] /\ (∀ q ∈ us, AskOk q.2) /\ IsOb H A.C_Letter nLetter [iV k, iV m, iV s, r1, r2, r3] l /\ Sb h H /\ PostR A a own st out us h /\
 ((∀ q ∈ us, isAns q.2.o k m s ad = false) -> ∀ H' h', Sb h' H' -> PostR A a own st out us h' -> Fm H h H' h' -> Q .non H') /\
 (∀ j q, us[j]? = some q -> isAns q.2.o k m s ad = true -> (∀ i, i < j -> ∀ r, us[i]? = some r -> isAns r.2.o k m s ad = false) -> ∀ H' h', Sb h' H' -> stars [PostR A a own st out (us.eraseIdx j), AskR A q] h' -> Fm H h H' h' -> Q (.ref q.1) H')
theorem ok_z7 (T : Txt K mg A) : FnOk P w K mg base CX0 2 A.a_z7 A.d_z7 ["self", "letter", "address"] (sp_z7 A) := by
 refine T.F_z7.ok sc_z7 ?_ ?_
 ·rintro _ _ _ _ ⟨a, l, own, st, k, m, s, ad, r1, r2, r3, out, us, h, rfl, _⟩
  rfl
 ·rintro cdv Ar outer s H _ Q E hr ⟨a, l, own, st, kd, m, sd, ad, r1, r2, r3, out, us, h, rfl, hok, hl, sb, hp, k1, k2⟩
  have nd := sc_z7.nd
  refine ⟨_, (qab (qbW PassesOwn.never rfl (qaU (qeW qeY (by rfl) T.n_list rfl (qaa (qae (pv 0) rfl) qad))) (qaN (i := 3) nd rfl (Or.inl rfl)) (qac (qaC (qbC (qak (pv 3) T.cl_Asked T.me_z6 (ok_z6 T) hr.md T.b_z6 .nil pass0 (qaa (pv 1) (qaa (pv 2) qad)))) (qab (qap (qak (pv 0) T.cl_Post T.me_z60 (qji T) hr.md T.b_z60 .nil pass0 (qaa (pv 3) qad)))
   (qac (qag (pv 3)))) qao)))
   (qac (qag qbt))), ?_⟩
  obtain ⟨ch, ol, ul, os, eo, c0⟩ := qaX (Sl.init sb hp)
  obtain ⟨da, ha⟩ := c0.ob 0 rfl
  refine ⟨_, rfl, a, A.C_Post, da, _, _, rfl, ha, T.cl_Post, T.na_y34, lz 3, ul, _, rfl, .inl (SqL.of (c0.get 3 rfl)), fun cp hcp => ⟨cp, rfl, ⟨_, SqL.of qaf⟩, ?_⟩⟩
  have cc := (Sl.init sb hp).new (o := .lst (refs us)) hcp
  obtain ⟨dl, hl1⟩ := hl
  have hl2 : upd H cp (.lst (refs us)) l = _ := (qaq (qat hl1 hcp)).trans hl1
  have c1 := c0.new (o := .lst (refs us)) hcp
  have ho := c1.askOb 6 rfl
  obtain ⟨da1, ha1⟩ := c1.ob 1 rfl
  refine qaY (K := K) (a := cp) (xs := refs us) (fun i σ H' => H' = upd H cp (.lst (refs us)) /\ (∃ v, σ = [some (.ref a), some (.ref l), some (iV ad), v]) /\ ∀ m', m' < i -> ∀ q, us[m']? = some q -> isAns q.2.o kd m sd ad = false) ⟨rfl, ⟨none, rfl⟩, fun m' hm => absurd hm (Nat.not_lt_zero _)⟩ (fun i σ H' _ h => h.1 ▸ SqL.of qaf) ?_ ?_
  ·rintro i y σ H' hi ⟨rfl, ⟨v, rfl⟩, hno⟩
   obtain ⟨q, hq, rfl⟩ := qa9 hi
   obtain ⟨dq, hoq⟩ := ho q (List.mem_of_getElem? hq)
   refine ⟨_, rfl, q.1, dq, _, rfl, hoq, ln0, _, rfl, _, rfl, q.1, l, q.2, kd, m, sd, ad, r1, r2, r3, rfl, hok q (List.mem_of_getElem? hq), ⟨dq, hoq⟩, ⟨dl, hl2⟩, _, rfl, ?_⟩
   cases e : isAns q.2.o kd m sd ad with
   | true =>
    refine iteT ?_
    have c2 := cc.pull 1 rfl
    obtain ⟨h2, p2, sb2, kc⟩ := c2.call0
    refine ⟨_, rfl, a, da1, _, rfl, ha1, ln0, _, rfl, a, own, st, i, q, out, us, h2, rfl, hq, sb2, p2, fun H3 h3 sb3 p3 fm3 => ?_⟩
    obtain ⟨h', p', sb', fm⟩ := (kc p3 sb3 fm3).fin
    exact ⟨_, rfl, k2 i q hq e hno _ h' sb' p' fm⟩
   | false =>
    refine iteF ⟨rfl, ⟨_, rfl⟩, fun m' hm r hr => ?_⟩
    by_cases z : m' = i
    ·subst z; rw [hq] at hr; cases hr; exact e
    ·exact hno m' (by omega) r hr
  ·rintro σ H' ⟨rfl, ⟨v, rfl⟩, hno⟩
   obtain ⟨h', p', sb', fm⟩ := (cc.pull 1 rfl).fin
   refine k1 (fun q hq => ?_) _ h' sb' p' fm
   obtain ⟨j, hj⟩ := List.getElem?_of_mem hq
   exact hno j (by rw [qaj]; exact qbl hj) q hj
def sp_z33 (A : Adr) : Sp := fun vs H Q _ => ∃ (a : Addr) (own st now : Nat) (out : List (Nat × Bytes)) (us : List (Addr × AskT)) (h : Hp), vs = [.ref a, iV now] /\ us.length <= 100000 /\ Sb h H /\ PostR A a own st out us h /\
 ∀ H' h' p, Sb h' H' -> stars [PostR A a own st out us, Pt p (.lst (refs (us.filter fun q => decide (q.2.o.since + 1000 <= now))))] h' -> Fm H h H' h' -> Q (.ref p) H'
theorem ok_z33 (T : Txt K mg A) : FnOk P w K mg base CX0 2 A.a_z33 A.d_z33 ["self", "now"] (sp_z33 A) := by
 refine T.F_z33.ok qkb ?_ ?_
 ·rintro _ _ _ _ ⟨a, own, st, now, out, us, h, rfl, _⟩
  rfl
 ·rintro cdv Ar outer s H _ Q E hr ⟨a, own, st, now, out, us, h, rfl, hu, sb, hp, k⟩
  have nd := qkb.nd
  refine ⟨_, (qac (qag (qgk rfl nd (qaU (qae (pv 0) rfl)) (own := [("asked", 2)]) (qcd (by rfl)) (fun _ _ _ _ _ => qaN (i := 2) nd rfl (Or.inl rfl)) (fun _ _ _ _ _ => (qef (qbC (qak (pv 2) T.cl_Asked T.me_z39 (ok_z39 T) hr.md T.b_z39 .nil pass0 (qaa (pv 1) qad))))) (fun _ _ _ _ _ => (pv 2))))), ?_⟩
  obtain ⟨ch, ol, ul, os, eo, c0⟩ := qaX (Sl.init sb hp)
  obtain ⟨da, ha⟩ := c0.ob 0 rfl
  refine ⟨_, rfl, a, A.C_Post, da, _, _, rfl, ha, T.cl_Post, T.na_y34, lz 3, ul, rfl, ⟨_, SqL.of (c0.get 3 rfl)⟩, fun D hD => ?_⟩
  refine qdV (K := K) (a := ul) (xs := refs us) (Pv := fun i H' => Sl H h H' [Pt D (.lst (refs ((us.take i).filter fun q => decide (q.2.o.since + 1000 <= now)))), Ob A.C_Post nPost [iV own, .ref ch, .ref ol, .ref ul] a, Ob A.C_Chance nChance [iV st] ch, Pt ol (.lst (refs os)), Pt ul (.lst (refs us)), Each OutR os, Each (AskR A) us]) (c0.new hD) (fun i H' _ c => SqL.of (c.get 4 rfl)) ?_ ?_
  ·rintro i y H1 hi c1
   obtain ⟨r, hr1, rfl⟩ := qa9 hi
   obtain ⟨dq, hoq⟩ := c1.askOb 6 rfl r (List.mem_of_getElem? hr1)
   refine ⟨rfl, ?_⟩
   refine ⟨_, rfl, r.1, dq, _, rfl, hoq, ln0, _, rfl, r.1, r.2, now, rfl, ⟨dq, hoq⟩, _, rfl, ?_⟩
   cases e : decide (r.2.o.since + 1000 <= now) with
   | true =>
    refine iteT ⟨_, rfl, _, c1.get 0 rfl, ?_, ?_⟩
    ·rw [qaj]
     have := List.length_filter_le (fun q : Addr × AskT => decide (q.2.o.since + 1000 <= now)) (us.take i)
     rw [List.length_take] at this
     exact small1 (by omega)
    ·have := c1.set (o' := .lst (refs ((us.take i).filter fun q => decide (q.2.o.since + 1000 <= now)) ++ [.ref r.1])) 0 rfl
     rw [qcw (fun q : Addr × AskT => decide (q.2.o.since + 1000 <= now)) hr1 e, qaF]
     exact this
   | false =>
    refine iteF ?_
    rw [qcz (fun q : Addr × AskT => decide (q.2.o.since + 1000 <= now)) hr1 e]
    exact c1
  ·rintro H1 c1
   rw [qaj, List.take_length] at c1
   have c2 := qaS eo ((((((((c1.pull 0 rfl).pull 6 rfl).pull 6 rfl).pull 6 rfl).pull 6 rfl).pull 6 rfl).pull 6 rfl))
   obtain ⟨h', p', sb', fm⟩ := (Sl.fold0 (k := [_, _]) c2).fin
   exact k _ h' D sb' p' fm
theorem qgb (us : List (Addr × AskT)) : refs (us.map leaveA) = refs us := by unfold refs; rw [List.map_map]; rfl
theorem qej (q : AskT) : vAsked (leaveT q) = (vAsked q).set 5 (.bl false) := by
 unfold vAsked leaveT
 dsimp only
 have : decide ((if q.o.what = 1 then 3 else q.o.what) = 1) = false := by
  refine decide_eq_false ?_
  split <;> omega
 rw [this]
 rfl
def sp_z11 (A : Adr) : Sp := fun vs H Q _ => ∃ (a : Addr) (own st : Nat) (out : List (Nat × Bytes)) (us : List (Addr × AskT)) (h : Hp), vs = [.ref a] /\ Sb h H /\ PostR A a own st out us h /\
 ∀ H' h', Sb h' H' -> PostR A a own st out (us.map leaveA) h' -> Fm H h H' h' -> Q .non H'
theorem qlV {α : Type} (f : α -> α) {l : List α} {i : Nat} {x : α} (h : l[i]? = some x) : ((l.take i).map f ++ l.drop i).set i (f x) = (l.take (i + 1)).map f ++ l.drop (i + 1) := by
 have hi := qbl h
 rw [List.drop_eq_getElem_cons hi, qbg h, List.set_append_right _ _ (by rw [List.length_map, List.length_take]; omega)]
 rw [List.length_map, List.length_take, Nat.min_eq_left (by omega), Nat.sub_self, List.set_cons_zero, List.map_append, List.append_assoc]
 rfl
theorem qki {α : Type} (f : α -> α) {l : List α} {i : Nat} {x : α} (h : l[i]? = some x) : ((l.take i).map f ++ l.drop i)[i]? = some x := by
 have hi := qbl h
 rw [List.getElem?_append_right (by rw [List.length_map, List.length_take]; omega), List.length_map, List.length_take, Nat.min_eq_left (by omega), Nat.sub_self, List.getElem?_drop]
 exact h
theorem ok_z11 (T : Txt K mg A) : FnOk P w K mg base CX0 1 A.a_z11 A.d_z11 ["self"] (sp_z11 A) := by
 refine T.F_z11.ok qjT ?_ ?_
 ·rintro _ _ _ _ ⟨a, own, st, out, us, h, rfl, _⟩
  rfl
 ·rintro cdv Ar outer s H _ Q E hr ⟨a, own, st, out, us, h, rfl, sb, hp, k⟩
  have nd := qjT.nd
  refine ⟨_, (qac (qbW PassesOwn.never rfl (qaU (qae (pv 0) rfl)) (qaN (i := 1) nd rfl (Or.inl rfl)) (qac (qau (pv 1) qcY rfl)))), ?_⟩
  obtain ⟨ch, ol, ul, os, eo, c0⟩ := qaX (Sl.init sb hp)
  obtain ⟨da, ha⟩ := c0.ob 0 rfl
  refine ⟨_, rfl, a, A.C_Post, da, _, _, rfl, ha, T.cl_Post, T.na_y34, lz 3, ul, rfl, ⟨_, SqL.of (c0.get 3 rfl)⟩, ?_⟩
  refine qaY (K := K) (a := ul) (xs := refs us) (fun i σ H' => (∃ v, σ = [some (.ref a), v]) /\ Sl H h H' [Ob A.C_Post nPost [iV own, .ref ch, .ref ol, .ref ul] a, Ob A.C_Chance nChance [iV st] ch, Pt ol (.lst (refs os)), Pt ul (.lst (refs us)), Each OutR os, Each (AskR A) ((us.take i).map leaveA ++ us.drop i)]) ⟨⟨none, rfl⟩, c0⟩ (fun i σ H' _ h => SqL.of (h.2.get 3 rfl)) ?_ ?_
  ·rintro i y σ H' hi ⟨⟨v, rfl⟩, c1⟩
   obtain ⟨q, hq, rfl⟩ := qa9 hi
   have c2 := (c1.pull 5 rfl).focus0 (qki leaveA hq)
   obtain ⟨dq, hoq⟩ : IsOb _ A.C_Asked nAsked (vAsked q.2) q.1 := c2.ob 0 rfl
   refine ⟨_, rfl, q.1, A.C_Asked, dq, _, rfl, hoq, T.cl_Asked, T.na_y4, (by show 6 < 1000; decide), ⟨_, rfl⟩, ?_⟩
   have c3 := c2.obset (f := "of_search") (v := .bl false) (j := 5) 0 rfl hoq (by decide +kernel) (by show 5 < 6; decide)
   have c4 := c3.imp0 (P' := AskR A (leaveA q)) fun h p => by
    unfold AskR leaveA
    dsimp only
    rw [qej]
    exact p
   have c5 := c4.back0 (qs := ((us.take i).map leaveA ++ us.drop i).set i (leaveA q)) (qbe (qki leaveA hq))
   rw [qlV leaveA hq] at c5
   exact ((((((c5.pull 0 rfl).pull 5 rfl).pull 5 rfl).pull 5 rfl).pull 5 rfl).pull 5 rfl)
  ·rintro σ H' ⟨⟨v, rfl⟩, c1⟩
   rw [qaj, List.take_length, List.drop_length, List.append_nil] at c1
   rw [<- qgb] at c1
   obtain ⟨h', p', sb', fm⟩ := (qaS eo c1).fin
   exact k _ h' sb' p' fm
end
abbrev nShelf : List Str := ["kept"]
def dictOf (ts : List (Addr × Rc50.Kept)) : List (Key × V) := ts.map fun q => ((Sum.inl (q.2.key : Int) : Key), V.ref q.1)
def KeptR (q : Addr × Rc50.Kept) : As := fun h => ∃ b : Addr, stars [Pt q.1 (.tup [.ref b, iV q.2.till]), Pt b (.lst (q.2.bytes.map iV))] h
def ShelfR (A : Adr) (a : Addr) (l : List Rc50.Kept) : As := fun h => ∃ (d : Addr) (ts : List (Addr × Rc50.Kept)), (ts.map Prod.snd = l) /\ stars [Ob A.C_Shelf nShelf [.ref d] a, Pt d (.dK (dictOf ts)), Each KeptR ts] h
section
variable {H0 h0 H : Hp} {r : List As} {A : Adr} {a : Addr} {l : List Rc50.Kept}
theorem qca (c : Sl H0 h0 H (ShelfR A a l :: r)) : ∃ (d : Addr) (ts : List (Addr × Rc50.Kept)), ts.map Prod.snd = l /\ Sl H0 h0 H (Ob A.C_Shelf nShelf [.ref d] a :: Pt d (.dK (dictOf ts)) :: Each KeptR ts :: r) := by
 obtain ⟨d, c1⟩ := c.ex0
 obtain ⟨ts, c2⟩ := c1.ex0
 obtain ⟨e, c3⟩ := c2.prop0
 exact ⟨d, ts, e, c3.open0 (k := [_, _, _])⟩
theorem qbT {d : Addr} {ts : List (Addr × Rc50.Kept)} (e : ts.map Prod.snd = l) (c : Sl H0 h0 H (Ob A.C_Shelf nShelf [.ref d] a :: Pt d (.dK (dictOf ts)) :: Each KeptR ts :: r)) : Sl H0 h0 H (ShelfR A a l :: r) :=
 (Sl.fold0 (k := [_, _, _]) c).imp0 fun h p => ⟨d, ts, e, p⟩
theorem Sl.kept {ts : List (Addr × Rc50.Kept)} (c : Sl H0 h0 H r) (i : Nat) (e : r[i]? = some (Each KeptR ts)) : ∀ q ∈ ts, ∃ b, H q.1 = some (.tup [.ref b, iV q.2.till]) /\ H b = some (.lst (q.2.bytes.map iV)) := by
 intro q m
 obtain ⟨j, hj⟩ := List.getElem?_of_mem m
 obtain ⟨b, c1⟩ := ((c.pull i e).focus0 hj).ex0
 have c2 := c1.open0 (k := [_, _])
 exact ⟨b, c2.get 0 rfl, c2.get 1 rfl⟩
end
theorem qkK (a b : Nat) : decide ((Sum.inl (a : Int) : Key) = Sum.inl (b : Int)) = (a == b) := by
 rw [Bool.eq_iff_iff]
 simp
 omega
theorem qeB (n : Nat) : ∀ ts : List (Addr × Rc50.Kept), valV (dictOf ts) (Sum.inl (n : Int)) = (ts.find? fun q => q.2.key == n).map fun q => V.ref q.1
 | [] => rfl
 | q :: ts => by
  unfold dictOf
  rw [List.map_cons, List.find?_cons]
  by_cases e : q.2.key = n
  ·rw [qc1 (by rw [e]), beq_iff_eq.mpr e]
   rfl
  ·rw [qc5 (fun z => e (by have := Sum.inl.inj z; omega)), beq_eq_false_iff_ne.mpr e]
   exact qeB n ts
theorem qkS (n : Nat) (ts : List (Addr × Rc50.Kept)) : dropK (dictOf ts) (Sum.inl (n : Int)) = dictOf (ts.filter fun q => q.2.key != n) := by
 unfold dropK dictOf
 rw [List.filter_map]
 congr 1
 refine List.filter_congr fun q hq => ?_
 show decide (¬ (Sum.inl (q.2.key : Int) : Key) = Sum.inl (n : Int)) = _
 rw [decide_not, qkK]
 rfl
theorem qdk {ts : List (Addr × Rc50.Kept)} {q : Addr × Rc50.Kept} (h : q ∈ ts) : q.2.key ∈ ts.map (·.2.key) := List.mem_map.mpr ⟨q, h, rfl⟩
theorem put_at : ∀ {ts : List (Addr × Rc50.Kept)} {j : Nat} {q : Addr × Rc50.Kept}, (ts.map (·.2.key)).Nodup -> ts[j]? = some q -> ∀ (x : Addr) (c : Rc50.Kept), c.key = q.2.key -> putK (dictOf ts) (Sum.inl (q.2.key : Int)) (.ref x) = dictOf (ts.set j (x, c)) := by
 intro ts j q nd h x c hc
 unfold putK
 have : ((dictOf ts).any fun kv => decide (kv.1 = (Sum.inl (q.2.key : Int) : Key))) = true := by
  unfold dictOf
  rw [List.any_map, List.any_eq_true]
  exact ⟨q, List.mem_of_getElem? h, by simp⟩
 rw [if_pos this]
 clear this
 induction ts generalizing j with
 | nil => simp at h
 | cons a ts ih =>
  rw [List.map_cons, List.nodup_cons] at nd
  cases j with
  | zero =>
   cases h
   unfold dictOf
   rw [List.map_cons, List.map_cons, if_pos rfl, List.set_cons_zero, List.map_cons, hc]
   congr 1
   rw [List.map_map]
   refine List.map_congr_left fun r hr => ?_
   have : ¬ (Sum.inl (r.2.key : Int) : Key) = Sum.inl (q.2.key : Int) := fun z => nd.1 (by
    have : r.2.key = q.2.key := by have := Sum.inl.inj z; omega
    rw [<- this]; exact qdk hr)
   show (if (Sum.inl (r.2.key : Int) : Key) = Sum.inl (q.2.key : Int) then _ else _) = _
   rw [if_neg this]
  | succ j =>
   have h' : ts[j]? = some q := h
   have hne : ¬ (Sum.inl (a.2.key : Int) : Key) = Sum.inl (q.2.key : Int) := fun z => nd.1 (by
    have : a.2.key = q.2.key := by have := Sum.inl.inj z; omega
    rw [this]; exact qdk (List.mem_of_getElem? h'))
   have := ih nd.2 h'
   unfold dictOf at this ⊢
   rw [List.map_cons, List.map_cons, List.set_cons_succ, List.map_cons, if_neg hne, this]
theorem qkO {ts : List (Addr × Rc50.Kept)} {n : Nat} (h : (ts.find? fun q => q.2.key == n) = none) (x : Addr) (c : Rc50.Kept) (hc : c.key = n) : putK (dictOf ts) (Sum.inl (n : Int)) (.ref x) = dictOf (ts ++ [(x, c)]) := by
 rw [qig _ (by rw [qeB, h]; rfl)]
 unfold dictOf
 rw [List.map_append]
 subst hc
 rfl
section
variable {P : Program} {w : World} {K : PySem.W.Frag} {mg : Str -> Option Value} {base : Heap} {A : Adr}
def sp_z64 (A : Adr) : Sp := fun vs H Q _ => ∃ (x dx : Addr), vs = [.ref x] /\ H x = some (.ins A.C_Shelf dx []) /\ ∀ H' h', Sb h' H' -> ShelfR A x [] h' -> Fm H (cel x (.ins A.C_Shelf dx [])) H' h' -> Q .non H'
theorem ok_z64 (T : Txt K mg A) : FnOk P w K mg base CX0 1 A.a_z64 A.d_z64 ["self"] (sp_z64 A) := by
 refine T.F_z64.ok qiF ?_ ?_
 ·rintro _ _ _ _ ⟨x, dx, rfl, _⟩
  rfl
 ·rintro cdv Ar outer s H _ Q E hr ⟨x, dx, rfl, hx, k⟩
  have nd := qiF.nd
  refine ⟨_, (qac (qau (pv 0) qiq rfl)), ?_⟩
  intro d hd
  have c1 := (init0 hx).new (o := .dK []) hd
  refine ⟨_, rfl, x, A.C_Shelf, dx, _, rfl, c1.get 1 rfl, T.cl_Shelf, T.na_y38, (by show 0 < 1000; decide), ?_⟩
  have c2 := c1.set (o' := .ins A.C_Shelf dx (nShelf.zip [.ref d])) 1 rfl
  have c3 := ((((c2.emp0 (R := KeptR)).pull 0 rfl).pull 1 rfl).pull 2 rfl)
  obtain ⟨h', p', sb, fm⟩ := (qbT (l := []) (ts := []) rfl (c3.imp0 (P' := Ob A.C_Shelf nShelf [.ref d] x) fun h p => ⟨dx, p⟩)).fin
  exact k _ h' sb p' fm
def sp_z68 (A : Adr) : Sp := fun vs H Q _ => ∃ (a b : Addr) (n now : Nat) (bs : Bytes) (l : List Rc50.Kept) (h : Hp), vs = [.ref a, iV n, .ref b, iV now] /\ (l.map (·.key)).Nodup /\ l.length <= 128 /\ Sb h H /\ stars [ShelfR A a l, Pt b (.lst (bs.map iV))] h /\
 ∀ H' h', Sb h' H' -> ShelfR A a (keepL l ⟨n, bs, now + 3600000⟩) h' -> Fm H h H' h' -> Q .non H'
theorem qdL {α : Type} {p : α -> Bool} : ∀ {l : List α} {j : Nat} {x : α}, l[j]? = some x -> p x = true -> (∀ m, m < j -> ∀ y, l[m]? = some y -> p y = false) -> l.findIdx? p = some j
 | [], j, x, h, _, _ => by simp at h
 | a :: l, 0, x, h, hp, _ => by
  cases h
  rw [List.findIdx?_cons, hp]
  rfl
 | a :: l, j + 1, x, h, hp, hn => by
  rw [List.findIdx?_cons, hn 0 (by omega) a rfl]
  have := qdL (l := l) (j := j) h hp fun m hm y hy => hn (m + 1) (by omega) y hy
  rw [this]
  rfl
theorem ok_z68 (T : Txt K mg A) : FnOk P w K mg base CX0 1 A.a_z68 A.d_z68 ["self", "name", "content", "now"] (sp_z68 A) := by
 refine T.F_z68.ok qiK ?_ ?_
 ·rintro _ _ _ _ ⟨a, b, n, now, bs, l, h, rfl, _⟩
  rfl
 ·rintro cdv Ar outer s H _ Q E hr ⟨a, b, n, now, bs, l, h, rfl, hnd, hl, sb, hp, k⟩
  have nd := qiK.nd
  refine ⟨_, (qac (qaC (PW.pt (qck (qbf (pc_din (qeH hr) (pv 1) (qae (pv 0) rfl))) (qbI (qar qdP (qav qhG (by rfl) T.n_len PySem.boot_len (qaa (qae (pv 0) rfl) qad)) (qai rfl T.c_MOST_KEPT) (nomark _))))) (qac (qlL (qeH hr) (qae (pv 0) rfl) (pv 1) (qiP (qaa (pv 2) (qaa (qaK qce (pv 3) (qai rfl T.c_KEPT_FOR)) qad))) rfl)) qao)), ?_⟩
  obtain ⟨d, ts, et, c0⟩ := qca ((Sl.init sb hp).open0 (k := [_, _]))
  have lt : ts.length = l.length := by rw [<- et, List.length_map]
  have ld : (dictOf ts).length = l.length := by unfold dictOf; rw [List.length_map, lt]
  have hndt : (ts.map (·.2.key)).Nodup := by
   have : ts.map (·.2.key) = (ts.map Prod.snd).map (·.key) := by rw [List.map_map]; rfl
   rw [this, et]; exact hnd
  obtain ⟨da, ha⟩ := c0.ob 0 rfl
  have hd := c0.get 1 rfl
  have put : ∀ (H1 : Hp) (p : Addr), H1 = upd H p (.tup [.ref b, iV (now + 3600000)]) -> H p = none -> ∀ ts', dictOf ts' = putK (dictOf ts) (Sum.inl (n : Int)) (.ref p) -> ts'.map Prod.snd = keepL l ⟨n, bs, now + 3600000⟩ ->
    (∀ {H2 : Hp} {r : List As}, Sl H h H2 (KeptR (p, ⟨n, bs, now + 3600000⟩) :: Each KeptR ts :: r) -> Sl H h H2 (Each KeptR ts' :: r)) -> Q .non (upd H1 d (.dK (putK (dictOf ts) (Sum.inl (n : Int)) (.ref p)))) := by
   intro H1 p e1 hpn ts' hd' hk' hs
   subst e1
   have c1 := c0.new (o := .tup [.ref b, iV (now + 3600000)]) hpn
   have c2 := c1.set (o' := .dK (putK (dictOf ts) (Sum.inl (n : Int)) (.ref p))) 2 rfl
   have c3 := (Sl.fold0 (k := [_, _]) ((((((c2.pull 3 rfl).pull 3 rfl).pull 3 rfl).pull 4 rfl).pull 4 rfl))).imp0 (P' := KeptR (p, ⟨n, bs, now + 3600000⟩)) fun h q => ⟨b, q⟩
   have c4 := hs (((((c3.pull 2 rfl).pull 2 rfl).pull 3 rfl).pull 3 rfl))
   rw [<- hd'] at c4 ⊢
   obtain ⟨h', p', sb', fm⟩ := (qbT hk' ((((c4.pull 0 rfl).pull 2 rfl).pull 2 rfl))).fin
   exact k _ h' sb' p' fm
  refine ⟨_, rfl, _, rfl, a, A.C_Shelf, da, _, _, rfl, ha, T.cl_Shelf, T.na_y38, lz 0, d, _, rfl, DGet.k (k := Sum.inl (n : Int)) hd, _, rfl, ?_⟩
  rw [qeB]
  rcases hf : ts.find? fun q => q.2.key == n with _ | q
  ·have hi : (l.findIdx? fun x => x.key == n) = none := by
    rw [List.findIdx?_eq_none_iff]
    intro x hx
    rw [<- et] at hx
    obtain ⟨q, hq, rfl⟩ := List.mem_map.mp hx
    have := List.find?_eq_none.mp hf q hq
    simpa using this
   rw [hf, show (Option.map (fun q : Addr × Rc50.Kept => V.ref q.1) none).isSome = false from rfl]
   refine iteF ?_
   refine ⟨_, rfl, a, A.C_Shelf, da, _, _, rfl, ha, T.cl_Shelf, T.na_y38, lz 0, d, _, rfl, hd, _, _, rfl, rfl, _, rfl, ?_⟩
   refine ite2 (fun hc => ?_) fun hc => ?_
   ·have hlt : l.length < 128 := by
     have := of_decide_eq_true hc
     rw [ld] at this
     omega
    refine ⟨_, rfl, _, rfl, _, _, rfl, rfl, (by show 2 <= sizeLine; decide), fun p hpn => ?_⟩
    have ha1 : upd H p (.tup [.ref b, iV (now + 3600000)]) a = _ := (qaq (qat ha hpn)).trans ha
    have hd1 : upd H p (.tup [.ref b, iV (now + 3600000)]) d = _ := (qaq (qat hd hpn)).trans hd
    refine ⟨_, rfl, a, A.C_Shelf, da, _, _, rfl, ha1, T.cl_Shelf, T.na_y38, lz 0, _, rfl, d, _, rfl, DPut.k (k := Sum.inl (n : Int)) hd1 (by rw [ld]; exact small1 (by omega)), ?_⟩
    refine put _ p rfl hpn (ts ++ [(p, ⟨n, bs, now + 3600000⟩)]) (qkO hf _ _ rfl).symm ?_ fun c => c.back0 (List.perm_append_comm.trans (.refl _))
    unfold keepL
    dsimp only
    rw [hi]
    dsimp only
    rw [if_pos hlt, List.map_append, et]
    rfl
   ·have hge : ¬ l.length < 128 := fun z => hc (decide_eq_true (by rw [ld]; omega))
    obtain ⟨h', p', sb', fm⟩ := (qbT (l := keepL l ⟨n, bs, now + 3600000⟩) (by
     unfold keepL
     dsimp only
     rw [hi]
     dsimp only
     rw [if_neg hge, et]) c0).fin
    exact k _ h' sb' p' fm
  ·obtain ⟨j, hj, hqn, hj2⟩ := qct hf
   have hqn' : q.2.key = n := by simpa using hqn
   have hi : (l.findIdx? fun x => x.key == n) = some j := by
    refine qdL (x := q.2) (by rw [<- et, List.getElem?_map, hj]; rfl) hqn fun m hm y hy => ?_
    rw [<- et, List.getElem?_map] at hy
    cases e : ts[m]? with
    | none => rw [e] at hy; cases hy
    | some r => rw [e] at hy; cases hy; exact hj2 m hm r e
   rw [hf, show (Option.map (fun q : Addr × Rc50.Kept => V.ref q.1) (some q)).isSome = true from rfl]
   refine iteT (iteT ?_)
   refine ⟨_, rfl, _, rfl, _, _, rfl, rfl, (by show 2 <= sizeLine; decide), fun p hpn => ?_⟩
   have ha1 : upd H p (.tup [.ref b, iV (now + 3600000)]) a = _ := (qaq (qat ha hpn)).trans ha
   have hd1 : upd H p (.tup [.ref b, iV (now + 3600000)]) d = _ := (qaq (qat hd hpn)).trans hd
   refine ⟨_, rfl, a, A.C_Shelf, da, _, _, rfl, ha1, T.cl_Shelf, T.na_y38, lz 0, _, rfl, d, _, rfl, DPut.k (k := Sum.inl (n : Int)) hd1 (by rw [ld]; exact small1 (by omega)), ?_⟩
   refine put _ p rfl hpn (ts.set j (p, ⟨n, bs, now + 3600000⟩)) (by rw [<- hqn']; exact (put_at hndt hj p ⟨q.2.key, bs, now + 3600000⟩ rfl).symm) ?_ fun c => ((((c.pull 1 rfl).focus0 hj).drop0).pull 1 rfl).back0 (qbe hj)
   unfold keepL
   dsimp only
   rw [hi]
   dsimp only
   rw [List.map_set, et]
def ContOk (l : List Rc50.Kept) (n : Nat) (hS : Hp) (v : V) : Prop := ((l.find? fun x => x.key == n) = none /\ v = .non) \/ ∃ x b, (l.find? fun x => x.key == n) = some x /\ v = .ref b /\ hS b = some (.lst (x.bytes.map iV))
def sp_z15 (A : Adr) : Sp := fun vs H Q _ => ∃ (a : Addr) (n : Nat) (l : List Rc50.Kept) (hS : Hp), vs = [.ref a, iV n] /\ Sb hS H /\ ShelfR A a l hS /\ ∀ v, ContOk l n hS v -> Q v H
theorem qgx {ts : List (Addr × Rc50.Kept)} {l : List Rc50.Kept} (e : ts.map Prod.snd = l) (p : Rc50.Kept -> Bool) : l.find? p = (ts.find? fun q => p q.2).map Prod.snd := by rw [<- e, qb6]
theorem ok_z15 (T : Txt K mg A) : FnOk P w K mg base CX0 1 A.a_z15 A.d_z15 ["self", "name"] (sp_z15 A) := by
 refine T.F_z15.ok qjb ?_ ?_
 ·rintro _ _ _ _ ⟨a, n, l, hS, rfl, _⟩
  rfl
 ·rintro cdv Ar outer s H _ Q E hr ⟨a, n, l, hS, rfl, sb, hp, k⟩
  have nd := qjb.nd
  have k1 : (l.find? fun x => x.key == n) = none -> Q .non H := fun e => k _ (.inl ⟨e, rfl⟩)
  have k2 : ∀ x b, (l.find? fun x => x.key == n) = some x -> hS b = some (.lst (x.bytes.map iV)) -> Q (.ref b) H := fun x b e hb => k _ (.inr ⟨x, b, e, rfl, hb⟩)
  clear k
  refine ⟨_, (qab (qaC (qbf (qgM (qeH hr) (pv 1) (qae (pv 0) rfl))) (qac (qag qbt)) qao)
   (qac (qag (qcj qfX (qhq (qeH hr) (qae (pv 0) rfl) (pv 1) (fun _ _ => rfl)) qan (fun _ _ => rfl))))), ?_⟩
  obtain ⟨d, ts, et, c0⟩ := qca (Sl.init (Sb.refl hS) hp)
  obtain ⟨da, ha⟩ := (c0.ob 0 rfl).up sb
  have hd := sb _ _ (c0.get 1 rfl)
  have ef := qgx et fun x => x.key == n
  refine ⟨_, rfl, _, rfl, a, A.C_Shelf, da, _, _, rfl, ha, T.cl_Shelf, T.na_y38, lz 0, d, _, rfl, DGet.k (k := Sum.inl (n : Int)) hd, _, rfl, ?_⟩
  have ev := qeB n ts
  rw [ev]
  rcases hf : ts.find? fun q => q.2.key == n with _ | q
  ·rw [hf] at ef
   rw [hf]
   exact iteT (k1 ef)
  ·rw [hf] at ef ev
   rw [hf]
   refine iteF ?_
   obtain ⟨j, hj, _⟩ := qct hf
   obtain ⟨b, hb1, hb2⟩ := c0.kept 2 rfl q (List.mem_of_getElem? hj)
   refine ⟨_, rfl, a, A.C_Shelf, da, _, _, rfl, ha, T.cl_Shelf, T.na_y38, lz 0, _, rfl, d, .ref q.1, rfl, ?_, q.1, _, _, _, rfl, rfl, SqT.of (sb _ _ hb1), qbo (j := 0) rfl, k2 q.2 b ef hb2⟩
   have := DGet.k (k := Sum.inl (n : Int)) hd
   rw [ev] at this
   exact this
def sp_z28 (A : Adr) : Sp := fun vs H Q _ => ∃ (a : Addr) (now : Nat) (l : List Rc50.Kept) (h : Hp), vs = [.ref a, iV now] /\ (l.map (·.key)).Nodup /\ Sb h H /\ ShelfR A a l h /\
 ∀ H' h', Sb h' H' -> ShelfR A a (l.filter fun x => decide (now < x.till)) h' -> Fm H h H' h' -> Q .non H'
def midF {α : Type} (p : α -> Bool) (l : List α) (i : Nat) : List α := (l.take i).filter p ++ l.drop i
theorem qil {α : Type} {p : α -> Bool} {l : List α} {i : Nat} {x : α} (h : l[i]? = some x) (e : p x = true) : midF p l (i + 1) = midF p l i := by
 unfold midF
 have hi := qbl h
 rw [qcw p h e, List.append_assoc, List.drop_eq_getElem_cons hi]
 congr 2
 have := List.getElem?_eq_getElem hi
 rw [h] at this
 injection this with this
 rw [this]; rfl
theorem qf9 {α : Type} {p : α -> Bool} {l : List α} {i : Nat} {x : α} (h : l[i]? = some x) : midF p l i = (l.take i).filter p ++ x :: l.drop (i + 1) := by
 unfold midF
 have hi := qbl h
 rw [List.drop_eq_getElem_cons hi]
 have := List.getElem?_eq_getElem hi
 rw [h] at this
 injection this with this
 rw [this]
theorem qml {α : Type} {p : α -> Bool} {l : List α} {i : Nat} {x : α} (h : l[i]? = some x) (e : p x = false) : midF p l (i + 1) = (l.take i).filter p ++ l.drop (i + 1) := by
 unfold midF
 rw [qcz p h e]
theorem qg7 {p : Addr × Rc50.Kept -> Bool} {l : List (Addr × Rc50.Kept)} {i : Nat} (h : (l.map (·.2.key)).Nodup) : ((midF p l i).map (·.2.key)).Nodup := by
 unfold midF
 have : ((l.take i).filter p ++ l.drop i).Sublist l := by
  have h1 : ((l.take i).filter p ++ l.drop i).Sublist (l.take i ++ l.drop i) := List.filter_sublist.append_right _
  rwa [List.take_append_drop] at h1
 exact (this.map _).nodup h
theorem qfH : ∀ {l : List (Addr × Rc50.Kept)} {q : Addr × Rc50.Kept}, (l.map (·.2.key)).Nodup -> q ∈ l -> (l.find? fun r => r.2.key == q.2.key) = some q
 | [], _, _, h => by cases h
 | a :: l, q, nd, h => by
  rw [List.map_cons, List.nodup_cons] at nd
  rw [List.find?_cons]
  rcases List.mem_cons.mp h with rfl | h
  ·rw [beq_self_eq_true]
  ·have : (a.2.key == q.2.key) = false := beq_eq_false_iff_ne.mpr fun z => nd.1 (z ▸ qdk h)
   rw [this]
   exact qfH nd.2 h
theorem qgv {l r : List (Addr × Rc50.Kept)} {q : Addr × Rc50.Kept} (nd : ((l ++ q :: r).map (·.2.key)).Nodup) : (l ++ q :: r).filter (fun x => x.2.key != q.2.key) = l ++ r := by
 rw [List.map_append, List.map_cons, List.nodup_append] at nd
 obtain ⟨h1, h2, h3⟩ := nd
 rw [List.nodup_cons] at h2
 rw [List.filter_append, List.filter_cons_of_neg (by simp)]
 congr 1
 ·refine List.filter_eq_self.mpr fun x hx => ?_
  have := h3 _ (qdk hx) _ List.mem_cons_self
  simpa using this
 ·refine List.filter_eq_self.mpr fun x hx => ?_
  have : x.2.key ≠ q.2.key := fun z => h2.1 (z ▸ qdk hx)
  simpa using this
theorem ok_z28 (T : Txt K mg A) : FnOk P w K mg base CX0 1 A.a_z28 A.d_z28 ["self", "now"] (sp_z28 A) := by
 refine T.F_z28.ok qiW ?_ ?_
 ·rintro _ _ _ _ ⟨a, now, l, h, rfl, _⟩
  rfl
 ·rintro cdv Ar outer s H _ Q E hr ⟨a, now, l, h, rfl, hnd, sb, hp, k⟩
  have nd := qiW.nd
  refine ⟨_, (qac (qbW PassesOwn.never rfl (qaU (qeW (qdD rfl) (by rfl) T.n_list rfl (qaa (qae (pv 0) rfl) qad))) (qaN (i := 2) nd rfl (Or.inl rfl)) (qac (qaC (qar qkx (qcj qfX (qhq (qeH hr) (qae (pv 0) rfl) (pv 2) (fun _ _ => rfl)) qan (fun _ _ => rfl)) (pv 1) (nomark _)) (qac (qap (qhT (qae (pv 0) rfl) (pv 2) ⟨rfl, rfl, rfl, rfl⟩))) qao)))), ?_⟩
  obtain ⟨d, ts, et, c0⟩ := qca (Sl.init sb hp)
  have hndt : (ts.map (·.2.key)).Nodup := by
   have : ts.map (·.2.key) = (ts.map Prod.snd).map (·.key) := by rw [List.map_map]; rfl
   rw [this, et]; exact hnd
  obtain ⟨da, ha⟩ := c0.ob 0 rfl
  refine ⟨_, rfl, a, A.C_Shelf, da, _, _, rfl, ha, T.cl_Shelf, T.na_y38, lz 0, d, _, rfl, c0.get 1 rfl, fun L hL => ⟨L, rfl, ⟨_, SqL.of qaf⟩, ?_⟩⟩
  have ek : ((dictOf ts).map fun p => kV p.1) = ts.map fun q => iV q.2.key := by unfold dictOf; rw [List.map_map]; rfl
  rw [ek]
  have c1 := c0.new (o := .lst (ts.map fun q => iV q.2.key)) hL
  refine qaY (K := K) (a := L) (xs := ts.map fun q => iV q.2.key) (fun i σ H' => (∃ v, σ = [some (.ref a), some (iV now), v]) /\ Sl H h H' [Pt L (.lst (ts.map fun q => iV q.2.key)), Ob A.C_Shelf nShelf [.ref d] a, Pt d (.dK (dictOf (midF (fun q => decide (now < q.2.till)) ts i))), Each KeptR (midF (fun q => decide (now < q.2.till)) ts i)]) ⟨⟨none, rfl⟩, c1⟩ (fun i σ H' _ h => SqL.of (h.2.get 0 rfl)) ?_ ?_
  ·rintro i y σ H' hi ⟨⟨v, rfl⟩, c2⟩
   rw [List.getElem?_map] at hi
   cases e : ts[i]? with
   | none => rw [e] at hi; cases hi
   | some q =>
    rw [e] at hi
    cases hi
    have hsp := qf9 (p := fun q : Addr × Rc50.Kept => decide (now < q.2.till)) e
    have hm : q ∈ midF (fun q => decide (now < q.2.till)) ts i := by rw [hsp]; simp
    have hn1 := qg7 (p := fun q => decide (now < q.2.till)) (i := i) hndt
    obtain ⟨b, hb1, hb2⟩ := c2.kept 3 rfl q hm
    obtain ⟨da2, ha2⟩ := c2.ob 1 rfl
    have hd2 := c2.get 2 rfl
    have ev := qeB q.2.key (midF (fun q => decide (now < q.2.till)) ts i)
    rw [qfH hn1 hm] at ev
    refine ⟨_, rfl, a, A.C_Shelf, da2, _, _, rfl, ha2, T.cl_Shelf, T.na_y38, lz 0, _, rfl, d, .ref q.1, rfl, ?_, q.1, _, _, _, rfl, rfl, SqT.of hb1, qbo (j := 1) rfl, _, rfl, _, _, rfl, rfl, _, rfl, ?_⟩
    ·have := DGet.k (k := Sum.inl (q.2.key : Int)) hd2
     rw [ev] at this
     exact this
    ·refine ite2 (fun hc => ?_) fun hc => ?_
     ·have hle : q.2.till <= now := by have := of_decide_eq_true hc; omega
      refine ⟨_, rfl, a, A.C_Shelf, da2, _, _, rfl, ha2, T.cl_Shelf, T.na_y38, lz 0, d, rfl, .inl ⟨_, .inl hd2⟩, _, rfl, _, Sum.inl (q.2.key : Int), _, hd2, rfl, ev, ⟨_, rfl⟩, ?_⟩
      have ef : (midF (fun q => decide (now < q.2.till)) ts i).filter (fun x => x.2.key != q.2.key) = midF (fun q => decide (now < q.2.till)) ts (i + 1) := by
       rw [hsp] at hn1
       rw [hsp, qml (p := fun q : Addr × Rc50.Kept => decide (now < q.2.till)) e (decide_eq_false (by omega))]
       exact qgv hn1
      have c3 := c2.set (o' := .dK (dropK (dictOf (midF (fun q => decide (now < q.2.till)) ts i)) (Sum.inl (q.2.key : Int)))) 2 rfl
      rw [qkS, ef] at c3 ⊢
      have c4 := (c3.pull 3 rfl).filt0 (fun x => x.2.key != q.2.key)
      rw [ef] at c4
      exact ((((c4.pull 0 rfl).pull 3 rfl).pull 3 rfl).pull 3 rfl)
     ·have hgt : now < q.2.till := Nat.lt_of_not_le fun z => hc (decide_eq_true (by omega))
      refine ⟨⟨_, rfl⟩, ?_⟩
      rw [qil (p := fun q : Addr × Rc50.Kept => decide (now < q.2.till)) e (decide_eq_true hgt)]
      exact c2
  ·rintro σ H' ⟨⟨v, rfl⟩, c2⟩
   rw [List.length_map] at c2
   have em : midF (fun q : Addr × Rc50.Kept => decide (now < q.2.till)) ts ts.length = ts.filter fun q => decide (now < q.2.till) := by unfold midF; rw [List.take_length, List.drop_length, List.append_nil]
   rw [em] at c2
   obtain ⟨h', p', sb', fm⟩ := (qbT (l := l.filter fun x => decide (now < x.till)) (by rw [qaM (fun x : Rc50.Kept => decide (now < x.till)), et]) ((c2.drop0))).fin
   exact k _ h' sb' p' fm
abbrev nOutcome : List Str := ["people", "content"]
def sp_z44 (A : Adr) : Sp := fun vs H Q _ => ∃ (x dx : Addr) (v u : V), vs = [.ref x, v, u] /\ H x = some (.ins A.C_Outcome dx []) /\ ∀ H' h', Sb h' H' -> Ob A.C_Outcome nOutcome [v, u] x h' -> Fm H (cel x (.ins A.C_Outcome dx [])) H' h' -> Q .non H'
theorem qj4 (T : Txt K mg A) : FnOk P w K mg base CX0 1 A.a_z44 A.d_z44 ["self", "people", "content"] (sp_z44 A) := by
 refine T.F_z44.ok qjq ?_ ?_
 ·rintro _ _ _ _ ⟨x, dx, v, u, rfl, _⟩
  rfl
 ·rintro cdv Ar outer s H _ Q E hr ⟨x, dx, v, u, rfl, hx, k⟩
  have nd := qjq.nd
  refine ⟨_, (qab (qau (pv 0) (pv 1) rfl)
   (qac (qau (pv 0) (pv 2) rfl))), ?_⟩
  refine ⟨_, rfl, _, rfl, x, A.C_Outcome, dx, _, rfl, hx, T.cl_Outcome, T.na_y30, (by show 0 < 1000; decide), ?_⟩
  rw [put1]
  refine ⟨_, rfl, _, rfl, x, A.C_Outcome, dx, _, rfl, qaf, T.cl_Outcome, T.na_y29, (by show 1 < 1000; decide), ?_⟩
  rw [qaV, qaG (by decide +kernel) rfl]
  have c1 := (init0 hx).set (o' := .ins A.C_Outcome dx (nOutcome.zip [v, u])) 0 rfl
  obtain ⟨h', p', sb, fm⟩ := c1.fin
  exact k _ h' sb ⟨dx, p'⟩ fm
end
end NM
namespace NM
open PySem L2
structure CallX (H0 h0 H : Hp) (l : List As) (P : As) (h1 : Hp) : Prop where
 p : P h1
 sb : Sb h1 H
 old : ∀ {b : Addr} {o : HO}, H0 b = some o -> h0 b = none -> h1 b = none
 is : ∀ (j : Nat) {k : Hp}, l[j]? = some (Is k) -> Dj h1 k
 pt : ∀ (j : Nat) {a : Addr} {o : HO}, l[j]? = some (Pt a o) -> h1 a = none
 ob : ∀ (j : Nat) {C a : Addr} {ns : List Str} {vs : List V}, l[j]? = some (Ob C ns vs a) -> h1 a = none
 ret : ∀ {H' h1' : Hp} {P' : As}, P' h1' -> Sb h1' H' -> Fm H h1 H' h1' -> Sl H0 h0 H' (P' :: l)
theorem Dj.no {h k : Hp} {b : Addr} {o : HO} (d : Dj h k) (e : k b = some o) : h b = none := by
 rcases d b with z | z
 ·exact z
 ·rw [z] at e; cases e
theorem Dj.noOb {h k : Hp} {C b : Addr} {ns : List Str} {vs : List V} (d : Dj h k) (e : IsOb k C ns vs b) : h b = none := by
 obtain ⟨dx, e⟩ := e
 exact d.no e
theorem Sl.callX {H0 h0 H : Hp} {l : List As} {P : As} (c : Sl H0 h0 H (P :: l)) : ∃ h1, CallX H0 h0 H l P h1 := by
 obtain ⟨h, s, ⟨h1, h2, d, rfl, p, q⟩, f⟩ := c
 refine ⟨h1, p, s.left, fun {b o} e n => ?_, fun j k e => ?_, fun j a o e => ?_, fun j C a ns vs e => ?_, fun {H' h1' P'} p' s' y => ?_⟩
 ·cases z : h1 b with
  | none => rfl
  | some u =>
   rcases f.news b (by rw [qd2 z]; intro x; cases x) with w | w
   ·exact absurd n w
   ·rw [w] at e; cases e
 ·obtain ⟨h3, h4, d3, rfl, p3, _⟩ := qbb (qa7 e) q
  cases (show h3 = k from p3)
  exact (Dj.uni_right.mp d).1
 ·exact d.no (qfY q e)
 ·obtain ⟨h3, h4, d3, rfl, ⟨dx, p3⟩, _⟩ := qbb (qa7 e) q
  exact (Dj.uni_right.mp d).1.no (qeK p3)
 ·obtain ⟨dj, sb, fr⟩ := Fm.side s d y s'
  exact ⟨uni h1' h2, sb, ⟨h1', h2, dj, rfl, p', q⟩, f.trans fr⟩
theorem pe_ifC {X : Cx} {c a b : Expr} {pos : Pos} {tA : TT} {u v : V} (hc : PT X c tA) (ha : PE X a (tC u)) (hb : PE X b (tC v)) : PE X (.IfExp c a b pos) (fun σ H Q => tA σ H fun d H1 => Q (if d = true then u else v) H1) := by
 intro pins s σ H Q I h
 refine wpAny_IfExp (thn (hc pins s σ H _ I h) fun d s1 ⟨H1, I1, q1⟩ => ?_)
 cases d with
 | true => exact ha pins s1 σ H1 Q I1 q1
 | false => exact hb pins s1 σ H1 Q I1 q1
end NM
namespace NM
open PySem L2 Rc50
abbrev nFound : List Str := ["name", "address", "state"]
def vFound (f : Rc50.Found) : List V := [iV f.1.name, iV f.1.at_, iV f.2]
def FoundR (A : Adr) (q : Addr × Rc50.Found) : As := Ob A.C_Found nFound (vFound q.2) q.1
abbrev nSearch : List Str := ["name", "for_value", "found"]
def SearF (A : Adr) (a : Addr) (t : Nat) (v : Bool) (fs : List (Addr × Rc50.Found)) : As := fun h => ∃ fl : Addr, stars [Ob A.C_Search nSearch [iV t, .bl v, .ref fl] a, Pt fl (.lst (refs fs)), Each (FoundR A) fs] h
def SearR (A : Adr) (a : Addr) (x : Rc50.Search) : As := fun h => ∃ fs : List (Addr × Rc50.Found), (fs.map Prod.snd = x.found) /\ SearF A a x.target x.value fs h
section
variable {H0 h0 H : Hp} {l : List As} {A : Adr} {a : Addr} {t : Nat} {v : Bool} {fs : List (Addr × Rc50.Found)} {x : Rc50.Search}
theorem qa1 (c : Sl H0 h0 H (SearF A a t v fs :: l)) : ∃ fl : Addr, Sl H0 h0 H (Ob A.C_Search nSearch [iV t, .bl v, .ref fl] a :: Pt fl (.lst (refs fs)) :: Each (FoundR A) fs :: l) := by
 obtain ⟨fl, c1⟩ := c.ex0
 exact ⟨fl, c1.open0 (k := [_, _, _])⟩
theorem qaO {fl : Addr} (c : Sl H0 h0 H (Ob A.C_Search nSearch [iV t, .bl v, .ref fl] a :: Pt fl (.lst (refs fs)) :: Each (FoundR A) fs :: l)) : Sl H0 h0 H (SearF A a t v fs :: l) :=
 (Sl.fold0 (k := [_, _, _]) c).imp0 fun h p => ⟨fl, p⟩
theorem qbq (c : Sl H0 h0 H (SearR A a x :: l)) : ∃ fs : List (Addr × Rc50.Found), fs.map Prod.snd = x.found /\ Sl H0 h0 H (SearF A a x.target x.value fs :: l) := by
 obtain ⟨fs, c1⟩ := c.ex0
 exact ⟨fs, c1.prop0⟩
theorem qbc (e : fs.map Prod.snd = x.found) (c : Sl H0 h0 H (SearF A a x.target x.value fs :: l)) : Sl H0 h0 H (SearR A a x :: l) := c.imp0 fun h p => ⟨fs, e, p⟩
theorem Sl.foundOb (c : Sl H0 h0 H l) (i : Nat) (e : l[i]? = some (Each (FoundR A) fs)) : ∀ q ∈ fs, IsOb H A.C_Found nFound (vFound q.2) q.1 := by
 intro q m
 obtain ⟨j, hj⟩ := List.getElem?_of_mem m
 exact ((c.pull i e).focus0 hj).ob 0 rfl
end
section
variable {P : Program} {w : World} {K : PySem.W.Frag} {mg : Str -> Option Value} {base : Heap} {A : Adr}
def sp_z58 (A : Adr) : Sp := fun vs H Q _ => ∃ (x dx : Addr) (n a : Nat), vs = [.ref x, iV n, iV a] /\ H x = some (.ins A.C_Found dx []) /\ ∀ H' h', Sb h' H' -> Ob A.C_Found nFound [iV n, iV a, iV 0] x h' -> Fm H (cel x (.ins A.C_Found dx [])) H' h' -> Q .non H'
theorem ok_z58 (T : Txt K mg A) : FnOk P w K mg base CX0 1 A.a_z58 A.d_z58 ["self", "name", "address"] (sp_z58 A) := by
 refine T.F_z58.ok qjv ?_ ?_
 ·rintro _ _ _ _ ⟨x, dx, n, a, rfl, _⟩
  rfl
 ·rintro cdv Ar outer s H _ Q E hr ⟨x, dx, n, a, rfl, hx, k⟩
  have nd := qjv.nd
  refine ⟨_, (qab (qau (pv 0) (pv 1) rfl)
   (qab (qau (pv 0) (pv 2) rfl)
   (qac (qau (pv 0) (qai rfl T.c_NOT_ASKED) rfl)))), ?_⟩
  refine ⟨_, rfl, _, rfl, x, A.C_Found, dx, _, rfl, hx, T.cl_Found, T.na_y14, (by show 0 < 1000; decide), ?_⟩
  rw [put1]
  refine ⟨_, rfl, _, rfl, x, A.C_Found, dx, _, rfl, qaf, T.cl_Found, T.na_y13, (by show 1 < 1000; decide), ?_⟩
  rw [qaV, qaG (by decide +kernel) rfl]
  refine ⟨_, rfl, x, A.C_Found, dx, _, rfl, qaf, T.cl_Found, T.na_y15, (by show 2 < 1000; decide), ?_⟩
  rw [qaV, qaG (by decide +kernel) rfl]
  have c1 := (init0 hx).set (o' := .ins A.C_Found dx (nFound.zip [iV n, iV a, iV 0])) 0 rfl
  obtain ⟨h', p', sb, fm⟩ := c1.fin
  exact k _ h' sb ⟨dx, p'⟩ fm
def SeaIs (A : Adr) (H : Hp) (a : Addr) (t : Nat) (v : Bool) (fl : Addr) (fs : List (Addr × Rc50.Found)) : Prop := IsOb H A.C_Search nSearch [iV t, .bl v, .ref fl] a /\ H fl = some (.lst (refs fs)) /\ ∀ q ∈ fs, IsOb H A.C_Found nFound (vFound q.2) q.1
theorem SeaIs.same {H H' : Hp} {a fl : Addr} {t : Nat} {v : Bool} {fs : List (Addr × Rc50.Found)} (h : SeaIs A H a t v fl fs) (s : Same H H') : SeaIs A H' a t v fl fs := by
 obtain ⟨⟨d, e⟩, h2, h3⟩ := h
 refine ⟨⟨d, s _ _ e⟩, s _ _ h2, fun q hq => ?_⟩
 obtain ⟨d', e'⟩ := h3 q hq
 exact ⟨d', s _ _ e'⟩
def pickF (fs : List (Addr × Rc50.Found)) (n : Nat) : V := match fs.find? fun q => q.2.1.name == n with
 | some q => .ref q.1
 | none => .non
def sp_z19 (A : Adr) : Sp := fun vs H Q _ => ∃ (a fl : Addr) (t n : Nat) (v : Bool) (fs : List (Addr × Rc50.Found)), vs = [.ref a, iV n] /\ SeaIs A H a t v fl fs /\ Q (pickF fs n) H
theorem qhK (T : Txt K mg A) : FnOk P w K mg base CX0 1 A.a_z19 A.d_z19 ["self", "name"] (sp_z19 A) := by
 refine T.F_z19.ok qjn ?_ ?_
 ·rintro _ _ _ _ ⟨a, fl, t, n, v, fs, rfl, _⟩
  rfl
 ·rintro cdv Ar outer s H _ Q E hr ⟨a, fl, t, n, v, fs, rfl, ⟨⟨da, ha⟩, hk, ho⟩, k⟩
  have nd := qjn.nd
  refine ⟨_, (qab (qbW PassesOwn.never rfl (qaU (qae (pv 0) rfl)) (qaN (i := 2) nd rfl (Or.inl rfl)) (qac (qaC (qar qbN (qae (pv 2) rfl) (pv 1) (nomark _)) (qac (qag (pv 2))) qao)))
   (qac (qag qbt))), ?_⟩
  refine ⟨_, rfl, a, A.C_Search, da, _, _, rfl, ha, T.cl_Search, T.na_y36, lz 2, fl, rfl, ⟨_, SqL.of hk⟩, ?_⟩
  refine qaY (K := K) (a := fl) (xs := refs fs) (fun i σ H' => H' = H /\ (∃ v, σ = [some (.ref a), some (iV n), v]) /\ ∀ m, m < i -> ∀ q, fs[m]? = some q -> (q.2.1.name == n) = false) ⟨rfl, ⟨none, rfl⟩, fun m hm => absurd hm (Nat.not_lt_zero _)⟩ (fun i σ H' _ h => h.1 ▸ SqL.of hk) ?_ ?_
  ·rintro i y σ H' hi ⟨rfl, ⟨v, rfl⟩, hno⟩
   obtain ⟨q, hq, rfl⟩ := qa9 hi
   obtain ⟨dq, hoq⟩ := ho q (List.mem_of_getElem? hq)
   refine ⟨_, rfl, q.1, A.C_Found, dq, _, _, rfl, hoq, T.cl_Found, T.na_y14, lz 0, _, rfl, rfl, _, rfl, ?_⟩
   rw [qby]
   cases e : q.2.1.name == n with
   | true =>
    refine iteT ⟨_, rfl, ?_⟩
    have : pickF fs n = .ref q.1 := by unfold pickF; rw [qcI (p := fun q : Addr × Rc50.Found => q.2.1.name == n) hq e hno]
    rw [this] at k
    exact k
   | false =>
    refine iteF ⟨rfl, ⟨_, rfl⟩, fun m hm r hr => ?_⟩
    by_cases z : m = i
    ·subst z; rw [hq] at hr; cases hr; exact e
    ·exact hno m (by omega) r hr
  ·rintro σ H' ⟨rfl, ⟨v, rfl⟩, hno⟩
   have : pickF fs n = .non := by
    unfold pickF
    have : (fs.find? fun q => q.2.1.name == n) = none := by
     rw [List.find?_eq_none]
     intro q hq
     obtain ⟨j, hj⟩ := List.getElem?_of_mem hq
     rw [hno j (by rw [qaj]; exact qbl hj) q hj]
     decide
    rw [this]
   rw [this] at k
   exact k
def sp_z26 (A : Adr) : Sp := fun vs H Q _ => ∃ (a fl : Addr) (t : Nat) (v : Bool) (fs : List (Addr × Rc50.Found)), vs = [.ref a] /\ fs.length <= 64 /\ SeaIs A H a t v fl fs /\
 ∀ H' p, Same H H' -> H p = none -> H' p = some (.lst (refs ((fs.filter fun q => q.2.2 != 3).take 8))) -> Q (.ref p) H'
theorem qjU (T : Txt K mg A) : FnOk P w K mg base CX0 1 A.a_z26 A.d_z26 ["self"] (sp_z26 A) := by
 refine T.F_z26.ok qj0 ?_ ?_
 ·rintro _ _ _ _ ⟨a, fl, t, v, fs, rfl, _⟩
  rfl
 ·rintro cdv Ar outer s H _ Q E hr ⟨a, fl, t, v, fs, rfl, hl, ⟨⟨da, ha⟩, hk, ho⟩, k⟩
  have nd := qj0.nd
  refine ⟨_, (qac (qag (qaZ qbj (qgk rfl nd (qaU (qae (pv 0) rfl)) (own := [("other", 1)]) (qcd (by rfl)) (fun _ _ _ _ _ => qaN (i := 1) nd rfl (Or.inl rfl)) (fun _ _ _ _ _ => (qef (qar qdA (qfo (K := K) rfl (pv 1) rfl) (qai rfl T.c_SILENT) (nomark _)))) (fun _ _ _ _ _ => (pv 1))) qci (qaP (qai rfl T.c_MOST_COUNTED))))), ?_⟩
  refine ⟨_, rfl, a, A.C_Search, da, _, _, rfl, ha, T.cl_Search, T.na_y36, lz 2, fl, rfl, ⟨_, SqL.of hk⟩, fun D hD => ?_⟩
  refine qdV (K := K) (a := fl) (xs := refs fs) (Pv := fun i H' => H' = upd H D (.lst (refs ((fs.take i).filter fun q => q.2.2 != 3)))) rfl (fun i H' _ c => by rw [c]; exact SqL.of (qal hD _ _ hk)) ?_ ?_
  ·rintro i y H1 hi rfl
   obtain ⟨r, hr1, rfl⟩ := qa9 hi
   obtain ⟨dq, hoq⟩ := ho r (List.mem_of_getElem? hr1)
   refine ⟨rfl, ?_⟩
   refine ⟨_, rfl, r.1, A.C_Found, dq, _, _, rfl, qal hD _ _ hoq, T.cl_Found, T.na_y15, lz 2, rfl, _, rfl, ?_⟩
   rw [show V.int 3 = iV 3 from rfl, qcy]
   cases e : r.2.2 != 3 with
   | true =>
    refine iteT ⟨_, rfl, _, qaf, ?_, ?_⟩
    ·rw [qaj]
     have := List.length_filter_le (fun q : Addr × Rc50.Found => q.2.2 != 3) (fs.take i)
     rw [List.length_take] at this
     exact small1 (by omega)
    ·rw [qaV, qcw (fun q : Addr × Rc50.Found => q.2.2 != 3) hr1 e, qaF]
   | false =>
    refine iteF ?_
    rw [qcz (fun q : Addr × Rc50.Found => q.2.2 != 3) hr1 e]
  ·rintro H1 rfl
   rw [qaj, List.take_length]
   refine ⟨_, rfl, D, _, rfl, SqL.of qaf, fun p hp => ?_⟩
   rw [show cutV (refs (fs.filter fun q => q.2.2 != 3)) none (some 8) = refs ((fs.filter fun q => q.2.2 != 3).take 8) from (qhL _ 8).trans (qe0 _ _)]
   exact k _ p ((qal hD).trans (qal hp)) ((qal hD).free hp) qaf
def sp_z3 (A : Adr) : Sp := fun vs H Q _ => ∃ (a fl : Addr) (t : Nat) (v : Bool) (fs : List (Addr × Rc50.Found)), vs = [.ref a] /\ fs.length <= 64 /\ SeaIs A H a t v fl fs /\
 ∀ H', Same H H' -> Q (iV (fs.filter fun q => q.2.2 == 1).length) H'
theorem ok_z3 (T : Txt K mg A) : FnOk P w K mg base CX0 1 A.a_z3 A.d_z3 ["self"] (sp_z3 A) := by
 refine T.F_z3.ok sc_z3 ?_ ?_
 ·rintro _ _ _ _ ⟨a, fl, t, v, fs, rfl, _⟩
  rfl
 ·rintro cdv Ar outer s H _ Q E hr ⟨a, fl, t, v, fs, rfl, hl, ⟨⟨da, ha⟩, hk, ho⟩, k⟩
  have nd := sc_z3.nd
  refine ⟨_, (qac (qag (qav qah (by rfl) T.n_len PySem.boot_len (qaa (qgk rfl nd (qaU (qae (pv 0) rfl)) (own := [("other", 1)]) (qcd (by rfl)) (fun _ _ _ _ _ => qaN (i := 1) nd rfl (Or.inl rfl)) (fun _ _ _ _ _ => (qef (qar qbN (qfo (K := K) rfl (pv 1) rfl) (qai rfl T.c_ASKED) (nomark _)))) (fun _ _ _ _ _ => (pv 1))) qad)))), ?_⟩
  refine ⟨_, rfl, a, A.C_Search, da, _, _, rfl, ha, T.cl_Search, T.na_y36, lz 2, fl, rfl, ⟨_, SqL.of hk⟩, fun D hD => ?_⟩
  refine qdV (K := K) (a := fl) (xs := refs fs) (Pv := fun i H' => H' = upd H D (.lst (refs ((fs.take i).filter fun q => q.2.2 == 1)))) rfl (fun i H' _ c => by rw [c]; exact SqL.of (qal hD _ _ hk)) ?_ ?_
  ·rintro i y H1 hi rfl
   obtain ⟨r, hr1, rfl⟩ := qa9 hi
   obtain ⟨dq, hoq⟩ := ho r (List.mem_of_getElem? hr1)
   refine ⟨rfl, ?_⟩
   refine ⟨_, rfl, r.1, A.C_Found, dq, _, _, rfl, qal hD _ _ hoq, T.cl_Found, T.na_y15, lz 2, rfl, _, rfl, ?_⟩
   rw [show V.int 1 = iV 1 from rfl, qby]
   cases e : r.2.2 == 1 with
   | true =>
    refine iteT ⟨_, rfl, _, qaf, ?_, ?_⟩
    ·rw [qaj]
     have := List.length_filter_le (fun q : Addr × Rc50.Found => q.2.2 == 1) (fs.take i)
     rw [List.length_take] at this
     exact small1 (by omega)
    ·rw [qaV, qcw (fun q : Addr × Rc50.Found => q.2.2 == 1) hr1 e, qaF]
   | false =>
    refine iteF ?_
    rw [qcz (fun q : Addr × Rc50.Found => q.2.2 == 1) hr1 e]
  ·rintro H1 rfl
   rw [qaj, List.take_length]
   refine ⟨D, _, rfl, .inl (SqL.of qaf), ?_⟩
   rw [qaj]
   exact k _ (qal hD)
end
theorem qk4 {α β : Type} {l : List (α × β)} {j : Nat} (q : α × β) : (l.set j q).map Prod.snd = (l.map Prod.snd).set j q.2 := List.map_set
theorem qhX {fs : List (Addr × Rc50.Found)} {x : Rc50.Search} (e : fs.map Prod.snd = x.found) {j : Nat} {q : Addr × Rc50.Found} (hj : fs[j]? = some q) : x.found[j]? = some q.2 := by rw [<- e, List.getElem?_map, hj]; rfl
theorem qec {own : Nat} {fs : List (Addr × Rc50.Found)} {x : Rc50.Search} (g : GoodS own x) (e : fs.map Prod.snd = x.found) {j : Nat} {q : Addr × Rc50.Found} (hj : fs[j]? = some q) (k : Nat) : (fs.set j (q.1, (q.2.1, k))).map Prod.snd = (mark x q.2.1.name k).found := by
 rw [qk4, e]
 exact (qfb g.nodup (qhX e hj)).symm
theorem qdt {α : Type} {l : List (Addr × α)} {j : Nat} {q : Addr × α} (hj : l[j]? = some q) (y : α) : refs (l.set j (q.1, y)) = refs l := by
 unfold refs
 rw [List.map_set]
 have h : (l.map fun q => V.ref q.1)[j]? = some (V.ref q.1) := by rw [List.getElem?_map, hj]; rfl
 have hl := (List.getElem?_eq_some_iff.mp h).1
 have := (List.getElem?_eq_some_iff.mp h).2
 rw [<- this, List.set_getElem_self]
def nextF (fs : List (Addr × Rc50.Found)) : Option (Addr × Rc50.Found) := if (fs.filter fun q => q.2.2 == 1).length < 3 then ((fs.filter fun q => q.2.2 != 3).take 8).find? fun q => q.2.2 == 0 else none
theorem qix {fs : List (Addr × Rc50.Found)} {x : Rc50.Search} (e : fs.map Prod.snd = x.found) : nextOf x = (nextF fs).map Prod.snd := by
 unfold nextOf nextF askedN counted
 rw [<- e, <- qaM (fun f : Rc50.Found => f.2 == 1), <- qaM (fun f : Rc50.Found => f.2 != 3), List.length_map]
 split
 ·rw [show Rc50.K = 8 from rfl, <- List.map_take, qb6]
 ·rfl
theorem qgN {own : Nat} {fs : List (Addr × Rc50.Found)} {x : Rc50.Search} (g : GoodS own x) (e : fs.map Prod.snd = x.found) {n : Nat} (h : ∃ f ∈ x.found, f.1.name = n) : ∃ (j : Nat) (q : Addr × Rc50.Found), fs[j]? = some q /\ q.2.1.name = n /\ pickF fs n = .ref q.1 := by
 obtain ⟨f, hf, rfl⟩ := h
 unfold pickF
 cases hq : fs.find? fun q => q.2.1.name == f.1.name with
 | none =>
  rw [<- e] at hf
  obtain ⟨q, hm, rfl⟩ := List.mem_map.mp hf
  exact absurd (List.find?_eq_none.mp hq q hm) (by simp)
 | some q =>
  obtain ⟨j, hj, h1, _⟩ := qct hq
  exact ⟨j, q, hj, by simpa using h1, rfl⟩
section
variable {P : Program} {w : World} {K : PySem.W.Frag} {mg : Str -> Option Value} {base : Heap} {A : Adr}
theorem qgd (f : Rc50.Found) (k : Nat) : vFound (f.1, k) = (vFound f).set 2 (iV k) := rfl
theorem qdC {H0 h0 H : Hp} {l : List As} {fs : List (Addr × Rc50.Found)} {j k : Nat} {q : Addr × Rc50.Found} {dq : Addr} (c : Sl H0 h0 H (Each (FoundR A) fs :: l)) (hj : fs[j]? = some q) (hd : H q.1 = some (.ins A.C_Found dq (nFound.zip (vFound q.2)))) :
  Sl H0 h0 (upd H q.1 (.ins A.C_Found dq (putF "state" (iV k) (nFound.zip (vFound q.2))))) (Each (FoundR A) (fs.set j (q.1, (q.2.1, k))) :: l) := by
 have c1 := c.focus0 hj
 have c2 := c1.obset (f := "state") (v := iV k) (j := 2) 0 rfl hd (by decide +kernel) (by show 2 < 3; decide)
 have c3 := c2.imp0 (P' := FoundR A (q.1, (q.2.1, k))) fun h p => by
  unfold FoundR
  dsimp only
  rw [qgd]
  exact p
 exact c3.back0 (qbe hj)
def sp_z8 (A : Adr) (k : Nat) : Sp := fun vs H Q _ => ∃ (a : Addr) (own n : Nat) (x : Rc50.Search) (h : Hp), vs = [.ref a, iV n] /\ GoodS own x /\ (∃ f ∈ x.found, f.1.name = n) /\ Sb h H /\ SearR A a x h /\
 ∀ H' h', Sb h' H' -> SearR A a (mark x n k) h' -> Fm H h H' h' -> Q .non H'
theorem ok_z8 (T : Txt K mg A) : FnOk P w K mg base CX0 2 A.a_z8 A.d_z8 ["self", "name"] (sp_z8 A 2) := by
 refine T.F_z8.ok sc_z8 ?_ ?_
 ·rintro _ _ _ _ ⟨a, own, n, x, h, rfl, _⟩
  rfl
 ·rintro cdv Ar outer s H _ Q E hr ⟨a, own, n, x, h, rfl, g, hn, sb, hp, k⟩
  have nd := sc_z8.nd
  refine ⟨_, (qab (qax (i := 2) nd rfl (Or.inl rfl) (qak (pv 0) T.cl_Search T.me_z19 (qhK T) hr.md T.b_z19 .nil pass0 (qaa (pv 1) qad)))
   (qac (qau (pv 2) (qai rfl T.c_ANSWERED) rfl))), ?_⟩
  obtain ⟨fs, e, c0⟩ := qbq (Sl.init sb hp)
  obtain ⟨fl, c1⟩ := qa1 c0
  obtain ⟨da, ha⟩ := c1.ob 0 rfl
  obtain ⟨j, q, hj, rfl, hq⟩ := qgN g e hn
  obtain ⟨dq, hoq⟩ := c1.foundOb 2 rfl q (List.mem_of_getElem? hj)
  refine ⟨_, rfl, a, da, _, rfl, ha, ln0, _, rfl, a, fl, x.target, q.2.1.name, x.value, fs, rfl, ⟨⟨da, ha⟩, c1.get 1 rfl, c1.foundOb 2 rfl⟩, ?_⟩
  rw [hq]
  refine ⟨_, rfl, q.1, A.C_Found, dq, _, rfl, hoq, T.cl_Found, T.na_y15, (by show 3 < 1000; decide), ?_⟩
  have c2 := qdC (k := 2) (c1.pull 2 rfl) hj hoq
  have c3 := (((c2.pull 0 rfl).pull 2 rfl).pull 2 rfl)
  rw [<- qdt hj (q.2.1, 2)] at c3
  obtain ⟨h', p', sb', fm⟩ := (qbc (x := mark x q.2.1.name 2) (qec g e hj 2) (qaO c3)).fin
  exact k _ h' sb' p' fm
theorem ok_z2 (T : Txt K mg A) : FnOk P w K mg base CX0 2 A.a_z2 A.d_z2 ["self", "name"] (sp_z8 A 3) := by
 refine T.F_z2.ok sc_z2 ?_ ?_
 ·rintro _ _ _ _ ⟨a, own, n, x, h, rfl, _⟩
  rfl
 ·rintro cdv Ar outer s H _ Q E hr ⟨a, own, n, x, h, rfl, g, hn, sb, hp, k⟩
  have nd := sc_z2.nd
  refine ⟨_, (qab (qax (i := 2) nd rfl (Or.inl rfl) (qak (pv 0) T.cl_Search T.me_z19 (qhK T) hr.md T.b_z19 .nil pass0 (qaa (pv 1) qad)))
   (qac (qau (pv 2) (qai rfl T.c_SILENT) rfl))), ?_⟩
  obtain ⟨fs, e, c0⟩ := qbq (Sl.init sb hp)
  obtain ⟨fl, c1⟩ := qa1 c0
  obtain ⟨da, ha⟩ := c1.ob 0 rfl
  obtain ⟨j, q, hj, rfl, hq⟩ := qgN g e hn
  obtain ⟨dq, hoq⟩ := c1.foundOb 2 rfl q (List.mem_of_getElem? hj)
  refine ⟨_, rfl, a, da, _, rfl, ha, ln0, _, rfl, a, fl, x.target, q.2.1.name, x.value, fs, rfl, ⟨⟨da, ha⟩, c1.get 1 rfl, c1.foundOb 2 rfl⟩, ?_⟩
  rw [hq]
  refine ⟨_, rfl, q.1, A.C_Found, dq, _, rfl, hoq, T.cl_Found, T.na_y15, (by show 3 < 1000; decide), ?_⟩
  have c2 := qdC (k := 3) (c1.pull 2 rfl) hj hoq
  have c3 := (((c2.pull 0 rfl).pull 2 rfl).pull 2 rfl)
  rw [<- qdt hj (q.2.1, 3)] at c3
  obtain ⟨h', p', sb', fm⟩ := (qbc (x := mark x q.2.1.name 3) (qec g e hj 3) (qaO c3)).fin
  exact k _ h' sb' p' fm
def TakeOk (A : Adr) (a : Addr) (x : Rc50.Search) (v : V) (h' : Hp) : Prop := (nextOf x = none /\ v = .non /\ SearR A a x h') \/ ∃ f y, nextOf x = some f /\ v = .ref y /\ SearR A a (mark x f.1.name 1) h' /\ IsOb h' A.C_Found nFound (vFound (f.1, 1)) y
def sp_z1 (A : Adr) : Sp := fun vs H Q _ => ∃ (a : Addr) (own : Nat) (x : Rc50.Search) (h : Hp), vs = [.ref a] /\ GoodS own x /\ Sb h H /\ SearR A a x h /\
 ∀ H' h' v, Sb h' H' -> TakeOk A a x v h' -> Fm H h H' h' -> Q v H'
theorem ok_z1 (T : Txt K mg A) : FnOk P w K mg base CX0 2 A.a_z1 A.d_z1 ["self"] (sp_z1 A) := by
 refine T.F_z1.ok sc_z1 ?_ ?_
 ·rintro _ _ _ _ ⟨a, own, x, h, rfl, _⟩
  rfl
 ·rintro cdv Ar outer s H _ Q E hr ⟨a, own, x, h, rfl, g, sb, hp, k⟩
  have nd := sc_z1.nd
  have k1 : nextOf x = none -> ∀ H' h', Sb h' H' -> SearR A a x h' -> Fm H h H' h' -> Q .non H' := fun en H' h' sb p fm => k H' h' .non sb (.inl ⟨en, rfl, p⟩) fm
  have k2 : ∀ f, nextOf x = some f -> ∀ H' h' y, Sb h' H' -> SearR A a (mark x f.1.name 1) h' -> IsOb h' A.C_Found nFound (vFound (f.1, 1)) y -> Fm H h H' h' -> Q (.ref y) H' := fun f en H' h' y sb p ob fm => k H' h' (.ref y) sb (.inr ⟨f, y, en, rfl, p, ob⟩) fm
  clear k
  refine ⟨_, (qab (qaC (qar qea (qas (pv 0) T.cl_Search T.me_z3 (ok_z3 T) hr.md T.b_z3 .nil pass0) (qai rfl T.c_MOST_ASKED) (nomark _)) (qac (qag qbt)) qao)
   (qab (qbW PassesOwn.never rfl (qaU (qas (pv 0) T.cl_Search T.me_z26 (qjU T) hr.md T.b_z26 .nil pass0)) (qaN (i := 1) nd rfl (Or.inl rfl)) (qac (qaC (qar qbN (qae (pv 1) rfl) (qai rfl T.c_NOT_ASKED) (nomark _)) (qab (qau (pv 1) (qai rfl T.c_ASKED) rfl)
   (qac (qag (pv 1)))) qao)))
   (qac (qag qbt)))), ?_⟩
  obtain ⟨fs, e, c0⟩ := qbq (Sl.init sb hp)
  obtain ⟨fl, c1⟩ := qa1 c0
  obtain ⟨da, ha⟩ := c1.ob 0 rfl
  have hl : fs.length <= 64 := by rw [<- List.length_map (f := Prod.snd), e]; exact g.le
  have en := qix e
  have s0 : SeaIs A H a x.target x.value fl fs := ⟨⟨da, ha⟩, c1.get 1 rfl, c1.foundOb 2 rfl⟩
  refine ⟨_, rfl, a, da, _, rfl, ha, ln0, a, fl, x.target, x.value, fs, rfl, hl, s0, fun H1 s1 => ?_⟩
  have c2 := c1.keep s1
  refine ⟨_, _, rfl, rfl, _, rfl, ?_⟩
  refine ite2 (fun hc => ?_) fun hc => ?_
  ·have h3 : ¬ (fs.filter fun q => q.2.2 == 1).length < 3 := by have := of_decide_eq_true hc; omega
   unfold nextF at en
   rw [if_neg h3] at en
   obtain ⟨h', p', sb', fm⟩ := (qbc e (qaO c2)).fin
   exact k1 en _ h' sb' p' fm
  ·have h3 : (fs.filter fun q => q.2.2 == 1).length < 3 := Nat.lt_of_not_le fun z => hc (decide_eq_true (by omega))
   unfold nextF at en
   rw [if_pos h3] at en
   have s2 := s0.same s1
   obtain ⟨⟨da1, ha1⟩, _⟩ := id s2
   refine ⟨_, rfl, a, da1, _, rfl, ha1, ln0, a, fl, x.target, x.value, fs, rfl, hl, s2, fun H2 p sm np hp2 => ⟨p, rfl, ⟨_, SqL.of hp2⟩, ?_⟩⟩
   have c3 := c2.same sm np hp2
   have ho := c3.foundOb 3 rfl
   refine qaY (K := K) (a := p) (xs := refs ((fs.filter fun q => q.2.2 != 3).take 8)) (fun i σ H' => H' = H2 /\ (∃ v, σ = [some (.ref a), v]) /\ ∀ m, m < i -> ∀ q, ((fs.filter fun q => q.2.2 != 3).take 8)[m]? = some q -> (q.2.2 == 0) = false) ⟨rfl, ⟨none, rfl⟩, fun m hm => absurd hm (Nat.not_lt_zero _)⟩ (fun i σ H' _ h => h.1 ▸ SqL.of hp2) ?_ ?_
   ·rintro i y σ H' hi ⟨rfl, ⟨v, rfl⟩, hno⟩
    obtain ⟨q, hq, rfl⟩ := qa9 hi
    have hm : q ∈ fs := (List.mem_filter.mp (List.mem_of_mem_take (List.mem_of_getElem? hq))).1
    obtain ⟨dq, hoq⟩ := ho q hm
    refine ⟨_, rfl, q.1, A.C_Found, dq, _, _, rfl, hoq, T.cl_Found, T.na_y15, lz 2, rfl, _, rfl, ?_⟩
    rw [show V.int 0 = iV 0 from rfl, qby]
    cases e0 : q.2.2 == 0 with
    | true =>
     refine iteT ?_
     rw [qcI (p := fun q : Addr × Rc50.Found => q.2.2 == 0) hq e0 hno] at en
     obtain ⟨j, hj⟩ := List.getElem?_of_mem hm
     refine ⟨_, rfl, q.1, A.C_Found, dq, _, rfl, hoq, T.cl_Found, T.na_y15, (by show 3 < 1000; decide), ?_⟩
     have c4 := qdC (k := 1) (c3.pull 3 rfl) hj hoq
     have c5 := ((((c4.pull 1 rfl).pull 1 rfl).pull 3 rfl).pull 3 rfl)
     rw [<- qdt hj (q.2.1, 1)] at c5
     obtain ⟨h', p', sb', fm⟩ := (qaO c5).fin
     have hq' : (q.1, (q.2.1, 1)) ∈ fs.set j (q.1, (q.2.1, 1)) := List.mem_of_getElem? (i := j) (by rw [List.getElem?_set_self (qbl hj)])
     obtain ⟨fl', d1⟩ := qa1 (Sl.init (Sb.refl h') p')
     exact ⟨_, rfl, k2 q.2 en _ h' q.1 sb' ⟨_, qec g e hj 1, p'⟩ (d1.foundOb 2 rfl _ hq') fm⟩
    | false =>
     refine iteF ⟨rfl, ⟨_, rfl⟩, fun m hm r hr => ?_⟩
     by_cases z : m = i
     ·subst z; rw [hq] at hr; cases hr; exact e0
     ·exact hno m (by omega) r hr
   ·rintro σ H' ⟨rfl, ⟨v, rfl⟩, hno⟩
    have : (((fs.filter fun q => q.2.2 != 3).take 8).find? fun q => q.2.2 == 0) = none := by
     rw [List.find?_eq_none]
     intro q hq
     obtain ⟨j, hj⟩ := List.getElem?_of_mem hq
     rw [hno j (by rw [qaj]; exact qbl hj) q hj]
     decide
    rw [this] at en
    obtain ⟨h', p', sb', fm⟩ := (qbc e (qaO (((((c3.pull 0 rfl).pull 3 rfl).pull 3 rfl).pull 3 rfl)))).fin
    exact k1 en _ h' sb' p' fm
end
abbrev TbS (A : Adr) : As := TbA A.t_z17 qj5 ((("Search.find_one" : Str) ++ ".<locals>.") ++ "<lambda>")
theorem qgt {fs : List (Addr × Rc50.Found)} {n : Nat} {q : Addr × Rc50.Found} (h : (fs.find? fun q => q.2.1.name == n) = some q) : pickF fs n = .ref q.1 := by unfold pickF; rw [h]
theorem qgn {fs : List (Addr × Rc50.Found)} {n : Nat} (h : (fs.find? fun q => q.2.1.name == n) = none) : pickF fs n = .non := by unfold pickF; rw [h]
theorem qhn {fs : List (Addr × Rc50.Found)} {x : Rc50.Search} (e : fs.map Prod.snd = x.found) (n : Nat) : (x.found.any fun f => f.1.name == n) = (fs.find? fun q => q.2.1.name == n).isSome := by
 rw [<- e, List.any_map, List.isSome_find?]
 rfl
section
variable {P : Program} {w : World} {K : PySem.W.Frag} {mg : Str -> Option Value} {base : Heap} {A : Adr}
def sp_z17 (A : Adr) (K : PySem.W.Frag) : Sp := fun vs H Q _ => ∃ (a y : Addr) (own n ad : Nat) (x : Rc50.Search) (h : Hp), vs = [.ref a, .ref y] /\ GoodS own x /\ n < 2 ^ 160 /\ ad < 2 ^ 48 /\ n ≠ own /\ HasNA K H y n ad /\ h y = none /\ Sb h H /\ stars [SearR A a x, TbS A] h /\
 ∀ H' h', Sb h' H' -> stars [SearR A a (more own x ⟨n, ad, 0⟩), TbS A] h' -> Fm H h H' h' -> Q .non H'
theorem qkv (T : Txt K mg A) (B : Bse K mg base) : FnOk P w K mg base CX0 3 A.a_z17 A.d_z17 ["self", "someone"] (sp_z17 A K) := by
 refine T.F_z17.okC qkd (fun vs H Q E h => ?_) (fun cdv hcd Ar outer s H vs Q E hr h => ?_)
 ·obtain ⟨a, y, own, n, ad, x, h, rfl, _⟩ := h
  rfl
 ·obtain ⟨a, y, own, n, ad, x, h, rfl, g, hn, hd, ho, hy, hyn, sb, hst, k⟩ := h
  have nd := qkd.nd
  refine ⟨_, (qab (qaC (PW.pt (qck (qar qea (qav qah (by rfl) T.n_len PySem.boot_len (qaa (qae (pv 0) rfl) qad)) (qai rfl T.c_MOST_FOUND) (nomark _)) (qbI (qbf (qd0 (qak (pv 0) T.cl_Search T.me_z19 (qhK T) hr.md T.b_z19 .nil pass0 (qaa (qae (pv 1) rfl) qad))))))) (qac qcD) qao)
   (qab (qap (qb4 PySem.F.plainAttrs_list PySem.F.slot_list_append PySem.F.type_list_append qa3 (qae (pv 0) rfl) (qaa (qa8 T.mk_Found (ok_z58 T) hr.md rfl T.mg_Found T.b_z58 .nil pass0 (qaa (qae (pv 1) rfl) (qaa (qae (pv 1) rfl) qad))) qad)))
   (qac (qau (pv 0) (qeT (qae (pv 0) rfl) ⟨hcd.symm.trans T.l_z17, .inl (PySem.W.codeHd_of_K B.kin T.h_z17), B.bm⟩ rfl T.n_sorted rfl rfl (qhR (K := K) (iy := 0) (fld := "name") (fld2 := "name")) (turn2 (x := "other") (y := "self") (fld := "name") (fld2 := "name") (iy := 0) hr rfl (Or.inr (Or.inl rfl)) rfl rfl (fun _ _ _ _ _ _ => rfl) rfl rfl rfl rfl rfl (by decide) (fun _ => rfl) (fun _ => rfl) (by decide) (by decide) (by decide))) rfl)))), ?_⟩
  obtain ⟨fs, e, c0⟩ := qbq ((Sl.init sb hst).open0 (k := [_, _]))
  obtain ⟨fl, c1⟩ := qa1 c0
  obtain ⟨da, ha⟩ := c1.ob 0 rfl
  have hl : fs.length = x.found.length := by rw [<- e, List.length_map]
  have hle := g.le
  have stay : (more own x ⟨n, ad, 0⟩ = x) -> Q .non H := by
   intro em
   refine k H h sb ?_ (Fm.refl _ _)
   rw [em]; exact hst
  refine ⟨_, rfl, a, A.C_Search, da, _, _, rfl, ha, T.cl_Search, T.na_y36, lz 2, fl, _, rfl, .inl (SqL.of (c1.get 1 rfl)), _, _, rfl, rfl, _, rfl, ?_⟩
  refine ite2 (fun hc => iteT ?_) fun hc => ?_
  ·refine stay ?_
   have : 64 <= x.found.length := by
    have := of_decide_eq_true hc
    rw [qaj] at this
    omega
   unfold more
   rw [if_pos (.inr (.inr this))]
  ·have hlt : x.found.length < 64 := Nat.lt_of_not_le fun z => hc (decide_eq_true (by rw [qaj]; omega))
   obtain ⟨Cy, dy, gs, e1, cly, n1, n2, f1, f2⟩ := hy
   have s0 : SeaIs A H a x.target x.value fl fs := ⟨⟨da, ha⟩, c1.get 1 rfl, c1.foundOb 2 rfl⟩
   have ea := qhn e n
   refine ⟨_, rfl, a, da, _, rfl, ha, ln0, _, rfl, y, Cy, dy, gs, _, rfl, e1, cly, n1, f1, a, fl, x.target, n, x.value, fs, rfl, s0, _, rfl, ?_⟩
   rcases hf : fs.find? fun q => q.2.1.name == n with _ | r
   ·rw [qgn hf, decide_eq_true rfl]
    refine iteF ?_
    rw [hf] at ea
    have hno : ¬ (n = own \/ (x.found.any fun f => f.1.name == n) = true \/ 64 <= x.found.length) := by
     rintro (z | z | z)
     ·exact ho z
     ·rw [ea] at z; cases z
     ·omega
    refine ⟨_, rfl, a, A.C_Search, da, _, _, rfl, ha, T.cl_Search, T.na_y36, lz 2, .inl ⟨rfl, _, SqL.of (c1.get 1 rfl)⟩, ?_⟩
    refine ⟨_, rfl, y, Cy, dy, gs, _, rfl, e1, cly, n1, f1, _, rfl, y, Cy, dy, gs, _, rfl, e1, cly, n2, f2, fun z dz nz ndz ne => ⟨z, dz, n, ad, rfl, qaf, fun H1 h1 sb1 p1 fm1 => ⟨rfl, ?_⟩⟩⟩
    have c2 := c1.made nz ndz ne p1 sb1 fm1
    refine ⟨fl, _, _, rfl, rfl, c2.get 2 rfl, by rw [qaj]; exact small1 (by omega), ?_⟩
    have c3 := c2.set (o' := .lst (refs fs ++ [.ref z])) 2 rfl
    have c4 := Sl.back0 (R := FoundR A) (y := (z, ((⟨n, ad, 0⟩ : Contact), 0))) (qs := fs ++ [(z, ((⟨n, ad, 0⟩ : Contact), 0))]) ((((((c3.pull 4 rfl).pull 3 rfl).pull 3 rfl).pull 4 rfl).pull 4 rfl)) (List.perm_append_comm.trans (.refl _))
    have e8 : refs fs ++ [V.ref z] = refs (fs ++ [(z, ((⟨n, ad, 0⟩ : Contact), 0))]) := (qaF fs (z, ((⟨n, ad, 0⟩ : Contact), 0))).symm
    rw [e8] at c4 ⊢
    obtain ⟨da4, ha4⟩ := c4.ob 1 rfl
    have ho4 := c4.foundOb 0 rfl
    refine ⟨_, rfl, a, A.C_Search, da4, _, _, rfl, ha4, T.cl_Search, T.na_y36, lz 2, fl, (fs ++ [(z, ((⟨n, ad, 0⟩ : Contact), 0))]).map (fun (q : Addr × Rc50.Found) => (q.1, Builtin.bitXor (q.2.1.name : Int) (x.target : Int))), rfl, ?_, ?_, ?_, tb_is (c4.pull 3 rfl), fun H2 st l' p hp hw hpn => ?_⟩
    ·rw [List.map_map]
     exact SqL.of (c4.get 2 rfl)
    ·rw [List.length_map, List.length_append, List.length_singleton]
     exact small2 (by omega)
    ·intro q hq
     obtain ⟨r, hr1, rfl⟩ := List.mem_map.mp hq
     obtain ⟨dr, hro⟩ := ho4 r hr1
     exact ⟨_, _, A.C_Found, dr, _, a, A.C_Search, da4, _, rfl, ha4, T.cl_Search, T.na_y37, lz 0, hro, T.cl_Found, T.na_y14, lz 0, rfl⟩
    ·obtain ⟨es', hp', rfl⟩ := qd1 _ hp
     have c5 := qgW (c4.pull 3 rfl) st
     have c6 := c5.new (o := .lst (refs es')) hpn
     rw [List.map_map]
     obtain ⟨da6, ha6⟩ := c6.ob 3 rfl
     refine ⟨_, rfl, a, A.C_Search, da6, _, rfl, ha6, T.cl_Search, T.na_y36, (by show 3 < 1000; decide), ?_⟩
     have c7 := c6.obset (f := "found") (v := .ref p) (j := 2) 3 rfl ha6 (by decide +kernel) (by show 2 < 3; decide)
     have c8 := ((((((c7.pull 4 rfl).pull 2 rfl).pull 2 rfl).pull 4 rfl).pull 4 rfl)).reord0 hp'.symm
     have hs : es'.map Prod.snd = (more own x ⟨n, ad, 0⟩).found := by
      refine qlC g hn hd hno ?_ ?_
      ·have := hp'.map Prod.snd
       rw [List.map_append, e] at this
       exact this
      ·rw [List.pairwise_map] at hw ⊢
       refine hw.imp fun {q r} z => ?_
       rw [qbd, qbd] at z
       omega
     have mt := qds own x ⟨n, ad, 0⟩
     have c9 := qbc (x := more own x ⟨n, ad, 0⟩) hs (by rw [mt.1, mt.2]; exact qaO ((((((c8.pull 4 rfl).pull 4 rfl).pull 2 rfl).pull 4 rfl).pull 4 rfl)))
     obtain ⟨h', p', sb', fm⟩ := (Sl.fold0 (k := [_, _]) c9).fin
     exact k _ h' sb' p' fm
   ·rw [qgt hf, decide_eq_false (by intro z; cases z)]
    refine iteT ?_
    refine stay ?_
    rw [hf] at ea
    unfold more
    rw [if_pos (.inr (.inl ea))]
def sp_z47 (A : Adr) (K : PySem.W.Frag) : Sp := fun vs H Q _ => ∃ (a da nl : Addr) (own t : Nat) (v : Bool) (ps : List (Addr × Contact)) (h : Hp), vs = [.ref a, iV t, .bl v, .ref nl] /\ H a = some (.ins A.C_Search da []) /\ h a = none /\ t < 2 ^ 160 /\ H nl = some (.lst (refs ps)) /\ h nl = none /\ nl ≠ a /\
 (∀ q ∈ ps, q.2.name < 2 ^ 160 /\ q.2.at_ < 2 ^ 48 /\ q.2.name ≠ own /\ HasNA K H q.1 q.2.name q.2.at_ /\ h q.1 = none /\ q.1 ≠ a) /\ Sb h H /\ TbS A h /\
 ∀ H' h', Sb h' H' -> stars [SearR A a ((ps.map Prod.snd).foldl (more own) ⟨t, v, []⟩), TbS A] h' -> Fm H (uni (cel a (.ins A.C_Search da [])) h) H' h' -> Q .non H'
theorem ok_z47 (T : Txt K mg A) (B : Bse K mg base) : FnOk P w K mg base CX0 4 A.a_z47 A.d_z47 ["self", "name", "for_value", "nearest"] (sp_z47 A K) := by
 refine T.F_z47.ok qkh ?_ ?_
 ·rintro _ _ _ _ ⟨a, da, nl, own, t, v, ps, h, rfl, _⟩
  rfl
 ·rintro cdv Ar outer s H _ Q E hr ⟨a, da, nl, own, t, v, ps, h, rfl, ha0, han, ht, hnl, hnn, nla, hps, sb, hst, k⟩
  have nd := qkh.nd
  refine ⟨_, (qab (qau (pv 0) (pv 1) rfl)
   (qab (qau (pv 0) (pv 2) rfl)
   (qab (qau (pv 0) (qaB qad) rfl)
   (qac (qbW PassesOwn.never rfl (qaU (pv 3)) (qaN (i := 4) nd rfl (Or.inl rfl)) (qac (qap (qak (pv 0) T.cl_Search T.me_z17 (qkv T B) hr.md T.b_z17 .nil pass0 (qaa (pv 4) qad))))))))), ?_⟩
  have c0 : Sl H (uni (cel a (.ins A.C_Search da [])) h) H [Pt a (.ins A.C_Search da []), TbS A] := by
   refine ⟨_, ?_, ⟨_, h, ?_, rfl, rfl, qa5.mpr hst⟩, Fm.refl _ _⟩
   ·intro b o eb
    unfold uni cel at eb
    by_cases z : b = a
    ·subst z
     rw [if_pos rfl] at eb
     cases eb
     exact ha0
    ·rw [if_neg z] at eb
     exact sb _ _ eb
   ·intro b
    unfold cel
    by_cases z : b = a
    ·subst z; exact .inr han
    ·rw [if_neg z]; exact .inl rfl
  have out : ∀ {b : Addr}, h b = none -> b ≠ a -> uni (cel a (.ins A.C_Search da [])) h b = none := by
   intro b hb ne
   unfold uni cel
   rw [if_neg ne]
   exact hb
  refine ⟨_, rfl, _, rfl, a, A.C_Search, da, _, rfl, ha0, T.cl_Search, T.na_y37, (by show 0 < 1000; decide), ?_⟩
  have c1 := c0.set (o' := .ins A.C_Search da (putF "name" (iV t) [])) 0 rfl
  refine ⟨_, rfl, _, rfl, a, A.C_Search, da, _, rfl, c1.get 0 rfl, T.cl_Search, T.na_y35, (by show 1 < 1000; decide), ?_⟩
  have c2 := c1.set (o' := .ins A.C_Search da ((["name", "for_value"] : List Str).zip [iV t, .bl v])) 0 rfl
  refine ⟨by decide, fun fl hfl => ?_⟩
  have c3 := c2.new (o := .lst []) hfl
  refine ⟨_, rfl, a, A.C_Search, da, _, rfl, c3.get 1 rfl, T.cl_Search, T.na_y36, (by show 2 < 1000; decide), ?_⟩
  have c4 := c3.set (o' := .ins A.C_Search da (nSearch.zip [iV t, .bl v, .ref fl])) 1 rfl
  have c5 : Sl _ _ _ [Ob A.C_Search nSearch [iV t, .bl v, .ref fl] a, Pt fl (.lst []), Each (FoundR A) [], TbS A] := (((((((c4.pull 1 rfl).imp0 fun h p => ⟨da, p⟩).emp0).pull 3 rfl).pull 1 rfl).pull 3 rfl).pull 3 rfl)
  have c6 := qbc (x := ⟨t, v, []⟩) (fs := []) rfl (qaO (fs := []) c5)
  have gx : GoodS own ⟨t, v, []⟩ := ⟨ht, Nat.zero_le _, .nil, fun f hf => by cases hf⟩
  have hcs : ∀ i, ∀ c ∈ (ps.map Prod.snd).take i, c.name < 2 ^ 160 /\ c.at_ < 2 ^ 48 := by
   intro i c hc
   obtain ⟨q, hq, rfl⟩ := List.mem_map.mp (List.mem_of_mem_take hc)
   exact ⟨(hps q hq).1, (hps q hq).2.1⟩
  refine ⟨_, rfl, nl, rfl, ⟨_, SqL.of (c6.frame hnl (out hnn nla))⟩, ?_⟩
  refine qaY (K := K) (a := nl) (xs := refs ps) (fun i σ H' => (∃ u, σ = [some (.ref a), some (iV t), some (.bl v), some (.ref nl), u]) /\ Sl H (uni (cel a (.ins A.C_Search da [])) h) H' [SearR A a (((ps.map Prod.snd).take i).foldl (more own) ⟨t, v, []⟩), TbS A]) ⟨⟨none, rfl⟩, c6⟩ (fun i σ H' _ hh => SqL.of (hh.2.frame hnl (out hnn nla))) ?_ ?_
  ·rintro i z σ H' hi ⟨⟨u, rfl⟩, c7⟩
   obtain ⟨q, hq, rfl⟩ := qa9 hi
   obtain ⟨q1, q2, q3, q4, q5, q6⟩ := hps q (List.mem_of_getElem? hq)
   have hq7 := q4.frame c7 (out q5 q6)
   have gi := (qbJ ((ps.map Prod.snd).take i) ⟨t, v, []⟩ gx (hcs i)).1
   obtain ⟨fs, e7, c8⟩ := qbq c7
   obtain ⟨fl', c9⟩ := qa1 c8
   obtain ⟨d9, h9⟩ := c9.ob 0 rfl
   obtain ⟨h1, kx⟩ := (Sl.fold0 (k := [_, _]) c7).callX
   have hq8 : h1 q.1 = none := by
    obtain ⟨_, _, _, z, _⟩ := q4
    exact kx.old z (out q5 q6)
   refine ⟨_, rfl, a, d9, _, rfl, h9, ln0, _, rfl, a, q.1, own, q.2.name, q.2.at_, _, h1, rfl, gi, q1, q2, q3, hq7, hq8, kx.sb, kx.p, fun H2 h2 sb2 p2 fm2 => ⟨⟨_, rfl⟩, ?_⟩⟩
   have c10 := (kx.ret p2 sb2 fm2).open0 (k := [_, _])
   rw [qbg (x := q.2) (by rw [List.getElem?_map, hq]; rfl), List.foldl_append]
   exact c10
  ·rintro σ H' ⟨⟨u, rfl⟩, c7⟩
   rw [qaj, <- List.length_map (f := Prod.snd) (as := ps), List.take_length] at c7
   obtain ⟨h', p', sb', fm⟩ := (Sl.fold0 (k := [_, _]) c7).fin
   exact k _ h' sb' p' fm
def sp_z96 : Sp := fun vs H Q _ => ∃ m : Int, vs = [.int m] /\ Q (iV (room_ m)) H
theorem qjd (T : Txt K mg A) : FnOk P w K mg base CX0 1 A.a_z96 A.d_z96 ["most"] sp_z96 := by
 refine T.F_z96.ok qj2 ?_ ?_
 ·rintro _ _ _ _ ⟨m, rfl, _⟩
  rfl
 ·rintro cdv Ar outer s H _ Q E hr ⟨m, rfl, k⟩
  have nd := qj2.nd
  refine ⟨_, (qac (qag (qii (PW.pt (qhs (qar qea (pv 0) qan (nomark _)) (qfA (qar qkx (pv 0) (qai rfl T.c_MOST_ROOM) (nomark _))))) (pv 0) qan))), ?_⟩
  refine ⟨_, rfl, _, _, rfl, rfl, _, rfl, ?_⟩
  refine ite2 (fun hc => ?_) fun hc => ?_
  ·have h1 : 1 <= m := by have := of_decide_eq_true hc; omega
   refine ⟨_, rfl, _, _, rfl, rfl, _, rfl, ?_⟩
   refine ite2 (fun hd => ?_) fun hd => ?_
   ·have h2 : m <= 4096 := by have := of_decide_eq_true hd; omega
    refine ⟨_, rfl, ?_⟩
    have e : V.int m = iV (room_ m) := by
     unfold room_ iV
     rw [if_pos ⟨h1, h2⟩, Int.toNat_of_nonneg (by omega)]
    rw [e]
    exact k
   ·have e : V.int 0 = iV (room_ m) := by
     unfold room_ iV
     rw [if_neg fun z => hd (decide_eq_true (by omega))]
     rfl
    show Q (V.int 0) H
    rw [e]
    exact k
  ·refine iteF ?_
   have e : V.int 0 = iV (room_ m) := by
    unfold room_ iV
    rw [if_neg fun z => hc (decide_eq_true (by omega))]
    rfl
   show Q (V.int 0) H
   rw [e]
   exact k
def sp_z76 : Sp := fun vs H Q _ => ∃ (l : Addr) (xs : List V) (k : Int), vs = [.ref l, .int k] /\ H l = some (.lst xs) /\ Q (.bl (decide (0 <= k /\ k < (xs.length : Int)))) H
theorem qj7 (T : Txt K mg A) : FnOk P w K mg base CX0 1 A.a_z76 A.d_z76 ["people", "k"] sp_z76 := by
 refine T.F_z76.ok qjr ?_ ?_
 ·rintro _ _ _ _ ⟨l, xs, k, rfl, _⟩
  rfl
 ·rintro cdv Ar outer s H _ Q E hr ⟨l, xs, i, rfl, hl, k⟩
  have nd := qjr.nd
  refine ⟨_, (qac (qag (qjZ (qbs qea (pv 1) qan (nomark _)) (qjl (qbs qdP (pv 1) (qav qah (by rfl) T.n_len PySem.boot_len (qaa (pv 0) qad)) (nomark _)))))), ?_⟩
  refine ⟨_, rfl, _, _, rfl, rfl, _, rfl, ?_⟩
  refine ite2 (fun hc => ?_) fun hc => ?_
  ·have h0 : 0 <= i := by have := of_decide_eq_true hc; omega
   refine ⟨_, rfl, _, rfl, l, _, rfl, .inl (SqL.of hl), _, _, rfl, rfl, ?_⟩
   have e : decide (0 <= i /\ i < (xs.length : Int)) = decide (i < (xs.length : Int)) := by
    by_cases z : i < (xs.length : Int)
    ·rw [decide_eq_true z, decide_eq_true ⟨h0, z⟩]
    ·rw [decide_eq_false z, decide_eq_false fun y => z y.2]
   rw [e] at k
   exact k
  ·have h0 : ¬ 0 <= i := fun z => hc (decide_eq_true (by omega))
   rw [decide_eq_false fun y => h0 y.1] at k
   first
    | exact k
    | (rw [Bool.eq_false_iff.mpr hc]; exact k)
def sp_z9 (A : Adr) : Sp := fun vs H Q _ => ∃ (a : Addr) (own st : Nat) (x : Nat × Bytes) (out : List (Nat × Bytes)) (us : List (Addr × AskT)) (h : Hp), vs = [.ref a] /\ Sb h H /\ PostR A a own st (x :: out) us h /\
 ∀ H' h', Sb h' H' -> PostR A a own st out us h' -> Fm H h H' h' -> Q .non H'
theorem ok_z9 (T : Txt K mg A) : FnOk P w K mg base CX0 1 A.a_z9 A.d_z9 ["self"] (sp_z9 A) := by
 refine T.F_z9.ok sc_z9 ?_ ?_
 ·rintro _ _ _ _ ⟨a, own, st, x, out, us, h, rfl, _⟩
  rfl
 ·rintro cdv Ar outer s H _ Q E hr ⟨a, own, st, x, out, us, h, rfl, sb, hp, k⟩
  have nd := sc_z9.nd
  refine ⟨_, (qac (qap (qb4 PySem.F.plainAttrs_list PySem.F.slot_list_pop PySem.F.type_list_pop qfO (qae (pv 0) rfl) (qaa qan qad)))), ?_⟩
  obtain ⟨ch, ol, ul, os, eo, c0⟩ := qaX (Sl.init sb hp)
  obtain ⟨da, ha⟩ := c0.ob 0 rfl
  obtain ⟨o1, os', rfl, e1, e2⟩ : ∃ o1 os', os = o1 :: os' /\ o1.2 = x /\ os'.map Prod.snd = out := by
   cases os with
   | nil => cases eo
   | cons o1 os' =>
    rw [List.map_cons] at eo
    injection eo with z1 z2
    exact ⟨o1, os', rfl, z1, z2⟩
  refine ⟨_, rfl, a, A.C_Post, da, _, _, rfl, ha, T.cl_Post, T.na_y32, lz 2, .inl ⟨rfl, _, SqL.of (c0.get 2 rfl)⟩, ol, _, 0, 0, _, rfl, rfl, c0.get 2 rfl, by decide, by decide, (by unfold seqIndex?; rw [qaj]; simp), rfl, ?_⟩
  have c1 := c0.set (o' := .lst (refs os')) 2 rfl
  have c2 := (c1.pull 4 rfl).dropped0
  obtain ⟨h', p', sb', fm⟩ := (qaS e2 (((((((c2.pull 5 rfl).pull 1 rfl).pull 5 rfl).pull 5 rfl).pull 5 rfl).pull 5 rfl))).fin
  exact k _ h' sb' p' fm
def sp_z0 (A : Adr) : Sp := fun vs H Q _ => ∃ (a : Addr) (own st : Nat) (out : List (Nat × Bytes)) (us : List (Addr × AskT)) (h : Hp), vs = [.ref a] /\ (∀ x ∈ out, x.2.length <= 600) /\ Sb h H /\ PostR A a own st out us h /\
 (out = [] -> Q .non H) /\ ∀ x r, out = x :: r -> NewL H Q (be 6 x.1 ++ x.2)
theorem ok_z0 (T : Txt K mg A) : FnOk P w K mg base CX0 3 A.a_z0 A.d_z0 ["self"] (sp_z0 A) := by
 refine T.F_z0.ok sc_z0 ?_ ?_
 ·rintro _ _ _ _ ⟨a, own, st, out, us, h, rfl, _⟩
  rfl
 ·rintro cdv Ar outer s H _ Q E hr ⟨a, own, st, out, us, h, rfl, hlen, sb, hp, k1, k2⟩
  have nd := sc_z0.nd
  refine ⟨_, (qab (qaC (qar qbN (qav qah (by rfl) T.n_len PySem.boot_len (qaa (qae (pv 0) rfl) qad)) qan (nomark _)) (qac (qag qbt)) qao)
   (qac (qag (qaK qbU (qaw (qjV T) hr.md rfl T.mg_z31 T.F_z31.kp T.b_z31 .nil pass0 (qaa (qcj qfX (qcj qbp (qae (pv 0) rfl) qan (fun _ _ => rfl)) qan (fun _ _ => rfl)) qad)) (qcj qfX (qcj qbp (qae (pv 0) rfl) qan (fun _ _ => rfl)) qan (fun _ _ => rfl)))))), ?_⟩
  obtain ⟨ch, ol, ul, os, eo, c0⟩ := qaX (Sl.init sb hp)
  obtain ⟨da, ha⟩ := c0.ob 0 rfl
  have hol := c0.get 2 rfl
  refine ⟨_, rfl, a, A.C_Post, da, _, _, rfl, ha, T.cl_Post, T.na_y32, lz 2, ol, _, rfl, .inl (SqL.of hol), rfl, _, rfl, ?_⟩
  rw [qaj]
  cases os with
  | nil =>
   refine iteT ?_
   exact k1 eo.symm
  | cons o1 os' =>
   refine iteF ?_
   rw [List.map_cons] at eo
   obtain ⟨b, c1⟩ := ((c0.pull 4 rfl).focus0 (j := 0) (x := o1) rfl).ex0
   have c2 := c1.open0 (k := [_, _])
   have ht := c2.get 0 rfl
   have hb := c2.get 1 rfl
   refine ⟨_, rfl, a, A.C_Post, da, _, _, rfl, ha, T.cl_Post, T.na_y32, lz 2, ol, _, _, _, rfl, rfl, SqL.of hol, qbo (j := 0) rfl, o1.1, _, _, _, rfl, rfl, SqT.of ht, qbo (j := 0) rfl, o1.2.1, rfl, fun H2 p2 s2 m2 l2 => ?_⟩
   refine ⟨_, rfl, a, A.C_Post, da, _, _, rfl, s2 _ _ ha, T.cl_Post, T.na_y32, lz 2, ol, _, _, _, rfl, rfl, SqL.of (s2 _ _ hol), qbo (j := 0) rfl, o1.1, _, _, _, rfl, rfl, SqT.of (s2 _ _ ht), qbo (j := 1) rfl, ?_⟩
   have hle : o1.2.2.length <= 600 := hlen o1.2 (by rw [<- eo]; exact List.mem_cons_self)
   refine ⟨p2, b, _, _, rfl, rfl, l2, s2 _ _ hb, ?_, fun p3 hp3 => ?_⟩
   ·rw [List.length_map, List.length_map, qam]
    exact small2 (by omega)
   ·refine k2 o1.2 _ eo.symm _ p3 (s2.trans (qal hp3)) (s2.free hp3) ?_
    unfold IsL
    rw [qaf, List.map_append]
end
abbrev nOne : List Str := ["own_name", "now", "buckets", "post", "shelf", "quest", "outcome"]
def NoneR (v : V) : As := fun h => v = .non /\ h = emp
def QuestR (A : Adr) (v : V) : Option Rc50.Search -> As
 | none => NoneR v
 | some x => fun h => ∃ a : Addr, v = .ref a /\ SearR A a x h
def ContR (v : V) : Option Bytes -> As
 | none => NoneR v
 | some b => fun h => ∃ cl : Addr, v = .ref cl /\ Pt cl (.lst (b.map iV)) h
def OutcR (A : Adr) (v : V) : Option (Option Bytes × List Contact) -> As
 | none => NoneR v
 | some r => fun h => ∃ (y pl : Addr) (cv : V) (fs : List (Addr × Rc50.Found)), (v = .ref y /\ fs.map (fun q => q.2.1) = r.2) /\ stars [Ob A.C_Outcome nOutcome [.ref pl, cv] y, Pt pl (.lst (refs fs)), Each (FoundR A) fs, ContR cv r.1] h
def vOne (own now : Nat) (b p sh : Addr) (qv ov : V) : List V := [iV own, iV now, .ref b, .ref p, .ref sh, qv, ov]
def OneR (A : Adr) (o : Addr) (s : Abs) (us : List (Addr × AskT)) (l : List Rc50.Kept) : As := fun h => ∃ (b p sh : Addr) (qv ov : V),
 stars [Ob A.C_One nOne (vOne s.own s.now b p sh qv ov) o, BucksR A b s.own s.buckets, PostR A p s.own s.chance s.out us, ShelfR A sh l, QuestR A qv s.search, OutcR A ov s.result] h
structure Rel (s : Abs) (us : List (Addr × AskT)) (l : List Rc50.Kept) : Prop where
 op : us.map (fun q => q.2.o) = s.opens
 ok : ∀ q ∈ us, AskOk q.2
 kp : l.Perm s.kept
structure Sta (A : Adr) (o : Addr) (H h : Hp) (s : Abs) (us : List (Addr × AskT)) (l : List Rc50.Kept) : Prop where
 good : ∃ lid, lid <= 90000 /\ Good lid s
 rel : Rel s us l
 sb : Sb h H
 r : OneR A o s us l h
def OneTo (A : Adr) (o : Addr) (H h : Hp) (Q : VK) (s' : Abs) (v : V) : Prop := ∀ H' h' us' l', Sb h' H' -> OneR A o s' us' l' h' -> Rel s' us' l' -> Fm H h H' h' -> Q v H'
section
variable {H0 h0 H h : Hp} {l : List As} {A : Adr} {o : Addr} {s : Abs} {us : List (Addr × AskT)} {ks : List Rc50.Kept} {v : V} {P : As}
theorem Sl.emp1 (c : Sl H0 h0 H l) (p : P emp) : Sl H0 h0 H (P :: l) := by
 obtain ⟨h, sb, q, f⟩ := c
 refine ⟨h, sb, ⟨emp, h, fun b => .inl rfl, ?_, p, q⟩, f⟩
 funext b
 rfl
theorem Sl.noneR (c : Sl H0 h0 H l) : Sl H0 h0 H (NoneR .non :: l) := c.emp1 ⟨rfl, rfl⟩
theorem qaz (c : Sl H0 h0 H (OneR A o s us ks :: l)) : ∃ (b p sh : Addr) (qv ov : V),
  Sl H0 h0 H (Ob A.C_One nOne (vOne s.own s.now b p sh qv ov) o :: BucksR A b s.own s.buckets :: PostR A p s.own s.chance s.out us :: ShelfR A sh ks :: QuestR A qv s.search :: OutcR A ov s.result :: l) := by
 obtain ⟨b, c1⟩ := c.ex0
 obtain ⟨p, c2⟩ := c1.ex0
 obtain ⟨sh, c3⟩ := c2.ex0
 obtain ⟨qv, c4⟩ := c3.ex0
 obtain ⟨ov, c5⟩ := c4.ex0
 exact ⟨b, p, sh, qv, ov, c5.open0 (k := [_, _, _, _, _, _])⟩
theorem qaA {b p sh : Addr} {qv ov : V} (c : Sl H0 h0 H (Ob A.C_One nOne (vOne s.own s.now b p sh qv ov) o :: BucksR A b s.own s.buckets :: PostR A p s.own s.chance s.out us :: ShelfR A sh ks :: QuestR A qv s.search :: OutcR A ov s.result :: l)) :
  Sl H0 h0 H (OneR A o s us ks :: l) := (Sl.fold0 (k := [_, _, _, _, _, _]) c).imp0 fun h q => ⟨b, p, sh, qv, ov, q⟩
theorem qgs (c : Sl H0 h0 H (QuestR A v none :: l)) : v = .non /\ Sl H0 h0 H l := by
 obtain ⟨e, c1⟩ := (c.imp0 (P' := fun h => v = .non /\ h = emp) fun h p => p).prop0
 exact ⟨e, c1.drop0⟩
theorem qdH {x : Rc50.Search} (c : Sl H0 h0 H (QuestR A v (some x) :: l)) : ∃ a, v = .ref a /\ Sl H0 h0 H (SearR A a x :: l) := by
 obtain ⟨a, c1⟩ := (c.imp0 (P' := fun h => ∃ a : Addr, v = .ref a /\ SearR A a x h) fun h p => p).ex0
 exact ⟨a, c1.prop0⟩
theorem qfa {a : Addr} {x : Rc50.Search} (c : Sl H0 h0 H (SearR A a x :: l)) : Sl H0 h0 H (QuestR A (.ref a) (some x) :: l) := c.imp0 fun h p => ⟨a, rfl, p⟩
theorem qeq (c : Sl H0 h0 H (OutcR A v none :: l)) : v = .non /\ Sl H0 h0 H l := by
 obtain ⟨e, c1⟩ := (c.imp0 (P' := fun h => v = .non /\ h = emp) fun h p => p).prop0
 exact ⟨e, c1.drop0⟩
theorem qel {r : Option Bytes × List Contact} (c : Sl H0 h0 H (OutcR A v (some r) :: l)) : ∃ (y pl : Addr) (cv : V) (fs : List (Addr × Rc50.Found)), (v = .ref y /\ fs.map (fun q => q.2.1) = r.2) /\
  Sl H0 h0 H (Ob A.C_Outcome nOutcome [.ref pl, cv] y :: Pt pl (.lst (refs fs)) :: Each (FoundR A) fs :: ContR cv r.1 :: l) := by
 obtain ⟨y, c1⟩ := (c.imp0 (P' := fun h => ∃ (y pl : Addr) (cv : V) (fs : List (Addr × Rc50.Found)), (v = .ref y /\ fs.map (fun q => q.2.1) = r.2) /\ stars [Ob A.C_Outcome nOutcome [.ref pl, cv] y, Pt pl (.lst (refs fs)), Each (FoundR A) fs, ContR cv r.1] h) fun h p => p).ex0
 obtain ⟨pl, c2⟩ := c1.ex0
 obtain ⟨cv, c3⟩ := c2.ex0
 obtain ⟨fs, c4⟩ := c3.ex0
 obtain ⟨e, c5⟩ := c4.prop0
 exact ⟨y, pl, cv, fs, e, c5.open0 (k := [_, _, _, _])⟩
theorem qdE {r : Option Bytes × List Contact} {y pl : Addr} {cv : V} {fs : List (Addr × Rc50.Found)} (e : fs.map (fun q => q.2.1) = r.2) (c : Sl H0 h0 H (Ob A.C_Outcome nOutcome [.ref pl, cv] y :: Pt pl (.lst (refs fs)) :: Each (FoundR A) fs :: ContR cv r.1 :: l)) :
  Sl H0 h0 H (OutcR A (.ref y) (some r) :: l) := (Sl.fold0 (k := [_, _, _, _]) c).imp0 fun h p => ⟨y, pl, cv, fs, ⟨rfl, e⟩, p⟩
theorem Rel.len (r : Rel s us ks) : us.length = s.opens.length := by rw [<- r.op, List.length_map]
theorem Sta.len (t : Sta A o H h s us ks) : us.length <= 100000 := by
 obtain ⟨lid, h1, g⟩ := t.good
 have := g.ms.len
 rw [t.rel.len]
 omega
theorem Sta.marks (t : Sta A o H h s us ks) : (s.opens.map (·.mark)).Nodup := by
 obtain ⟨lid, h1, g⟩ := t.good
 exact g.ms.nodup (by omega)
theorem Sta.kl (t : Sta A o H h s us ks) : (ks.map (·.key)).Nodup /\ ks.length <= 128 := by
 obtain ⟨lid, h1, g⟩ := t.good
 exact ⟨((t.rel.kp.map _).nodup_iff).mpr g.kp.nd, by rw [t.rel.kp.length_eq]; exact g.kp.le⟩
theorem Sta.ou (t : Sta A o H h s us ks) : GoodU s.out := by
 obtain ⟨lid, h1, g⟩ := t.good
 exact g.ou
theorem Sta.bs (t : Sta A o H h s us ks) : GoodBs s.own s.buckets := by
 obtain ⟨lid, h1, g⟩ := t.good
 exact g.bucks
theorem Sta.se (t : Sta A o H h s us ks) {x : Rc50.Search} (e : s.search = some x) : GoodS s.own x := by
 obtain ⟨lid, h1, g⟩ := t.good
 exact g.se x e
theorem Sta.stay (t : Sta A o H h s us ks) {Q : VK} (k : OneTo A o H h Q s v) : Q v H := k H h us ks t.sb t.r t.rel (Fm.refl _ _)
theorem Sl.ends {s' : Abs} {us' : List (Addr × AskT)} {ks' : List Rc50.Kept} {H' : Hp} {Q : VK} (c : Sl H h H' (OneR A o s' us' ks' :: l)) (r : Rel s' us' ks') (k : OneTo A o H h Q s' v) : Q v H' := by
 obtain ⟨h', p', sb', fm⟩ := c.fin
 exact k _ h' us' ks' sb' p' r fm
theorem initO {x C dx : Addr} {fs : List (Str × V)} (hx : H x = some (.ins C dx fs)) : Sl H (cel x (.ins C dx fs)) H [Pt x (.ins C dx fs)] := Sl.init (fun b o e => by
 unfold cel at e
 split at e
 ·rename_i z
  cases e
  rw [z]; exact hx
 ·cases e) rfl
theorem qbR (n : Str) (v : V) : ∀ fs : List (Str × V), (putF n v fs).length <= fs.length + 1
 | [] => Nat.le_refl _
 | (g, x) :: r => by
  unfold putF
  split
  ·rw [List.length_cons, List.length_cons]; omega
  ·rw [List.length_cons, List.length_cons]
   have := qbR n v r
   omega
end
theorem qgf {fs : List (Str × V)} (h : fs = [] \/ ∃ vs : List V, vs.length = 7 /\ fs = nOne.zip vs) (v0 v1 v2 v3 v4 v5 v6 : V) :
  putF "outcome" v6 (putF "quest" v5 (putF "shelf" v4 (putF "post" v3 (putF "buckets" v2 (putF "now" v1 (putF "own_name" v0 fs)))))) = nOne.zip [v0, v1, v2, v3, v4, v5, v6] := by
 rcases h with rfl | ⟨vs, hl, rfl⟩
 ·rfl
 ·match vs, hl with
  | [a, b, c, d, e, f, g], _ => rfl
theorem qlN {fs : List (Str × V)} (h : fs = [] \/ ∃ vs : List V, vs.length = 7 /\ fs = nOne.zip vs) : fs.length <= 7 := by
 rcases h with rfl | ⟨vs, hl, rfl⟩
 ·exact Nat.zero_le _
 ·rw [List.length_zip, hl]; decide
section
variable {H0 h0 H h : Hp} {l : List As} {A : Adr} {K : PySem.W.Frag} {mg : Str -> Option Value}
theorem qbk {b : Addr} {own : Nat} {bs : List Bucket} (p : BucksR A b own bs h) : ∃ rl, IsOb h A.C_Buckets nBuckets [iV own, .ref rl] b := by
 obtain ⟨rl, rs, ers, c0⟩ := qbL (Sl.init (Sb.refl h) p)
 exact ⟨rl, c0.ob 0 rfl⟩
theorem qbm {a : Addr} {own st : Nat} {out : List (Nat × Bytes)} {us : List (Addr × AskT)} (p : PostR A a own st out us h) : ∃ ch ol ul, IsOb h A.C_Post nPost [iV own, .ref ch, .ref ol, .ref ul] a /\ h ul = some (.lst (refs us)) := by
 obtain ⟨ch, ol, ul, os, eo, c0⟩ := qaX (Sl.init (Sb.refl h) p)
 exact ⟨ch, ol, ul, c0.ob 0 rfl, c0.get 3 rfl⟩
theorem qdO {a : Addr} {ks : List Rc50.Kept} (p : ShelfR A a ks h) : ∃ d, IsOb h A.C_Shelf nShelf [.ref d] a := by
 obtain ⟨d, ts, et, c0⟩ := qca (Sl.init (Sb.refl h) p)
 exact ⟨d, c0.ob 0 rfl⟩
theorem qcN {a : Addr} {x : Rc50.Search} (p : SearR A a x h) : ∃ fl, IsOb h A.C_Search nSearch [iV x.target, .bl x.value, .ref fl] a := by
 obtain ⟨fs, e, c0⟩ := qbq (Sl.init (Sb.refl h) p)
 obtain ⟨fl, c1⟩ := qa1 c0
 exact ⟨fl, c1.ob 0 rfl⟩
theorem qkp {x : Addr} {k m s n : Nat} {cs : List Contact} {bs : List Nat} (p : LetR A x k m s n cs bs h) : ∃ pl cl, IsOb h A.C_Letter nLetter [iV k, iV m, iV s, iV n, .ref pl, .ref cl] x := by
 obtain ⟨pl, cl, ps, e, c0⟩ := qbx (Sl.init (Sb.refl h) p)
 exact ⟨pl, cl, c0.ob 0 rfl⟩
theorem someNA (T : Txt K mg A) {x : Addr} {c : Contact} (e : IsOb H A.C_Someone nSomeone (vSomeone c) x) : HasNA K H x c.name c.at_ := by
 obtain ⟨d, e⟩ := e
 exact ⟨A.C_Someone, d, _, e, T.cl_Someone, T.na_y40, T.na_y39, lz 0, lz 1⟩
theorem foundNA (T : Txt K mg A) {x : Addr} {f : Rc50.Found} (e : IsOb H A.C_Found nFound (vFound f) x) : HasNA K H x f.1.name f.1.at_ := by
 obtain ⟨d, e⟩ := e
 exact ⟨A.C_Found, d, _, e, T.cl_Found, T.na_y14, T.na_y13, lz 0, lz 1⟩
end
theorem qde (s : Abs) (c : Contact) (what : Nat) (b : Body) : ask s c what b = { s with chance := goOn s.chance, opens := s.opens ++ [⟨mixed (goOn s.chance), ⟨c.name, c.at_, 0⟩, s.now, what⟩], out := putO s.out c.at_ (written ⟨mixed (goOn s.chance), s.own, b⟩) } := by
 rw [qjK]
 unfold put putO
 dsimp only
 rw [show CALM = 256 from rfl]
 split <;> rfl
theorem qiy {out : List (Nat × Bytes)} {ad : Nat} {bs : Bytes} (h : out.length <= 256) : (putO out ad bs).length <= 256 := by
 unfold putO
 split
 ·exact h
 ·rw [List.length_append, List.length_singleton]; omega
theorem Rel.ask {s : Abs} {us : List (Addr × AskT)} {l : List Rc50.Kept} (r : Rel s us l) {c : Contact} {what kd : Nat} {b : Body} {x : Addr} (h : AskOk (askT s.chance c.name c.at_ s.now kd what)) : Rel (Rc50.ask s c what b) (us ++ [(x, askT s.chance c.name c.at_ s.now kd what)]) l := by
 rw [qde]
 refine ⟨?_, fun q hq => ?_, r.kp⟩
 ·dsimp only
  rw [List.map_append, r.op]
  rfl
 ·rcases List.mem_append.mp hq with z | z
  ·exact r.ok q z
  ·rw [List.mem_singleton.mp z]; exact h
section
variable {P : Program} {w : World} {K : PySem.W.Frag} {mg : Str -> Option Value} {base : Heap} {A : Adr}
def fresh0 (n seed : Nat) : Abs := { own := n, chance := seed }
def sp_z65 (A : Adr) : Sp := fun vs H Q _ => ∃ (o dx : Addr) (fs : List (Str × V)) (n seed : Nat), vs = [.ref o, iV n, iV seed] /\ (fs = [] \/ ∃ vs : List V, vs.length = 7 /\ fs = nOne.zip vs) /\ H o = some (.ins A.C_One dx fs) /\
 ∀ H' h', Sb h' H' -> OneR A o (fresh0 n seed) [] [] h' -> Fm H (cel o (.ins A.C_One dx fs)) H' h' -> Q .non H'
theorem qhx (T : Txt K mg A) : FnOk P w K mg base CX0 5 A.a_z65 A.d_z65 ["self", "name", "seed"] (sp_z65 A) := by
 refine T.F_z65.ok qjt ?_ ?_
 ·rintro _ _ _ _ ⟨o, dx, fs, n, seed, rfl, _⟩
  rfl
 ·rintro cdv Ar outer s H _ Q E hr ⟨o, dx, fs, n, seed, rfl, hfs, hx, k⟩
  have nd := qjt.nd
  refine ⟨_, (qab (qau (pv 0) (pv 1) rfl)
   (qab (qau (pv 0) qan rfl)
   (qab (qau (pv 0) (qa8 T.mk_Buckets (ok_z40 T) hr.md rfl T.mg_Buckets T.b_z40 .nil pass0 (qaa (pv 1) qad)) rfl)
   (qab (qau (pv 0) (qa8 T.mk_Post (ok_z81 T) hr.md rfl T.mg_Post T.b_z81 .nil pass0 (qaa (pv 1) (qaa (pv 2) qad))) rfl)
   (qab (qau (pv 0) (qeg T.mk_Shelf (ok_z64 T) hr.md rfl T.mg_Shelf T.b_z64 .nil pass0) rfl)
   (qab (qau (pv 0) qbt rfl)
   (qac (qau (pv 0) qbt rfl)))))))), ?_⟩
  have l0 := qlN hfs
  have l1 := qbR "own_name" (iV n) fs
  have l2 := qbR "now" (iV 0) (putF "own_name" (iV n) fs)
  refine ⟨_, rfl, _, rfl, o, A.C_One, dx, _, rfl, hx, T.cl_One, T.na_y25, Nat.lt_of_le_of_lt l0 (by decide), ?_⟩
  have c0 := (initO hx).set (o' := .ins A.C_One dx (putF "own_name" (iV n) fs)) 0 rfl
  refine ⟨_, rfl, o, A.C_One, dx, _, rfl, c0.get 0 rfl, T.cl_One, T.na_y23, (by show _ < 1000; omega), ?_⟩
  have c1 := c0.set (o' := .ins A.C_One dx (putF "now" (iV 0) (putF "own_name" (iV n) fs))) 0 rfl
  refine ⟨_, rfl, fun b db nb ndb ne => ⟨b, db, n, rfl, qaf, fun H2 h2 sb2 p2 fm2 => ⟨rfl, ?_⟩⟩⟩
  have c2 := c1.made nb ndb ne p2 sb2 fm2
  refine ⟨_, rfl, o, A.C_One, dx, _, rfl, c2.get 1 rfl, T.cl_One, T.na_y22, (by show List.length _ < 1000; omega), ?_⟩
  have c3 := c2.set (o' := .ins A.C_One dx (putF "buckets" (.ref b) (putF "now" (iV 0) (putF "own_name" (iV n) fs)))) 1 rfl
  have l3 := qbR "buckets" (.ref b) (putF "now" (iV 0) (putF "own_name" (iV n) fs))
  refine ⟨_, rfl, _, rfl, fun p dp np ndp ne => ⟨p, dp, n, seed, rfl, qaf, fun H4 h4 sb4 p4 fm4 => ⟨rfl, ?_⟩⟩⟩
  have c4 := c3.made np ndp ne p4 sb4 fm4
  refine ⟨_, rfl, o, A.C_One, dx, _, rfl, c4.get 2 rfl, T.cl_One, T.na_y26, (by show List.length _ < 1000; omega), ?_⟩
  have c5 := c4.set (o' := .ins A.C_One dx (putF "post" (.ref p) (putF "buckets" (.ref b) (putF "now" (iV 0) (putF "own_name" (iV n) fs))))) 2 rfl
  have l4 := qbR "post" (.ref p) (putF "buckets" (.ref b) (putF "now" (iV 0) (putF "own_name" (iV n) fs)))
  refine fun sh dsh nsh ndsh ne => ⟨sh, dsh, rfl, qaf, fun H6 h6 sb6 p6 fm6 => ⟨rfl, ?_⟩⟩
  have c6 := c5.made nsh ndsh ne p6 sb6 fm6
  refine ⟨_, rfl, o, A.C_One, dx, _, rfl, c6.get 3 rfl, T.cl_One, T.na_y28, (by show List.length _ < 1000; omega), ?_⟩
  have c7 := c6.set (o' := .ins A.C_One dx (putF "shelf" (.ref sh) (putF "post" (.ref p) (putF "buckets" (.ref b) (putF "now" (iV 0) (putF "own_name" (iV n) fs)))))) 3 rfl
  have l5 := qbR "shelf" (.ref sh) (putF "post" (.ref p) (putF "buckets" (.ref b) (putF "now" (iV 0) (putF "own_name" (iV n) fs))))
  refine ⟨_, rfl, o, A.C_One, dx, _, rfl, c7.get 3 rfl, T.cl_One, T.na_y27, (by show List.length _ < 1000; omega), ?_⟩
  have c8 := c7.set (o' := .ins A.C_One dx (putF "quest" .non (putF "shelf" (.ref sh) (putF "post" (.ref p) (putF "buckets" (.ref b) (putF "now" (iV 0) (putF "own_name" (iV n) fs))))))) 3 rfl
  have l6 := qbR "quest" .non (putF "shelf" (.ref sh) (putF "post" (.ref p) (putF "buckets" (.ref b) (putF "now" (iV 0) (putF "own_name" (iV n) fs)))))
  refine ⟨_, rfl, o, A.C_One, dx, _, rfl, c8.get 3 rfl, T.cl_One, T.na_y24, (by show List.length _ < 1000; omega), ?_⟩
  have c9 := c8.set (o' := .ins A.C_One dx (putF "outcome" .non (putF "quest" .non (putF "shelf" (.ref sh) (putF "post" (.ref p) (putF "buckets" (.ref b) (putF "now" (iV 0) (putF "own_name" (iV n) fs)))))))) 3 rfl
  rw [qgf hfs] at c9 ⊢
  have c10 := ((((((c9.pull 0 rfl).pull 1 rfl).pull 2 rfl).pull 3 rfl)).imp0 (P' := Ob A.C_One nOne (vOne (fresh0 n seed).own (fresh0 n seed).now b p sh .non .non) o) fun h q => ⟨dx, q⟩).noneR.noneR
  obtain ⟨h', p', sb', fm⟩ := (qaA (s := fresh0 n seed) (A := A) (o := o) (us := []) (ks := []) (b := b) (p := p) (sh := sh) (qv := .non) (ov := .non) (((((((c10.pull 1 rfl).pull 1 rfl).pull 5 rfl).pull 5 rfl).pull 5 rfl).pull 5 rfl))).fin
  exact k _ h' sb' p' fm
def sp_z87 (A : Adr) : Sp := fun vs H Q _ => ∃ (o dx : Addr), vs = [.ref o] /\ H o = some (.ins A.C_One dx []) /\ ∀ H' h', Sb h' H' -> OneR A o (fresh0 0 0) [] [] h' -> Fm H (cel o (.ins A.C_One dx [])) H' h' -> Q .non H'
theorem ok_z87 (T : Txt K mg A) : FnOk P w K mg base CX0 6 A.a_z87 A.d_z87 ["self"] (sp_z87 A) := by
 refine T.F_z87.ok qjY ?_ ?_
 ·rintro _ _ _ _ ⟨o, dx, rfl, _⟩
  rfl
 ·rintro cdv Ar outer s H _ Q E hr ⟨o, dx, rfl, hx, k⟩
  have nd := qjY.nd
  refine ⟨_, (qac (qap (qak (pv 0) T.cl_One T.me_z65 (qhx T) hr.md T.b_z65 .nil pass0 (qaa qan (qaa qan qad))))), ?_⟩
  exact ⟨_, rfl, o, dx, _, rfl, hx, rfl, o, dx, [], 0, 0, rfl, .inl rfl, hx, k⟩
theorem rel0 (n seed : Nat) : Rel (fresh0 n seed) [] [] := ⟨rfl, (fun q hq => by cases hq), List.Perm.refl _⟩
def sp_z97 (A : Adr) : Sp := fun vs H Q _ => ∃ (o : Addr) (n seed : Nat) (s : Abs) (us : List (Addr × AskT)) (l : List Rc50.Kept) (h : Hp), vs = [.ref o, iV n, iV seed] /\ Sb h H /\ OneR A o s us l h /\ OneTo A o H h Q (fresh0 n seed) (iV 0)
theorem ok_z97 (T : Txt K mg A) : FnOk P w K mg base CX0 6 A.a_z97 A.d_z97 ["self", "name", "seed"] (sp_z97 A) := by
 refine T.F_z97.ok qiS ?_ ?_
 ·rintro _ _ _ _ ⟨o, n, seed, s, us, l, h, rfl, _⟩
  rfl
 ·rintro cdv Ar outer s H _ Q E hr ⟨o, n, seed, s0, us, l, h, rfl, sb, hp, k⟩
  have nd := qiS.nd
  refine ⟨_, (qab (qap (qak (pv 0) T.cl_One T.me_z65 (qhx T) hr.md T.b_z65 .nil pass0 (qaa (pv 1) (qaa (pv 2) qad))))
   (qac (qag qan))), ?_⟩
  obtain ⟨b, p, sh, qv, ov, c0⟩ := qaz (Sl.init sb hp)
  obtain ⟨dx, c1⟩ := c0.ex0
  have hx := c1.get 0 rfl
  obtain ⟨h1, p1, sb1, kc⟩ := c1.call0
  cases (show h1 = _ from p1)
  refine ⟨_, rfl, o, dx, _, rfl, hx, ln0, _, rfl, _, rfl, o, dx, _, n, seed, rfl, .inr ⟨_, rfl, rfl⟩, hx, fun H' h' sb' p' fm' => ?_⟩
  exact (kc p' sb' fm').ends (rel0 n seed) k
def sp_z79 (A : Adr) : Sp := fun vs H Q _ => ∃ (o : Addr) (s : Abs) (us : List (Addr × AskT)) (l : List Rc50.Kept) (h : Hp), vs = [.ref o] /\ Sb h H /\ OneR A o s us l h /\ OneTo A o H h Q (fresh0 0 0) (iV 0)
theorem ok_z79 (T : Txt K mg A) : FnOk P w K mg base CX0 6 A.a_z79 A.d_z79 ["self"] (sp_z79 A) := by
 refine T.F_z79.ok qjm ?_ ?_
 ·rintro _ _ _ _ ⟨o, s, us, l, h, rfl, _⟩
  rfl
 ·rintro cdv Ar outer s H _ Q E hr ⟨o, s0, us, l, h, rfl, sb, hp, k⟩
  have nd := qjm.nd
  refine ⟨_, (qab (qap (qak (pv 0) T.cl_One T.me_z65 (qhx T) hr.md T.b_z65 .nil pass0 (qaa qan (qaa qan qad))))
   (qac (qag qan))), ?_⟩
  obtain ⟨b, p, sh, qv, ov, c0⟩ := qaz (Sl.init sb hp)
  obtain ⟨dx, c1⟩ := c0.ex0
  have hx := c1.get 0 rfl
  obtain ⟨h1, p1, sb1, kc⟩ := c1.call0
  cases (show h1 = _ from p1)
  refine ⟨_, rfl, o, dx, _, rfl, hx, ln0, o, dx, _, 0, 0, rfl, .inr ⟨_, rfl, rfl⟩, hx, fun H' h' sb' p' fm' => ?_⟩
  exact (kc p' sb' fm').ends (rel0 0 0) k
def sp_z14 (A : Adr) : Sp := fun vs H Q _ => ∃ (o : Addr) (s : Abs) (us : List (Addr × AskT)) (l : List Rc50.Kept) (h : Hp), vs = [.ref o] /\ Sb h H /\ OneR A o s us l h /\ Q (.bl (decide (64 <= us.length))) H
theorem qhu (T : Txt K mg A) : FnOk P w K mg base CX0 1 A.a_z14 A.d_z14 ["self"] (sp_z14 A) := by
 refine T.F_z14.ok qiU ?_ ?_
 ·rintro _ _ _ _ ⟨o, s, us, l, h, rfl, _⟩
  rfl
 ·rintro cdv Ar outer s H _ Q E hr ⟨o, s0, us, l, h, rfl, sb, hp, k⟩
  have nd := qiU.nd
  refine ⟨_, (qac (qag (qbs qea (qav qah (by rfl) T.n_len PySem.boot_len (qaa (qae (qae (pv 0) rfl) rfl) qad)) (qai rfl T.c_MOST_OPEN) (nomark _)))), ?_⟩
  obtain ⟨b, p, sh, qv, ov, c0⟩ := qaz (Sl.init sb hp)
  obtain ⟨dx, hx⟩ := c0.ob 0 rfl
  obtain ⟨hP, pP, sbP, _⟩ := (c0.pull 2 rfl).name0
  obtain ⟨ch, ol, ul, hpo, hul⟩ := qbm pP
  obtain ⟨dp, hp1⟩ := hpo.up sbP
  refine ⟨_, rfl, o, A.C_One, dx, _, _, rfl, hx, T.cl_One, T.na_y26, lz 3, p, A.C_Post, dp, _, _, rfl, hp1, T.cl_Post, T.na_y34, lz 3, ul, _, rfl, .inl (SqL.of (sbP _ _ hul)), _, _, rfl, rfl, ?_⟩
  have e : decide (64 <= us.length) = decide (((refs us).length : Int) ≥ 64) := by
   rw [qaj]
   by_cases z : 64 <= us.length
   ·rw [decide_eq_true z, decide_eq_true (by omega)]
   ·rw [decide_eq_false z, decide_eq_false (by omega)]
  rw [e] at k
  exact k
def sp_z95 (A : Adr) : Sp := fun vs H Q _ => ∃ (o : Addr) (nm : Bytes) (ad : Nat) (s : Abs) (us : List (Addr × AskT)) (l : List Rc50.Kept) (h : Hp), vs = [.ref o, iV (num nm), iV ad] /\ num nm < 2 ^ 160 /\ Sta A o H h s us l /\
 OneTo A o H h Q (does s (.know nm ad)).1 (.int (does s (.know nm ad)).2.value)
theorem ok_z95 (T : Txt K mg A) : FnOk P w K mg base CX0 6 A.a_z95 A.d_z95 ["self", "name", "address"] (sp_z95 A) := by
 refine T.F_z95.ok qke ?_ ?_
 ·rintro _ _ _ _ ⟨o, nm, ad, s, us, l, h, rfl, _⟩
  rfl
 ·rintro cdv Ar outer s H _ Q E hr ⟨o, nm, ad, s0, us, l, h, rfl, hn, t, k⟩
  have nd := qke.nd
  refine ⟨_, (qab (qaC (PW.pt (qck (qar qea (pv 2) (qai rfl T.c_ADDRESSES) (nomark _)) (qbI (qar qbN (pv 1) (qae (pv 0) rfl) (nomark _))))) (qac (qag (qbX qbi qan))) qao)
   (qab (qap (qak (qae (pv 0) rfl) T.cl_Buckets T.me_z38 (qhC T) hr.md T.b_z38 .nil pass0 (qaa (pv 1) (qaa (pv 2) qad))))
   (qac (qag qan)))), ?_⟩
  obtain ⟨b, p, sh, qv, ov, c0⟩ := qaz (Sl.init t.sb t.r)
  obtain ⟨dx, hx⟩ := c0.ob 0 rfl
  have no : (2 ^ 48 <= ad \/ num nm = s0.own) -> Q (.int (-1)) H := by
   intro z
   have e : does s0 (.know nm ad) = (s0, refused) := if_pos z
   rw [e] at k
   exact t.stay k
  refine ⟨_, rfl, _, _, rfl, rfl, _, rfl, ?_⟩
  refine ite2 (fun hc => iteT ?_) fun hc => ?_
  ·refine ⟨_, rfl, no (.inl ?_)⟩
   have := of_decide_eq_true hc
   omega
  ·have h48 : ¬ 2 ^ 48 <= ad := fun z => hc (decide_eq_true (by omega))
   refine ⟨_, rfl, _, rfl, o, A.C_One, dx, _, _, rfl, hx, T.cl_One, T.na_y25, lz 0, rfl, _, rfl, ?_⟩
   rw [qby]
   cases e0 : num nm == s0.own with
   | true => exact iteT ⟨_, rfl, no (.inr (by simpa using e0))⟩
   | false =>
    refine iteF ?_
    have hno : num nm ≠ s0.own := by simpa using e0
    have e : does s0 (.know nm ad) = ({ s0 with buckets := heard s0.own s0.buckets ⟨num nm, ad, 0⟩ }, { value := 0 }) := if_neg (fun z => z.elim h48 hno)
    rw [e] at k
    obtain ⟨h1, p1, sb1, kc⟩ := c0.call 1 rfl
    obtain ⟨rl, hbo⟩ := qbk p1
    obtain ⟨db, hb⟩ := hbo.up sb1
    refine ⟨_, rfl, o, A.C_One, dx, _, _, rfl, hx, T.cl_One, T.na_y22, lz 2, b, db, _, rfl, hb, ln0, _, rfl, _, rfl, b, s0.own, num nm, ad, s0.buckets, h1, rfl, t.bs, hn, sb1, p1, fun H' h' sb' p' fm' => ?_⟩
    have c1 := kc p' sb' fm'
    exact (qaA (s := { s0 with buckets := heard s0.own s0.buckets ⟨num nm, ad, 0⟩ }) c1).ends ⟨t.rel.op, t.rel.ok, t.rel.kp⟩ k
def sp_z94 (A : Adr) : Sp := fun vs H Q _ => ∃ (o : Addr) (nm : Bytes) (s : Abs) (us : List (Addr × AskT)) (l : List Rc50.Kept) (h : Hp), vs = [.ref o, iV (num nm)] /\ num nm < 2 ^ 160 /\ Sta A o H h s us l /\
 OneTo A o H h Q (does s (.ping nm)).1 (.int (does s (.ping nm)).2.value)
theorem ok_z94 (T : Txt K mg A) : FnOk P w K mg base CX0 5 A.a_z94 A.d_z94 ["self", "name"] (sp_z94 A) := by
 refine T.F_z94.ok qiD ?_ ?_
 ·rintro _ _ _ _ ⟨o, nm, s, us, l, h, rfl, _⟩
  rfl
 ·rintro cdv Ar outer s H _ Q E hr ⟨o, nm, s0, us, l, h, rfl, hn, t, k⟩
  have nd := qiD.nd
  refine ⟨_, (qab (qax (i := 2) nd rfl (Or.inl rfl) (qak (qae (pv 0) rfl) T.cl_Buckets T.me_z16 (qkf T) hr.md T.b_z16 .nil pass0 (qaa (pv 1) qad)))
   (qab (qaC (qbf (qcf (pv 2))) (qac (qag (qbX qbi qan))) qao)
   (qab (qaC (qbC (qas (pv 0) T.cl_One T.me_z14 (qhu T) hr.md T.b_z14 .nil pass0)) (qac (qag (qbX qbi qan))) qao)
   (qab (qap (qak (qae (pv 0) rfl) T.cl_Post T.me_z92 (qg5 T) hr.md T.b_z92 .nil pass0 (qaa (pv 2) (qaa (qai rfl T.c_ARE_YOU_THERE) (qaa (qaB qad) (qaa (qae (pv 0) rfl) (qaa qcY qad)))))))
   (qac (qag qan)))))), ?_⟩
  obtain ⟨b, p, sh, qv, ov, c0⟩ := qaz (Sl.init t.sb t.r)
  obtain ⟨dx, hx⟩ := c0.ob 0 rfl
  obtain ⟨hB, pB, sbB, c1⟩ := (c0.pull 1 rfl).name0
  obtain ⟨rl, hbo⟩ := qbk pB
  obtain ⟨db, hb⟩ := hbo.up sbB
  refine ⟨_, rfl, o, A.C_One, dx, _, _, rfl, hx, T.cl_One, T.na_y22, lz 2, b, db, _, rfl, hb, ln0, _, rfl, b, s0.own, num nm, s0.buckets, hB, rfl, t.bs, hn, sbB, pB, fun hno => ?_, fun c x hc hox => ?_⟩
  ·refine ⟨_, rfl, _, rfl, ?_⟩
   rw [decide_eq_true rfl]
   refine iteT ⟨_, rfl, ?_⟩
   have e : does s0 (.ping nm) = (s0, refused) := by dsimp only [does]; rw [qcc, hno]
   rw [e] at k
   exact t.stay k
  ·refine ⟨_, rfl, _, rfl, ?_⟩
   rw [decide_eq_false (by intro z; cases z)]
   refine iteF ?_
   have e : does s0 (.ping nm) = if 64 <= s0.opens.length then (s0, { value := -2 }) else (ask s0 c 0 .ping, { value := 0 }) := by dsimp only [does]; rw [qcc, hc]
   rw [e] at k
   refine ⟨_, rfl, o, dx, _, rfl, hx, ln0, o, s0, us, l, h, rfl, t.sb, t.r, _, rfl, ?_⟩
   rw [t.rel.len]
   by_cases h64 : 64 <= s0.opens.length
   ·rw [if_pos h64] at k
    rw [decide_eq_true h64]
    exact iteT ⟨_, rfl, t.stay k⟩
   ·rw [if_neg h64] at k
    rw [decide_eq_false h64]
    refine iteF ?_
    obtain ⟨h2, kx⟩ := (c1.pull 2 rfl).callX
    obtain ⟨ch, ol, ul, hpo, hul⟩ := qbm kx.p
    obtain ⟨dp, hp1⟩ := hpo.up kx.sb
    refine ⟨_, rfl, o, A.C_One, dx, _, _, rfl, hx, T.cl_One, T.na_y26, lz 3, p, dp, _, rfl, hp1, ln0, _, rfl, by decide, fun r hr => ?_⟩
    have c2 := (c1.new (o := .lst []) hr).pull 3 rfl
    obtain ⟨h3, ky⟩ := c2.callX
    obtain ⟨dx2, hx2⟩ := c2.ob 3 rfl
    have sB2 := c2.isb 2 rfl
    refine ⟨_, rfl, o, A.C_One, dx2, _, _, rfl, hx2, T.cl_One, T.na_y23, lz 1, p, x, r, s0.own, s0.chance, c.name, c.at_, s0.now, 0, 0, [], s0.out, us, h3, rfl, someNA T (hox.up sB2), (ky.is 1 rfl).noOb hox, qaf, ky.pt 0 rfl, by decide, t.ou.le, t.len, ky.sb, ky.p, fun H' h' y sb' p' fm' => ?_⟩
    have c3 := (ky.ret p' sb' fm')
    have c4 := (((((((c3.pull 1 rfl).pull 6 rfl).pull 6 rfl).pull 6 rfl).pull 4 rfl).pull 6 rfl).pull 6 rfl)
    have c5 := c4.imp0 (P' := BucksR A b s0.own s0.buckets) fun h z => by cases (show h = hB from z); exact pB
    have c6 := (((((((c5.pull 6 rfl).pull 6 rfl).pull 6 rfl).pull 6 rfl).pull 6 rfl).pull 5 rfl).pull 6 rfl)
    have c7 := qaA (s := ask s0 c 0 .ping) (us := us ++ [(y, askT s0.chance c.name c.at_ s0.now 0 0)]) (b := b) (p := p) (sh := sh) (qv := qv) (ov := ov) (by rw [qde]; exact c6)
    exact c7.ends (t.rel.ask (.inl ⟨rfl, rfl⟩)) k
def sp_z74 (A : Adr) : Sp := fun vs H Q _ => ∃ (o cl : Addr) (nm key bs : Bytes) (s : Abs) (us : List (Addr × AskT)) (l : List Rc50.Kept) (h : Hp), vs = [.ref o, iV (num nm), iV (num key), .ref cl] /\ num nm < 2 ^ 160 /\ IsL H cl bs /\ bs.length <= 512 /\ Sta A o H h s us l /\
 OneTo A o H h Q (does s (.store nm key bs bs.length)).1 (.int (does s (.store nm key bs bs.length)).2.value)
theorem ok_z74 (T : Txt K mg A) : FnOk P w K mg base CX0 5 A.a_z74 A.d_z74 ["self", "name", "key", "content"] (sp_z74 A) := by
 refine T.F_z74.ok qiZ ?_ ?_
 ·rintro _ _ _ _ ⟨o, cl, nm, key, bs, s, us, l, h, rfl, _⟩
  rfl
 ·rintro cdv Ar outer s H _ Q E hr ⟨o, cl, nm, key, bs, s0, us, l, h, rfl, hn, hcl, hbl, t, k⟩
  have nd := qiZ.nd
  refine ⟨_, (qab (qax (i := 4) nd rfl (Or.inl rfl) (qak (qae (pv 0) rfl) T.cl_Buckets T.me_z16 (qkf T) hr.md T.b_z16 .nil pass0 (qaa (pv 1) qad)))
   (qab (qaC (PW.pt (qck (qar qeP (qav qah (by rfl) T.n_len PySem.boot_len (qaa (pv 3) qad)) (qai rfl T.c_LONGEST_CONTENT) (nomark _)) (qbI (qbf (qcf (pv 4)))))) (qac (qag (qbX qbi qan))) qao)
   (qab (qaC (qbC (qas (pv 0) T.cl_One T.me_z14 (qhu T) hr.md T.b_z14 .nil pass0)) (qac (qag (qbX qbi qan))) qao)
   (qab (qap (qak (qae (pv 0) rfl) T.cl_Post T.me_z92 (qg5 T) hr.md T.b_z92 .nil pass0 (qaa (pv 4) (qaa (qai rfl T.c_KEEP_THIS) (qaa (qaK qbU (qaw (qfL T) hr.md rfl T.mg_z56 T.F_z56.kp T.b_z56 .nil pass0 (qaa (pv 2) qad)) (qaw (qjM T) hr.md rfl T.mg_z27 T.F_z27.kp T.b_z27 .nil pass0 (qaa (pv 3) qad))) (qaa (qae (pv 0) rfl) (qaa qcY qad)))))))
   (qac (qag qan)))))), ?_⟩
  obtain ⟨b, p, sh, qv, ov, c0⟩ := qaz (Sl.init t.sb t.r)
  obtain ⟨dx, hx⟩ := c0.ob 0 rfl
  obtain ⟨hB, pB, sbB, c1⟩ := (c0.pull 1 rfl).name0
  obtain ⟨rl, hbo⟩ := qbk pB
  obtain ⟨db, hb⟩ := hbo.up sbB
  have hln : ¬ (((bs.length : Nat) : Int) < 0 \/ (LONGEST : Int) < ((bs.length : Nat) : Int)) := by
   rintro (z | z)
   ·omega
   ·rw [show (LONGEST : Int) = 512 from rfl] at z; omega
  have hl5 : decide (((List.map iV bs).length : Int) > 512) = false := by rw [List.length_map]; exact decide_eq_false (by omega)
  refine ⟨_, rfl, o, A.C_One, dx, _, _, rfl, hx, T.cl_One, T.na_y22, lz 2, b, db, _, rfl, hb, ln0, _, rfl, b, s0.own, num nm, s0.buckets, hB, rfl, t.bs, hn, sbB, pB, fun hno => ?_, fun c x hc hox => ?_⟩
  ·refine ⟨_, rfl, cl, _, rfl, .inl (SqL.of hcl), _, _, rfl, rfl, _, rfl, ?_⟩
   show if decide _ = true then _ else _
   refine ite2 (fun z => absurd (hl5.symm.trans z) (by decide)) fun _ => ?_
   refine ⟨_, rfl, _, rfl, ?_⟩
   rw [decide_eq_true rfl]
   refine iteT ⟨_, rfl, ?_⟩
   have e : does s0 (.store nm key bs bs.length) = (s0, refused) := by dsimp only [does]; rw [if_neg hln, qcc, hno]
   rw [e] at k
   exact t.stay k
  ·refine ⟨_, rfl, cl, _, rfl, .inl (SqL.of hcl), _, _, rfl, rfl, _, rfl, ?_⟩
   show if decide _ = true then _ else _
   refine ite2 (fun z => absurd (hl5.symm.trans z) (by decide)) fun _ => ?_
   refine ⟨_, rfl, _, rfl, ?_⟩
   rw [decide_eq_false (by intro z; cases z)]
   refine iteF ?_
   have e : does s0 (.store nm key bs bs.length) = if 64 <= s0.opens.length then (s0, { value := -2 }) else (ask s0 c 2 (.store (num key) bs), { value := 0 }) := by dsimp only [does]; rw [if_neg hln, qcc, hc]
   rw [e] at k
   refine ⟨_, rfl, o, dx, _, rfl, hx, ln0, o, s0, us, l, h, rfl, t.sb, t.r, _, rfl, ?_⟩
   rw [t.rel.len]
   by_cases h64 : 64 <= s0.opens.length
   ·rw [if_pos h64] at k
    rw [decide_eq_true h64]
    exact iteT ⟨_, rfl, t.stay k⟩
   ·rw [if_neg h64] at k
    rw [decide_eq_false h64]
    refine iteF ?_
    obtain ⟨h2, kx⟩ := (c1.pull 2 rfl).callX
    obtain ⟨ch, ol, ul, hpo, hul⟩ := qbm kx.p
    obtain ⟨dp, hp1⟩ := hpo.up kx.sb
    refine ⟨_, rfl, o, A.C_One, dx, _, _, rfl, hx, T.cl_One, T.na_y26, lz 3, p, dp, _, rfl, hp1, ln0, _, rfl, _, rfl, num key, rfl, fun H2 p2 s2 m2 l2 => ?_⟩
    refine ⟨_, rfl, cl, bs, rfl, hcl.same s2, by omega, fun H3 p3 s3 m3 l3 => ?_⟩
    refine ⟨p2, p3, _, _, rfl, rfl, s3 _ _ l2, l3, ?_, fun r hr => ?_⟩
    ·rw [List.length_map, List.length_map, List.length_append, qam, qam]
     exact small2 (by omega)
    have s03 := s2.trans s3
    have c2 := ((c1.keep s03).new (o := .lst ((be 20 (num key)).map iV ++ (be 2 bs.length ++ bs).map iV)) hr).pull 3 rfl
    obtain ⟨h3, ky⟩ := c2.callX
    obtain ⟨dx2, hx2⟩ := c2.ob 3 rfl
    have sB2 := c2.isb 2 rfl
    refine ⟨_, rfl, o, A.C_One, dx2, _, _, rfl, hx2, T.cl_One, T.na_y23, lz 1, p, x, r, s0.own, s0.chance, c.name, c.at_, s0.now, 6, 2, be 20 (num key) ++ (be 2 bs.length ++ bs), s0.out, us, h3, rfl, someNA T (hox.up sB2), (ky.is 1 rfl).noOb hox, by unfold IsL; rw [qaf]; simp only [List.map_append], ky.pt 0 rfl, ?_, t.ou.le, t.len, ky.sb, ky.p, fun H' h' y sb' p' fm' => ?_⟩
    ·rw [List.length_append, List.length_append, qam, qam]
     omega
    have c3 := (ky.ret p' sb' fm')
    have c4 := (((((((c3.pull 1 rfl).pull 6 rfl).pull 6 rfl).pull 6 rfl).pull 4 rfl).pull 6 rfl).pull 6 rfl)
    have c5 := c4.imp0 (P' := BucksR A b s0.own s0.buckets) fun h z => by cases (show h = hB from z); exact pB
    have c6 := (((((((c5.pull 6 rfl).pull 6 rfl).pull 6 rfl).pull 6 rfl).pull 6 rfl).pull 5 rfl).pull 6 rfl)
    have c7 := qaA (s := ask s0 c 2 (.store (num key) bs)) (us := us ++ [(y, askT s0.chance c.name c.at_ s0.now 6 2)]) (b := b) (p := p) (sh := sh) (qv := qv) (ov := ov) (by rw [qde]; exact c6)
    exact c7.ends (t.rel.ask (.inr (.inl ⟨rfl, rfl⟩))) k
end
def OneQ (A : Adr) (o : Addr) (s : Abs) (us : List (Addr × AskT)) (l : List Rc50.Kept) : As := fun h => ∃ (b p sh : Addr) (qv ov : V),
 stars [Ob A.C_One nOne (vOne s.own s.now b p sh qv ov) o, BucksR A b s.own s.buckets, PostR A p s.own s.chance s.out us, ShelfR A sh l] h
section
variable {H0 h0 H h : Hp} {l : List As} {A : Adr} {o : Addr} {s : Abs} {us : List (Addr × AskT)} {ks : List Rc50.Kept}
theorem qgA (c : Sl H0 h0 H (OneQ A o s us ks :: l)) : ∃ (b p sh : Addr) (qv ov : V),
  Sl H0 h0 H (Ob A.C_One nOne (vOne s.own s.now b p sh qv ov) o :: BucksR A b s.own s.buckets :: PostR A p s.own s.chance s.out us :: ShelfR A sh ks :: l) := by
 obtain ⟨b, c1⟩ := c.ex0
 obtain ⟨p, c2⟩ := c1.ex0
 obtain ⟨sh, c3⟩ := c2.ex0
 obtain ⟨qv, c4⟩ := c3.ex0
 obtain ⟨ov, c5⟩ := c4.ex0
 exact ⟨b, p, sh, qv, ov, c5.open0 (k := [_, _, _, _])⟩
theorem qdF {b p sh : Addr} {qv ov : V} (c : Sl H0 h0 H (Ob A.C_One nOne (vOne s.own s.now b p sh qv ov) o :: BucksR A b s.own s.buckets :: PostR A p s.own s.chance s.out us :: ShelfR A sh ks :: l)) :
  Sl H0 h0 H (OneQ A o s us ks :: l) := (Sl.fold0 (k := [_, _, _, _]) c).imp0 fun h q => ⟨b, p, sh, qv, ov, q⟩
theorem qlA (q : AskT) : (leaveT q).o = if q.o.what = 1 then { q.o with what := 3 } else q.o := by
 unfold leaveT
 dsimp only
 split <;> rfl
theorem qik {q : AskT} (h : AskOk q) : AskOk (leaveT q) := by
 unfold AskOk leaveT at *
 dsimp only
 rcases h with ⟨h1, h2⟩ | ⟨h1, h2⟩ | ⟨h1 | h1, h2⟩
 ·rw [h1]; exact .inl ⟨rfl, h2⟩
 ·rw [h1]; exact .inr (.inl ⟨rfl, h2⟩)
 ·rw [h1]; exact .inr (.inr ⟨.inr rfl, h2⟩)
 ·rw [h1]; exact .inr (.inr ⟨.inr rfl, h2⟩)
theorem Rel.close (r : Rel s us ks) (x : Option Bytes × List Contact) : Rel (Rc50.close s x) (us.map leaveA) ks := by
 refine ⟨?_, fun q hq => ?_, r.kp⟩
 ·unfold Rc50.close
  dsimp only
  rw [<- r.op, List.map_map, List.map_map]
  refine List.map_congr_left fun q _ => ?_
  exact qlA q.2
 ·obtain ⟨q', hq', rfl⟩ := List.mem_map.mp hq
  exact qik (r.ok q' hq')
def Keeps (us us' : List (Addr × AskT)) : Prop := ∀ r ∈ us, ∃ r' ∈ us', r'.1 = r.1 /\ r'.2.o.mark = r.2.o.mark
theorem Keeps.refl (us : List (Addr × AskT)) : Keeps us us := fun r h => ⟨r, h, rfl, rfl⟩
theorem Keeps.trans {a b c : List (Addr × AskT)} (x : Keeps a b) (y : Keeps b c) : Keeps a c := fun r h => by
 obtain ⟨r1, h1, e1, m1⟩ := x r h
 obtain ⟨r2, h2, e2, m2⟩ := y r1 h1
 exact ⟨r2, h2, e2.trans e1, m2.trans m1⟩
theorem Keeps.snoc (us : List (Addr × AskT)) (q : Addr × AskT) : Keeps us (us ++ [q]) := fun r h => ⟨r, List.mem_append_left _ h, rfl, rfl⟩
theorem Keeps.leave (us : List (Addr × AskT)) : Keeps us (us.map leaveA) := fun r h => ⟨leaveA r, List.mem_map.mpr ⟨r, h, rfl⟩, rfl, rfl⟩
end
section
variable {P : Program} {w : World} {K : PySem.W.Frag} {mg : Str -> Option Value} {base : Heap} {A : Adr}
def sp_z29 (A : Adr) : Sp := fun vs H Q _ => ∃ (o y : Addr) (r : Option Bytes × List Contact) (s : Abs) (us : List (Addr × AskT)) (l : List Rc50.Kept) (h : Hp), vs = [.ref o, .ref y] /\ Sb h H /\ stars [OneQ A o s us l, OutcR A (.ref y) (some r)] h /\
 ∀ H' h', Sb h' H' -> OneR A o (close s r) (us.map leaveA) l h' -> Fm H h H' h' -> Q .non H'
theorem qkk (T : Txt K mg A) : FnOk P w K mg base CX0 2 A.a_z29 A.d_z29 ["self", "outcome"] (sp_z29 A) := by
 refine T.F_z29.ok qkt ?_ ?_
 ·rintro _ _ _ _ ⟨o, y, r, s, us, l, h, rfl, _⟩
  rfl
 ·rintro cdv Ar outer s H _ Q E hr ⟨o, y, r, s0, us, l, h, rfl, sb, hp, k⟩
  have nd := qkt.nd
  refine ⟨_, (qab (qau (pv 0) qbt rfl)
   (qab (qau (pv 0) (pv 1) rfl)
   (qac (qap (qas (qae (pv 0) rfl) T.cl_Post T.me_z11 (ok_z11 T) hr.md T.b_z11 .nil pass0))))), ?_⟩
  obtain ⟨b, p, sh, qv, ov, c0⟩ := qgA ((Sl.init sb hp).open0 (k := [_, _]))
  obtain ⟨dx, hx⟩ := c0.ob 0 rfl
  refine ⟨_, rfl, o, A.C_One, dx, _, rfl, hx, T.cl_One, T.na_y27, (by show 7 < 1000; decide), ?_⟩
  have c1 := c0.obset (f := "quest") (v := .non) (j := 5) 0 rfl hx (by decide +kernel) (by show 5 < 7; decide)
  obtain ⟨dx1, hx1⟩ := c1.ob 0 rfl
  refine ⟨_, rfl, _, rfl, o, A.C_One, dx1, _, rfl, hx1, T.cl_One, T.na_y24, (by show 7 < 1000; decide), ?_⟩
  have c2 := c1.obset (f := "outcome") (v := .ref y) (j := 6) 0 rfl hx1 (by decide +kernel) (by show 6 < 7; decide)
  obtain ⟨dx2, hx2⟩ := c2.ob 0 rfl
  obtain ⟨h1, p1, sb1, kc⟩ := c2.call 2 rfl
  obtain ⟨ch, ol, ul, hpo, hul⟩ := qbm p1
  obtain ⟨dp, hp1⟩ := hpo.up sb1
  refine ⟨_, rfl, o, A.C_One, dx2, _, _, rfl, hx2, T.cl_One, T.na_y26, lz 3, p, dp, _, rfl, hp1, ln0, p, s0.own, s0.chance, s0.out, us, h1, rfl, sb1, p1, fun H' h' sb' p' fm' => ?_⟩
  have c3 := (kc p' sb' fm').noneR
  have c4 := ((((((c3.pull 5 rfl).pull 1 rfl).pull 5 rfl).pull 5 rfl).pull 5 rfl).pull 5 rfl)
  obtain ⟨h2, p2, sb2, fm2⟩ := (qaA (s := close s0 r) (us := us.map leaveA) (b := b) (p := p) (sh := sh) (qv := .non) (ov := .ref y) c4).fin
  exact k _ h2 sb2 p2 fm2
def OneK (A : Adr) (o : Addr) (H h : Hp) (Q : VK) (us : List (Addr × AskT)) (s' : Abs) (v : V) : Prop := ∀ H' h' us' l', Sb h' H' -> OneR A o s' us' l' h' -> Rel s' us' l' -> Keeps us us' -> Fm H h H' h' -> Q v H'
theorem Sl.endsK {H0 h0 : Hp} {l : List As} {o : Addr} {us : List (Addr × AskT)} {v : V} {s' : Abs} {us' : List (Addr × AskT)} {ks' : List Rc50.Kept} {H' : Hp} {Q : VK} (c : Sl H0 h0 H' (OneR A o s' us' ks' :: l)) (r : Rel s' us' ks') (kp : Keeps us us') (k : OneK A o H0 h0 Q us s' v) : Q v H' := by
 obtain ⟨h', p', sb', fm⟩ := c.fin
 exact k _ h' us' ks' sb' p' r kp fm
structure GoAt (s0 : Abs) (x0 : Rc50.Search) (us0 : List (Addr × AskT)) (l : List Rc50.Kept) (i : Nat) (s : Abs) (x : Rc50.Search) (us : List (Addr × AskT)) : Prop where
 go : goSearch 8 s0 = goSearch (8 - i) s
 se : s.search = some x
 ow : GoodS s.own x
 vl : x.value = x0.value
 asked : i <= askedN x
 i4 : i <= 3
 len : us.length <= 90001 + i
 out : s.out.length <= 256
 rel : Rel s us l
 kp : Keeps us0 us
def GoV (A : Adr) (o : Addr) (H0 h0 H' : Hp) (l : List Rc50.Kept) (s : Abs) (x : Rc50.Search) (us : List (Addr × AskT)) (v : V) : Prop := ∃ (qa b p sh : Addr) (ov : V) (hS : Hp), TakeOk A qa x v hS /\
 Sl H0 h0 H' [Is hS, Ob A.C_One nOne (vOne s.own s.now b p sh (.ref qa) ov) o, BucksR A b s.own s.buckets, PostR A p s.own s.chance s.out us, ShelfR A sh l, OutcR A ov s.result]
def sp_z75 (A : Adr) : Sp := fun vs H Q _ => ∃ (o : Addr) (s : Abs) (x : Rc50.Search) (us : List (Addr × AskT)) (l : List Rc50.Kept) (h : Hp), vs = [.ref o] /\ Sta A o H h s us l /\ s.search = some x /\ OneK A o H h Q us (goSearch 8 s) .non
def kindW (v : Bool) : Nat := if v = true then 4 else 2
theorem kindV (v : Bool) : (if v = true then V.int 4 else V.int 2) = iV (kindW v) := by cases v <;> rfl
theorem qhd (v : Bool) (m o t : Nat) : [kindW v] ++ (be 8 m ++ (be 20 o ++ be 20 t)) = written ⟨m, o, if v = true then .want t else .find t⟩ := by cases v <;> rfl
theorem qip (v : Bool) (st nm ad now : Nat) : AskOk (askT st nm ad now (kindW v) 1) := .inr (.inr ⟨.inl rfl, by cases v; exact .inl rfl; exact .inr rfl⟩)
theorem qdU {H0 h0 H : Hp} {o : Addr} {s : Abs} {us : List (Addr × AskT)} {l : List Rc50.Kept} {x : Rc50.Search} {r : List As} (c : Sl H0 h0 H (OneR A o s us l :: r)) (e : s.search = some x) : ∃ (b p sh qa : Addr) (ov : V),
  Sl H0 h0 H (SearR A qa x :: Ob A.C_One nOne (vOne s.own s.now b p sh (.ref qa) ov) o :: BucksR A b s.own s.buckets :: PostR A p s.own s.chance s.out us :: ShelfR A sh l :: OutcR A ov s.result :: r) := by
 obtain ⟨b, p, sh, qv, ov, c0⟩ := qaz c
 rw [e] at c0
 obtain ⟨qa, rfl, c1⟩ := qdH (c0.pull 4 rfl)
 exact ⟨b, p, sh, qa, ov, c1⟩
theorem qc4 {H0 h0 H : Hp} {o : Addr} {s : Abs} {us : List (Addr × AskT)} {l : List Rc50.Kept} {x : Rc50.Search} {b p sh qa : Addr} {ov : V} {r : List As} (e : s.search = some x)
  (c : Sl H0 h0 H (SearR A qa x :: Ob A.C_One nOne (vOne s.own s.now b p sh (.ref qa) ov) o :: BucksR A b s.own s.buckets :: PostR A p s.own s.chance s.out us :: ShelfR A sh l :: OutcR A ov s.result :: r)) : Sl H0 h0 H (OneR A o s us l :: r) := by
 have c1 := qfa c
 rw [<- e] at c1
 exact qaA (((((((c1.pull 5 rfl).pull 1 rfl).pull 5 rfl).pull 5 rfl).pull 5 rfl).pull 5 rfl))
theorem Sl.unIs {H0 h0 H hS : Hp} {r : List As} {P : As} (c : Sl H0 h0 H (Is hS :: r)) (p : P hS) : Sl H0 h0 H (P :: r) := c.imp0 fun h z => by cases (show h = hS from z); exact p
theorem qg0 (T : Txt K mg A) : FnOk P w K mg base CX0 5 A.a_z75 A.d_z75 ["self"] (sp_z75 A) := by
 refine T.F_z75.ok qj8 ?_ ?_
 ·rintro _ _ _ _ ⟨o, s, x, us, l, h, rfl, _⟩
  rfl
 ·rintro cdv Ar outer s H _ Q E hr ⟨o, s0, x0, us0, l, h, rfl, t, hse, k⟩
  have nd := qj8.nd
  refine ⟨_, (qab (qax (i := 1) nd rfl (Or.inl rfl) (pe_ifC (qbC (qae (qae (pv 0) rfl) rfl)) (qai rfl T.c_VALUE_WANTED) (qai rfl T.c_WHO_IS_NEAR)))
   (qab (qax (i := 2) nd rfl (Or.inl rfl) (qas (qae (pv 0) rfl) T.cl_Search T.me_z1 (ok_z1 T) hr.md T.b_z1 .nil pass0))
   (qab (qd3 PassesOwn.never (qbf (qd0 (pv 2))) (qab (qap (qak (qae (pv 0) rfl) T.cl_Post T.me_z92 (qg5 T) hr.md T.b_z92 .nil pass0 (qaa (pv 2) (qaa (pv 1) (qaa (qaw (qfL T) hr.md rfl T.mg_z56 T.F_z56.kp T.b_z56 .nil pass0 (qaa (qae (qae (pv 0) rfl) rfl) qad)) (qaa (qae (pv 0) rfl) (qaa qcY qad)))))))
   (qac (qax (i := 2) nd rfl (Or.inl rfl) (qas (qae (pv 0) rfl) T.cl_Search T.me_z1 (ok_z1 T) hr.md T.b_z1 .nil pass0)))))
   (qac (qaC (qar qbN (qas (qae (pv 0) rfl) T.cl_Search T.me_z3 (ok_z3 T) hr.md T.b_z3 .nil pass0) qan (nomark _)) (qac (qap (qak (pv 0) T.cl_One T.me_z29 (qkk T) hr.md T.b_z29 .nil pass0 (qaa (qa8 T.mk_Outcome (qj4 T) hr.md rfl T.mg_Outcome T.b_z44 .nil pass0 (qaa (qas (qae (pv 0) rfl) T.cl_Search T.me_z26 (qjU T) hr.md T.b_z26 .nil pass0) (qaa qbt qad))) qad)))) qao))))), ?_⟩
  obtain ⟨b, p, sh, qa, ov, c0⟩ := qdU (Sl.init t.sb t.r) hse
  obtain ⟨dx, hx⟩ := c0.ob 1 rfl
  obtain ⟨h1, kx⟩ := c0.callX
  obtain ⟨fl, hqo⟩ := qcN kx.p
  obtain ⟨dq, hq⟩ := hqo.up kx.sb
  have hlen0 : us0.length <= 90001 := by
   obtain ⟨lid, z1, g⟩ := t.good
   have := g.ms.len
   rw [t.rel.len]
   omega
  refine ⟨_, rfl, o, A.C_One, dx, _, _, rfl, hx, T.cl_One, T.na_y27, lz 5, qa, A.C_Search, dq, _, _, rfl, hq, T.cl_Search, T.na_y35, lz 1, _, rfl, ?_⟩
  dsimp only
  rw [kindV]
  refine ⟨_, rfl, o, A.C_One, dx, _, _, rfl, hx, T.cl_One, T.na_y27, lz 5, qa, dq, _, rfl, hq, ln0, qa, s0.own, x0, h1, rfl, t.se hse, kx.sb, kx.p, fun H1 h1' v1 sb1 tk1 fm1 => ?_⟩
  refine qd7 4 (fun i σ H' => ∃ s x us v, σ = [some (.ref o), some (iV (kindW x0.value)), some v] /\ GoAt s0 x0 us0 l i s x us /\ GoV A o H h H' l s x us v) ⟨s0, x0, us0, v1, rfl, ⟨rfl, hse, t.se hse, rfl, Nat.zero_le _, by decide, hlen0, t.ou.le, t.rel, Keeps.refl _⟩, qa, b, p, sh, ov, h1', tk1, kx.ret rfl sb1 fm1⟩ ?_
  rintro i σ H2 hi ⟨s1, x1, us1, v, rfl, g, qa, b, p, sh, ov, hS, tk, c1⟩
  refine ⟨_, rfl, _, rfl, ?_⟩
  obtain ⟨dx, hx⟩ := c1.ob 1 rfl
  have sS := c1.isb 0 rfl
  rcases tk with ⟨hno, rfl, pS⟩ | ⟨f, y, hnx, rfl, pS, hoy⟩
  ·rw [decide_eq_true rfl]
   refine iteF ?_
   obtain ⟨fs, e, d0⟩ := qbq (c1.unIs pS)
   obtain ⟨fl, d1⟩ := qa1 d0
   obtain ⟨dq, hq⟩ := d1.ob 0 rfl
   have hl : fs.length <= 64 := by rw [<- List.length_map (f := Prod.snd), e]; exact g.ow.le
   have s0' : SeaIs A H2 qa x1.target x1.value fl fs := ⟨⟨dq, hq⟩, d1.get 1 rfl, d1.foundOb 2 rfl⟩
   have hak : (fs.filter fun q => q.2.2 == 1).length = askedN x1 := by
    unfold askedN
    rw [<- e, <- qaM (fun f : Rc50.Found => f.2 == 1), List.length_map]
   have hgo := g.go
   rw [show 8 - i = (7 - i) + 1 by have := g.i4; omega, qkP g.se hno] at hgo
   refine ⟨_, rfl, o, A.C_One, dx, _, _, rfl, hx, T.cl_One, T.na_y27, lz 5, qa, dq, _, rfl, hq, ln0, qa, fl, x1.target, x1.value, fs, rfl, hl, s0', fun H3 s3 => ⟨rfl, _, rfl, ?_⟩⟩
   rw [show V.int 0 = iV 0 from rfl, qby, hak]
   have d2 := d1.keep s3
   cases ea : askedN x1 == 0 with
   | false =>
    refine iteF ?_
    rw [if_neg (by simpa using ea)] at hgo
    rw [hgo] at k
    exact (qc4 g.se (qbc e (qaO d2))).endsK g.rel g.kp k
   | true =>
    refine iteT ?_
    rw [if_pos (by simpa using ea)] at hgo
    rw [hgo] at k
    obtain ⟨dx2, hx2⟩ := d2.ob 3 rfl
    obtain ⟨dq2, hq2⟩ := d2.ob 0 rfl
    refine ⟨_, rfl, o, dx2, _, rfl, hx2, ln0, _, rfl, o, A.C_One, dx2, _, _, rfl, hx2, T.cl_One, T.na_y27, lz 5, qa, dq2, _, rfl, hq2, ln0, qa, fl, x1.target, x1.value, fs, rfl, hl, s0'.same s3, fun H4 pl s4 n4 hpl => ?_⟩
    have d3 := d2.same s4 n4 hpl
    refine fun z dz nz ndz ne => ⟨z, dz, .ref pl, .non, rfl, qaf, fun H5 h5 sb5 p5 fm5 => ⟨rfl, ?_⟩⟩
    have d4 := d3.made nz ndz ne p5 sb5 fm5
    have d5 := (((((((((((d4.pull 9 rfl).pull 4 rfl).pull 4 rfl).pull 9 rfl).pull 9 rfl).pull 9 rfl).pull 9 rfl).pull 8 rfl).pull 8 rfl).pull 9 rfl)).filt0 (fun q => q.2.2 != 3)
    have d6 := Sl.part0 (ps := (fs.filter fun q => q.2.2 != 3).take 8) (qs := (fs.filter fun q => q.2.2 != 3).drop 8) (by rw [List.take_append_drop]; exact d5)
    have d7 := ((((((((((((d6.pull 10 rfl).pull 10 rfl).pull 10 rfl).pull 4 rfl).pull 10 rfl).pull 10 rfl).pull 10 rfl).pull 10 rfl).pull 8 rfl).pull 10 rfl).pull 10 rfl)).noneR
    have hcs : ((fs.filter fun q => q.2.2 != 3).take 8).map (fun q => q.2.1) = (counted x1).map fun f => f.1 := by
     unfold counted
     rw [<- e, <- qaM (fun f : Rc50.Found => f.2 != 3), show Rc50.K = 8 from rfl, <- List.map_take, List.map_map]
     rfl
    have d8 := qdE (A := A) (r := (none, (counted x1).map fun f => f.1)) (y := z) (pl := pl) (cv := .non) hcs (((((((((((((d7.pull 11 rfl).pull 11 rfl).pull 11 rfl).pull 11 rfl).pull 11 rfl).pull 11 rfl).pull 11 rfl).pull 11 rfl).pull 8 rfl).pull 11 rfl).pull 11 rfl).pull 11 rfl))
    have d9 := qdF ((((((((((d8.pull 8 rfl).pull 8 rfl).pull 8 rfl).pull 8 rfl).pull 4 rfl).pull 8 rfl).pull 8 rfl).pull 8 rfl).pull 8 rfl))
    obtain ⟨h6, ky⟩ := (Sl.fold0 (k := [_, _]) d9).callX
    refine ⟨o, z, (none, (counted x1).map fun f => f.1), s1, us1, l, h6, rfl, ky.sb, ky.p, fun H7 h7 sb7 p7 fm7 => ?_⟩
    exact (ky.ret p7 sb7 fm7).endsK (g.rel.close _) (g.kp.trans (Keeps.leave _)) k
  ·rw [decide_eq_false (by intro z; cases z)]
   obtain ⟨hfm, hf0, ha3⟩ := qey hnx
   have hi3 : i < 3 := Nat.lt_of_le_of_lt g.asked ha3
   refine iteT ⟨_, qkJ (by omega), ?_⟩
   obtain ⟨fl, hqo⟩ := qcN pS
   obtain ⟨dq, hq⟩ := hqo.up sS
   obtain ⟨h3, kp⟩ := (c1.pull 3 rfl).callX
   obtain ⟨ch, ol, ul, hpo, hul⟩ := qbm kp.p
   obtain ⟨dp, hp1⟩ := hpo.up kp.sb
   refine ⟨_, rfl, o, A.C_One, dx, _, _, rfl, hx, T.cl_One, T.na_y26, lz 3, p, dp, _, rfl, hp1, ln0, _, rfl, _, rfl, _, rfl, o, A.C_One, dx, _, _, rfl, hx, T.cl_One, T.na_y27, lz 5, qa, A.C_Search, dq, _, _, rfl, hq, T.cl_Search, T.na_y37, lz 0, x1.target, rfl, fun H3 p3 s3 n3 l3 => ?_⟩
   have c2 := (c1.same s3 n3 l3).pull 4 rfl
   obtain ⟨h4, ky⟩ := c2.callX
   obtain ⟨dx2, hx2⟩ := c2.ob 3 rfl
   have sS2 := c2.isb 2 rfl
   refine ⟨_, rfl, o, A.C_One, dx2, _, _, rfl, hx2, T.cl_One, T.na_y23, lz 1, p, y, p3, s1.own, s1.chance, f.1.name, f.1.at_, s1.now, kindW x0.value, 1, be 20 x1.target, s1.out, us1, h4, rfl, foundNA (f := (f.1, 1)) T (hoy.up sS2), (ky.is 1 rfl).noOb hoy, l3, ky.pt 0 rfl, by rw [qam]; decide, g.out, by have := g.len; omega, ky.sb, ky.p, fun H5 h5 z sb5 p5 fm5 => ?_⟩
   have c3 := ky.ret p5 sb5 fm5
   have c4 := ((((((((c3.pull 1 rfl).pull 6 rfl).pull 6 rfl).pull 3 rfl).pull 6 rfl).pull 6 rfl).pull 6 rfl)).unIs pS
   obtain ⟨h6, kz⟩ := c4.callX
   obtain ⟨dx3, hx3⟩ := c4.ob 1 rfl
   obtain ⟨dq3, hq3⟩ := hqo.up (c3.isb 2 rfl)
   have gm := qbH (n := f.1.name) (k := 1) g.ow (by decide)
   refine ⟨_, rfl, o, A.C_One, dx3, _, _, rfl, hx3, T.cl_One, T.na_y27, lz 5, qa, dq3, _, rfl, hq3, ln0, qa, s1.own, mark x1 f.1.name 1, h6, rfl, gm, kz.sb, kz.p, fun H7 h7 v7 sb7 tk7 fm7 => ?_⟩
   have c5 := kz.ret (P' := Is h7) rfl sb7 fm7
   have hgo := g.go
   rw [show 8 - i = (7 - i) + 1 by omega, qkC g.se hnx] at hgo
   refine ⟨ask { s1 with search := some (mark x1 f.1.name 1) } f.1 1 (if x1.value = true then .want x1.target else .find x1.target), mark x1 f.1.name 1, us1 ++ [(z, askT s1.chance f.1.name f.1.at_ s1.now (kindW x0.value) 1)], v7, rfl, ⟨?_, ?_, ?_, g.vl, ?_, by omega, ?_, ?_, ?_, g.kp.trans (Keeps.snoc _ _)⟩, qa, b, p, sh, ov, h7, tk7, ?_⟩
   ·rw [hgo, show 8 - (i + 1) = 7 - i by omega]
   ·rw [qde]
   ·rw [qde]; exact gm
   ·rw [qge g.ow hfm hf0]
    have := g.asked
    omega
   ·rw [List.length_append, List.length_singleton]
    have := g.len
    omega
   ·rw [qde]; exact qiy g.out
   ·exact Rel.ask (s := { s1 with search := some (mark x1 f.1.name 1) }) ⟨g.rel.op, g.rel.ok, g.rel.kp⟩ (qip _ _ _ _ _)
   ·rw [qde]
    dsimp only
    rw [<- qhd, g.vl]
    exact (Sl.drop0 ((((((((c5.pull 5 rfl).pull 5 rfl).pull 5 rfl).pull 5 rfl).pull 5 rfl).pull 5 rfl).pull 6 rfl)))
end
theorem qev : ∀ {l : List Open} {j : Nat} {x : Open}, (l.map (·.mark)).Nodup -> l[j]? = some x -> (l.find? fun o => o.mark == x.mark) = some x
 | [], _, _, _, h => by cases h
 | a :: l, 0, x, _, h => by cases h; rw [List.find?_cons, beq_self_eq_true]
 | a :: l, j + 1, x, nd, h => by
  rw [List.map_cons, List.nodup_cons] at nd
  have : (a.mark == x.mark) = false := beq_eq_false_iff_ne.mpr fun z => nd.1 (List.mem_map.mpr ⟨x, List.mem_of_getElem? h, z.symm⟩)
  rw [List.find?_cons, this]
  exact qev nd.2 h
def lateT (s : Abs) (o : Open) : Abs := { s with opens := s.opens.filter (fun x => x.mark != o.mark), buckets := silent s.own s.buckets o.to_ }
theorem qkV {s : Abs} {j : Nat} {o : Open} (nd : (s.opens.map (·.mark)).Nodup) (h : s.opens[j]? = some o) : late s o.mark = if o.what ≠ 1 then lateT s o else match s.search with
  | none => lateT s o
  | some x => goSearch 8 { lateT s o with search := some (mark x o.to_.name 3) } := by
 unfold late
 rw [qev nd h]
 rfl
theorem qeS {α : Type} {l : List α} {j : Nat} {r r' : α} (h : r' ∈ l) (hj : l[j]? = some r) (ne : r' ≠ r) : r' ∈ l.eraseIdx j := by
 rcases List.mem_cons.mp ((qa7 hj).mem_iff.mp h) with z | z
 ·exact absurd z ne
 ·exact z
theorem Rel.erase {s : Abs} {us : List (Addr × AskT)} {l : List Rc50.Kept} (r : Rel s us l) (nd : (s.opens.map (·.mark)).Nodup) {j : Nat} {q : Addr × AskT} (hj : us[j]? = some q) {s' : Abs} (e1 : s'.opens = s.opens.filter (fun x => x.mark != q.2.o.mark)) (e2 : s'.kept = s.kept) : Rel s' (us.eraseIdx j) l := by
 refine ⟨?_, fun q hq => r.ok q (List.mem_of_mem_eraseIdx hq), by rw [e2]; exact r.kp⟩
 rw [e1, qfy nd (j := j) (by rw [<- r.op, List.getElem?_map, hj]; rfl), qbE, r.op]
theorem Rel.at_ {s : Abs} {us : List (Addr × AskT)} {l : List Rc50.Kept} (r : Rel s us l) {j : Nat} {q : Addr × AskT} (hj : us[j]? = some q) : s.opens[j]? = some q.2.o := by rw [<- r.op, List.getElem?_map, hj]; rfl
section
variable {P : Program} {w : World} {K : PySem.W.Frag} {mg : Str -> Option Value} {base : Heap} {A : Adr}
def sp_z55 (A : Adr) : Sp := fun vs H Q _ => ∃ (o : Addr) (j : Nat) (q : Addr × AskT) (s : Abs) (us : List (Addr × AskT)) (l : List Rc50.Kept) (h : Hp), vs = [.ref o, .ref q.1] /\ us[j]? = some q /\ Sta A o H h s us l /\ OneK A o H h Q (us.eraseIdx j) (late s q.2.o.mark) .non
theorem ok_z55 (T : Txt K mg A) : FnOk P w K mg base CX0 6 A.a_z55 A.d_z55 ["self", "asked"] (sp_z55 A) := by
 refine T.F_z55.ok qi5 ?_ ?_
 ·rintro _ _ _ _ ⟨o, j, q, s, us, l, h, rfl, _⟩
  rfl
 ·rintro cdv Ar outer s H _ Q E hr ⟨o, j, q, s0, us, l, h, rfl, hj, t, k⟩
  have nd := qi5.nd
  refine ⟨_, (qab (qap (qak (qae (pv 0) rfl) T.cl_Post T.me_z60 (qji T) hr.md T.b_z60 .nil pass0 (qaa (pv 1) qad)))
   (qab (qap (qak (qae (pv 0) rfl) T.cl_Buckets T.me_z25 (ok_z25 T) hr.md T.b_z25 .nil pass0 (qaa (qae (pv 1) rfl) (qaa (qae (pv 1) rfl) qad))))
   (qac (qaC (qbC (qae (pv 1) rfl)) (qab (qap (qak (qae (pv 0) rfl) T.cl_Search T.me_z2 (ok_z2 T) hr.md T.b_z2 .nil pass0 (qaa (qae (pv 1) rfl) qad)))
   (qac (qap (qas (pv 0) T.cl_One T.me_z75 (qg0 T) hr.md T.b_z75 .nil pass0)))) qao)))), ?_⟩
  obtain ⟨b, p, sh, qv, ov, c0⟩ := qaz (Sl.init t.sb t.r)
  obtain ⟨dx, hx⟩ := c0.ob 0 rfl
  have hoj := t.rel.at_ hj
  have hok : GoodO s0.own s0.now s0.search q.2.o := by
   obtain ⟨lid, _, g⟩ := t.good
   exact g.op _ (List.mem_of_getElem? hoj)
  rw [qkV t.marks hoj] at k
  obtain ⟨h1, kx⟩ := (c0.pull 2 rfl).callX
  obtain ⟨ch, ol, ul, hpo, hul⟩ := qbm kx.p
  obtain ⟨dp, hp1⟩ := hpo.up kx.sb
  refine ⟨_, rfl, o, A.C_One, dx, _, _, rfl, hx, T.cl_One, T.na_y26, lz 3, p, dp, _, rfl, hp1, ln0, _, rfl, p, s0.own, s0.chance, j, q, s0.out, us, h1, rfl, hj, kx.sb, kx.p, fun H1 h1' sb1 p1 fm1 => ?_⟩
  have c1 := (kx.ret p1 sb1 fm1).open0 (k := [_, _])
  obtain ⟨dx1, hx1⟩ := c1.ob 2 rfl
  obtain ⟨dq, hq⟩ := c1.ob (C := A.C_Asked) (ns := nAsked) (vs := vAsked q.2) (a := q.1) 1 rfl
  obtain ⟨h2, ky⟩ := (c1.pull 3 rfl).callX
  obtain ⟨rl, hbo⟩ := qbk ky.p
  obtain ⟨db, hb⟩ := hbo.up ky.sb
  refine ⟨_, rfl, o, A.C_One, dx1, _, _, rfl, hx1, T.cl_One, T.na_y22, lz 2, b, db, _, rfl, hb, ln0, _, rfl, q.1, A.C_Asked, dq, _, _, rfl, hq, T.cl_Asked, T.na_y3, lz 2, _, rfl, q.1, A.C_Asked, dq, _, _, rfl, hq, T.cl_Asked, T.na_y0, lz 3, b, s0.own, q.2.o.to_.name, q.2.o.to_.at_, s0.buckets, h2, rfl, t.bs, hok.nm, ky.sb, ky.p, fun H2 h2' sb2 p2 fm2 => ?_⟩
  have c2 := ky.ret p2 sb2 fm2
  have c3 := (((((((c2.pull 2 rfl).pull 6 rfl).pull 6 rfl).pull 6 rfl).pull 5 rfl).pull 5 rfl).pull 6 rfl)
  obtain ⟨dq2, hq2⟩ := c3.ob (C := A.C_Asked) (ns := nAsked) (vs := vAsked q.2) (a := q.1) 6 rfl
  have hrel : Rel (lateT s0 q.2.o) (us.eraseIdx j) l := t.rel.erase t.marks hj rfl rfl
  refine ⟨_, rfl, q.1, A.C_Asked, dq2, _, _, rfl, hq2, T.cl_Asked, T.na_y4, lz 5, _, rfl, ?_⟩
  by_cases hw : q.2.o.what = 1
  ·rw [decide_eq_true hw]
   refine iteT ?_
   rw [if_neg (fun z => z hw)] at k
   obtain ⟨x, hsx, f, hfx, hfn⟩ := hok.se hw
   rw [hsx] at k
   have c4 := qaA (s := lateT s0 q.2.o) (us := us.eraseIdx j) c3
   obtain ⟨b', p', sh', qa, ov', c5⟩ := qdU c4 (show (lateT s0 q.2.o).search = some x from hsx)
   obtain ⟨h5, kz⟩ := c5.callX
   obtain ⟨fl, hqo⟩ := qcN kz.p
   obtain ⟨da, ha⟩ := hqo.up kz.sb
   obtain ⟨dx5, hx5⟩ := c5.ob 1 rfl
   obtain ⟨dq5, hq5⟩ := c5.ob (C := A.C_Asked) (ns := nAsked) (vs := vAsked q.2) (a := q.1) 6 rfl
   refine ⟨_, rfl, o, A.C_One, dx5, _, _, rfl, hx5, T.cl_One, T.na_y27, lz 5, qa, da, _, rfl, ha, ln0, _, rfl, q.1, A.C_Asked, dq5, _, _, rfl, hq5, T.cl_Asked, T.na_y3, lz 2, qa, s0.own, q.2.o.to_.name, x, h5, rfl, t.se hsx, ⟨f, hfx, hfn⟩, kz.sb, kz.p, fun H6 h6 sb6 p6 fm6 => ?_⟩
   have c6 := qc4 (s := { lateT s0 q.2.o with search := some (mark x q.2.o.to_.name 3) }) (x := mark x q.2.o.to_.name 3) rfl (kz.ret p6 sb6 fm6)
   obtain ⟨h7, kv⟩ := c6.callX
   obtain ⟨b7, p7, sh7, qv7, ov7, c7⟩ := qaz c6
   obtain ⟨dx7, hx7⟩ := c7.ob 0 rfl
   refine ⟨_, rfl, o, dx7, _, rfl, hx7, ln0, o, { lateT s0 q.2.o with search := some (mark x q.2.o.to_.name 3) }, mark x q.2.o.to_.name 3, us.eraseIdx j, l, h7, rfl, ⟨?_, ⟨hrel.op, hrel.ok, hrel.kp⟩, kv.sb, kv.p⟩, rfl, fun H8 h8 us8 l8 sb8 p8 rel8 kp8 fm8 => ?_⟩
   ·obtain ⟨lid, hl, g⟩ := t.good
    exact ⟨lid, hl, qbr (s := lateT s0 q.2.o) (qdf (qb7 g _)) hsx (qbH (g.se x hsx) (by decide)) (qbM x _ 3 (by decide)) fun f hf => qbS hf⟩
   ·exact (kv.ret p8 sb8 fm8).endsK rel8 kp8 k
  ·rw [decide_eq_false hw]
   refine iteF ?_
   rw [if_pos hw] at k
   exact (qaA (s := lateT s0 q.2.o) (us := us.eraseIdx j) c3).endsK hrel (Keeps.refl _) k
def timeT (s : Abs) (n : Nat) : Abs := { s with now := s.now + n, kept := s.kept.filter fun x => decide (s.now + n < x.till) }
def sp_z86 (A : Adr) : Sp := fun vs H Q _ => ∃ (o : Addr) (ms : Int) (s : Abs) (us : List (Addr × AskT)) (l : List Rc50.Kept) (h : Hp), vs = [.ref o, .int ms] /\ Sta A o H h s us l /\
 OneTo A o H h Q (does s (.time ms)).1 (.int (does s (.time ms)).2.value)
theorem ok_z86 (T : Txt K mg A) : FnOk P w K mg base CX0 7 A.a_z86 A.d_z86 ["self", "milliseconds"] (sp_z86 A) := by
 refine T.F_z86.ok qje ?_ ?_
 ·rintro _ _ _ _ ⟨o, ms, s, us, l, h, rfl, _⟩
  rfl
 ·rintro cdv Ar outer s H _ Q E hr ⟨o, ms, s0, us, l, h, rfl, t, k⟩
  have nd := qje.nd
  refine ⟨_, (qab (qaC (PW.pt (qck (qar qdP (pv 1) qan (nomark _)) (qbI (qar qeP (pv 1) (qai rfl T.c_LONGEST_TIME) (nomark _))))) (qac (qag (qbX qbi qan))) qao)
   (qab (qau (pv 0) (qaK qce (qae (pv 0) rfl) (pv 1)) rfl)
   (qab (qap (qak (qae (pv 0) rfl) T.cl_Shelf T.me_z28 (ok_z28 T) hr.md T.b_z28 .nil pass0 (qaa (qae (pv 0) rfl) qad)))
   (qab (qbW PassesOwn.never rfl (qaU (qak (qae (pv 0) rfl) T.cl_Post T.me_z33 (ok_z33 T) hr.md T.b_z33 .nil pass0 (qaa (qae (pv 0) rfl) qad))) (qaN (i := 2) nd rfl (Or.inl rfl)) (qac (qap (qak (pv 0) T.cl_One T.me_z55 (ok_z55 T) hr.md T.b_z55 .nil pass0 (qaa (pv 2) qad)))))
   (qac (qag qan)))))), ?_⟩
  have no : (ms < 0 \/ 10000000 < ms) -> Q (.int (-1)) H := by
   intro z
   have e : does s0 (.time ms) = (s0, refused) := if_pos z
   rw [e] at k
   exact t.stay k
  refine ⟨_, rfl, _, _, rfl, rfl, _, rfl, ?_⟩
  refine ite2 (fun hc => iteT ⟨_, rfl, no (.inl (by have := of_decide_eq_true hc; omega))⟩) fun hc => ?_
  have h0 : 0 <= ms := by
   refine Int.not_lt.mp fun z => hc (decide_eq_true z)
  refine ⟨_, rfl, _, _, rfl, rfl, _, rfl, ?_⟩
  refine ite2 (fun hd => ⟨_, rfl, no (.inr (by have := of_decide_eq_true hd; omega))⟩) fun hd => ?_
  have h1 : ms <= 10000000 := by
   refine Int.not_lt.mp fun z => hd (decide_eq_true z)
  obtain ⟨n, rfl⟩ : ∃ n : Nat, ms = (n : Int) := ⟨ms.toNat, by omega⟩
  have e : does s0 (.time (n : Int)) = (time s0 n, { value := 0 }) := if_neg (by omega)
  rw [e] at k
  obtain ⟨b, p, sh, qv, ov, c0⟩ := qaz (Sl.init t.sb t.r)
  obtain ⟨dx, hx⟩ := c0.ob 0 rfl
  refine ⟨_, rfl, o, A.C_One, dx, _, _, rfl, hx, T.cl_One, T.na_y23, lz 1, _, rfl, _, _, rfl, rfl, _, rfl, o, A.C_One, dx, _, rfl, hx, T.cl_One, T.na_y23, (by show 7 < 1000; decide), ?_⟩
  have en : V.int ((s0.now : Int) + (n : Int)) = iV (s0.now + n) := by unfold iV; rw [Int.natCast_add]
  dsimp only
  rw [en]
  have c1 := c0.obset (f := "now") (v := iV (s0.now + n)) (j := 1) 0 rfl hx (by decide +kernel) (by show 1 < 7; decide)
  obtain ⟨dx1, hx1⟩ := c1.ob 0 rfl
  obtain ⟨h2, kx⟩ := (c1.pull 3 rfl).callX
  obtain ⟨d, hso⟩ := qdO kx.p
  obtain ⟨ds, hs⟩ := hso.up kx.sb
  refine ⟨_, rfl, o, A.C_One, dx1, _, _, rfl, hx1, T.cl_One, T.na_y28, lz 4, sh, ds, _, rfl, hs, ln0, _, rfl, o, A.C_One, dx1, _, _, rfl, hx1, T.cl_One, T.na_y23, lz 1, sh, s0.now + n, l, h2, rfl, t.kl.1, kx.sb, kx.p, fun H3 h3 sb3 p3 fm3 => ?_⟩
  have c2 := kx.ret p3 sb3 fm3
  obtain ⟨dx2, hx2⟩ := c2.ob 1 rfl
  obtain ⟨h4, ky⟩ := (c2.pull 3 rfl).callX
  obtain ⟨ch, ol, ul, hpo, hul⟩ := qbm ky.p
  obtain ⟨dp, hp1⟩ := hpo.up ky.sb
  refine ⟨_, rfl, o, A.C_One, dx2, _, _, rfl, hx2, T.cl_One, T.na_y26, lz 3, p, dp, _, rfl, hp1, ln0, _, rfl, o, A.C_One, dx2, _, _, rfl, hx2, T.cl_One, T.na_y23, lz 1, p, s0.own, s0.chance, s0.now + n, s0.out, us, h4, rfl, t.len, ky.sb, ky.p, fun H5 h5 pl sb5 p5 fm5 => ?_⟩
  have c3 := (ky.ret p5 sb5 fm5).open0 (k := [_, _])
  have c4 := (((((((c3.pull 1 rfl).pull 6 rfl).pull 6 rfl).pull 4 rfl).pull 4 rfl).pull 6 rfl).pull 6 rfl)
  have hrel : Rel (timeT s0 n) us (l.filter fun x => decide (s0.now + n < x.till)) := ⟨t.rel.op, t.rel.ok, t.rel.kp.filter _⟩
  have c5 := qaA (s := timeT s0 n) c4
  have hgood : ∃ lid, lid <= 90000 /\ Good lid (timeT s0 n) := by
   obtain ⟨lid, hl, g⟩ := t.good
   exact ⟨lid, hl, qdN g n⟩
  obtain ⟨lates, hlates⟩ : ∃ lates, lates = us.filter fun q => decide (q.2.o.since + 1000 <= s0.now + n) := ⟨_, rfl⟩
  rw [<- hlates] at c5
  have hmk : lates.map (fun q => q.2.o.mark) = (((timeT s0 n).opens.filter fun o => decide (o.since + WAIT <= (timeT s0 n).now)).map fun o => o.mark) := by
   rw [show (timeT s0 n).opens = s0.opens from rfl, <- t.rel.op, hlates, List.filter_map, List.map_map]
   rfl
  have hmn : (lates.map (fun q => q.2.o.mark)).Nodup := by
   rw [hmk]
   exact (List.filter_sublist.map _).nodup t.marks
  have htime : time s0 n = (lates.map fun q => q.2.o.mark).foldl late (timeT s0 n) := by rw [hmk]; rfl
  refine ⟨pl, rfl, ⟨_, SqL.of (c5.get 1 rfl)⟩, ?_⟩
  refine qaY (K := K) (a := pl) (xs := refs lates) (fun i σ H' => (∃ v, σ = [some (.ref o), some (.int (n : Int)), v]) /\ ∃ (us' : List (Addr × AskT)) (l' : List Rc50.Kept), Rel (((lates.take i).map fun q => q.2.o.mark).foldl late (timeT s0 n)) us' l' /\ (∀ m, i <= m -> ∀ q, lates[m]? = some q -> ∃ r ∈ us', r.1 = q.1 /\ r.2.o.mark = q.2.o.mark) /\
   Sl H h H' [OneR A o (((lates.take i).map fun q => q.2.o.mark).foldl late (timeT s0 n)) us' l', Pt pl (.lst (refs lates))]) ⟨⟨none, rfl⟩, us, _, hrel, ?_, c5⟩ (fun i σ H' _ hh => by obtain ⟨_, _, _, _, _, c⟩ := hh; exact SqL.of (c.get 1 rfl)) ?_ ?_
  ·intro m _ q hq
   refine ⟨q, ?_, rfl, rfl⟩
   rw [hlates] at hq
   exact (List.mem_filter.mp (List.mem_of_getElem? hq)).1
  ·rintro i y σ H' hi ⟨⟨v, rfl⟩, us', l', hr, hin, c6⟩
   obtain ⟨q, hq, rfl⟩ := qa9 hi
   obtain ⟨r, hrm, hr1, hr2⟩ := hin i (Nat.le_refl _) q hq
   obtain ⟨j, hj⟩ := List.getElem?_of_mem hrm
   obtain ⟨h7, kz⟩ := c6.callX
   obtain ⟨b7, p7, sh7, qv7, ov7, c7⟩ := qaz c6
   obtain ⟨dx7, hx7⟩ := c7.ob 0 rfl
   refine ⟨_, rfl, o, dx7, _, rfl, hx7, ln0, _, rfl, o, j, r, _, us', l', h7, by rw [hr1]; rfl, hj, ⟨?_, hr, kz.sb, kz.p⟩, fun H8 h8 us8 l8 sb8 p8 rel8 kp8 fm8 => ?_⟩
   ·obtain ⟨lid, hl, g⟩ := hgood
    exact ⟨lid, hl, qcC _ _ g⟩
   ·have c8 := kz.ret p8 sb8 fm8
    have es : late (((lates.take i).map fun q => q.2.o.mark).foldl late (timeT s0 n)) r.2.o.mark = ((lates.take (i + 1)).map fun q => q.2.o.mark).foldl late (timeT s0 n) := by
     rw [qbg hq, List.map_append, List.foldl_append, hr2]
     rfl
    rw [es] at c8 rel8
    refine ⟨⟨_, rfl⟩, us8, l8, rel8, fun m hm q' hq' => ?_, c8⟩
    obtain ⟨r', hr', e1, e2⟩ := hin m (by omega) q' hq'
    have ne : r' ≠ r := by
     intro z
     have em : q'.2.o.mark = q.2.o.mark := by rw [<- e2, <- hr2, z]
     obtain ⟨l1, e5⟩ := List.getElem?_eq_some_iff.mp hq
     obtain ⟨l2, e6⟩ := List.getElem?_eq_some_iff.mp hq'
     have := List.pairwise_iff_getElem.mp hmn i m (by rw [List.length_map]; exact l1) (by rw [List.length_map]; exact l2) (by omega)
     rw [List.getElem_map, List.getElem_map, e5, e6] at this
     exact this em.symm
    obtain ⟨r2, h2, e3, e4⟩ := kp8 r' (qeS hr' hj ne)
    exact ⟨r2, h2, e3.trans e1, e4.trans e2⟩
  ·rintro σ H' ⟨⟨v, rfl⟩, us', l', hr, _, c6⟩
   rw [qaj, List.take_length] at hr c6
   rw [<- htime] at hr c6
   exact c6.ends hr k
end
def ansS (s : Abs) (sx : Rc50.Search) (sd : Nat) (bd : Body) : Abs := match bd with
 | .nodes l => goSearch 8 { s with search := some (l.foldl (more s.own) (mark sx sd 2)) }
 | .value v => if sx.value = true then close s (some v, []) else goSearch 8 { s with search := some (mark sx sd 2) }
 | _ => goSearch 8 { s with search := some (mark sx sd 2) }
theorem qfm {s : Abs} {sx : Rc50.Search} {o : Open} {bd : Body} (h1 : o.what = 1) (h2 : s.search = some sx) : answered s o bd = ansS s sx o.to_.name bd := by
 unfold answered ansS
 rw [if_neg (fun z => z h1), h2]
 cases bd <;> rfl
theorem qkT {s : Abs} {sx : Rc50.Search} {sd : Nat} {bd : Body} (h : ¬ (kindOf bd = 5 /\ sx.value = true)) : ansS s sx sd bd = goSearch 8 { s with search := some ((peopleIn bd).foldl (more s.own) (mark sx sd 2)) } := by
 cases bd with
 | value v =>
  unfold ansS
  dsimp only
  rw [if_neg fun z => h ⟨rfl, z⟩]
  rfl
 | _ => rfl
theorem qfk {bd : Body} (g : GoodZ bd) : ∀ c ∈ peopleIn bd, c.name < 2 ^ 160 /\ c.at_ < 2 ^ 48 := by
 cases bd with
 | nodes l => exact g
 | _ => intro c hc; cases hc
theorem qjH {c A B C : Prop} [Decidable c] (h1 : c -> C -> A) (h2 : ¬ c -> C -> B) (hC : C) : if c then A else B := ite2 (fun h => h1 h hC) fun h => h2 h hC
theorem kind5 {bd : Body} (h : kindOf bd = 5) : ∃ v, bd = .value v := by
 cases bd with
 | value v => exact ⟨v, rfl⟩
 | _ => cases h
section
variable {P : Program} {w : World} {K : PySem.W.Frag} {mg : Str -> Option Value} {base : Heap} {A : Adr}
abbrev LetB (A : Adr) (x : Addr) (mk sd : Nat) (bd : Body) : As := LetR A x (kindOf bd) mk sd (nameIn bd) (peopleIn bd) (bytesIn bd)
def sp_z22 (A : Adr) : Sp := fun vs H Q _ => ∃ (o x : Addr) (mk sd : Nat) (bd : Body) (s : Abs) (sx : Rc50.Search) (us : List (Addr × AskT)) (l : List Rc50.Kept) (h : Hp), vs = [.ref o, .ref x] /\ (∃ lid, lid <= 90000 /\ Good lid s) /\ Rel s us l /\ GoodZ bd /\ s.search = some sx /\ (∃ f ∈ sx.found, f.1.name = sd) /\ Sb h H /\
 stars [OneR A o s us l, LetB A x mk sd bd, TbS A] h /\
 ∀ H' h' us' l', Sb h' H' -> stars [OneR A o (ansS s sx sd bd) us' l', TbS A] h' -> Rel (ansS s sx sd bd) us' l' -> Fm H h H' h' -> Q .non H'
theorem ok_z22 (T : Txt K mg A) (B : Bse K mg base) : FnOk P w K mg base CX0 6 A.a_z22 A.d_z22 ["self", "letter"] (sp_z22 A) := by
 refine T.F_z22.ok qj6 ?_ ?_
 ·rintro _ _ _ _ ⟨o, x, mk, sd, bd, s, sx, us, l, h, rfl, _⟩
  rfl
 ·rintro cdv Ar outer s H _ Q E hr ⟨o, x, mk, sd, bd, s0, sx, us, l, h, rfl, hgood, hrel, gz, hsx, hfd, sb, hst, k⟩
  have nd := qj6.nd
  refine ⟨_, (qab (qap (qak (qae (pv 0) rfl) T.cl_Search T.me_z8 (ok_z8 T) hr.md T.b_z8 .nil pass0 (qaa (qae (pv 1) rfl) qad)))
   (qab (qaC (PW.pt (qhs (qar qbN (qae (pv 1) rfl) (qai rfl T.c_THE_VALUE) (nomark _)) (qfA (qbC (qae (qae (pv 0) rfl) rfl))))) (qab (qap (qak (pv 0) T.cl_One T.me_z29 (qkk T) hr.md T.b_z29 .nil pass0 (qaa (qa8 T.mk_Outcome (qj4 T) hr.md rfl T.mg_Outcome T.b_z44 .nil pass0 (qaa (qaB qad) (qaa (qae (pv 1) rfl) qad))) qad)))
   (qac qcD)) qao)
   (qab (qbW PassesOwn.never rfl (qaU (qae (pv 1) rfl)) (qaN (i := 2) nd rfl (Or.inl rfl)) (qac (qaC (qar qdA (qae (pv 2) rfl) (qae (pv 0) rfl) (nomark _)) (qac (qap (qak (qae (pv 0) rfl) T.cl_Search T.me_z17 (qkv T B) hr.md T.b_z17 .nil pass0 (qaa (pv 2) qad)))) qao)))
   (qac (qap (qas (pv 0) T.cl_One T.me_z75 (qg0 T) hr.md T.b_z75 .nil pass0)))))), ?_⟩
  have gx : GoodS s0.own sx := by
   obtain ⟨lid, _, g⟩ := hgood
   exact g.se sx hsx
  obtain ⟨b, p, sh, qa, ov, c0⟩ := qdU ((Sl.init sb hst).open0 (k := [_, _, _])) hsx
  obtain ⟨pl, cl, ps, eps, c1⟩ := qbx (c0.pull 6 rfl)
  have c2 := (((((((((((c1.pull 10 rfl).pull 4 rfl).pull 4 rfl).pull 4 rfl).pull 4 rfl).pull 10 rfl).pull 10 rfl).pull 10 rfl).pull 10 rfl).pull 10 rfl).pull 10 rfl)
  obtain ⟨dx, hx⟩ := c2.ob 1 rfl
  obtain ⟨dl, hl⟩ := c2.ob 6 rfl
  obtain ⟨h1, kx⟩ := c2.callX
  obtain ⟨fl, hqo⟩ := qcN kx.p
  obtain ⟨da, ha⟩ := hqo.up kx.sb
  refine ⟨_, rfl, o, A.C_One, dx, _, _, rfl, hx, T.cl_One, T.na_y27, lz 5, qa, da, _, rfl, ha, ln0, _, rfl, x, A.C_Letter, dl, _, _, rfl, hl, T.cl_Letter, T.na_y21, lz 2, qa, s0.own, sd, sx, h1, rfl, gx, hfd, kx.sb, kx.p, fun H1 h1' sb1 p1 fm1 => ?_⟩
  have c3 := kx.ret p1 sb1 fm1
  have gm : GoodS s0.own (mark sx sd 2) := qbH gx (by decide)
  obtain ⟨dx3, hx3⟩ := c3.ob 1 rfl
  obtain ⟨dl3, hl3⟩ := c3.ob 6 rfl
  obtain ⟨h3, ky⟩ := c3.callX
  obtain ⟨fl3, hqo3⟩ := qcN ky.p
  obtain ⟨da3, ha3⟩ := hqo3.up ky.sb
  refine ⟨_, rfl, x, A.C_Letter, dl3, _, _, rfl, hl3, T.cl_Letter, T.na_y17, lz 0, rfl, _, rfl, ?_⟩
  rw [show V.int 5 = iV 5 from rfl, qby]
  by_cases hnv : kindOf bd = 5 /\ sx.value = true
  ·obtain ⟨h5, hv⟩ := hnv
   rw [h5]
   refine iteT ⟨_, rfl, o, A.C_One, dx3, _, _, rfl, hx3, T.cl_One, T.na_y27, lz 5, qa, A.C_Search, da3, _, _, rfl, ha3, T.cl_Search, T.na_y35, lz 1, _, rfl, ?_⟩
   refine ite2 (fun _ => ?_) fun z => absurd hv z
   obtain ⟨v, rfl⟩ := kind5 h5
   have ek : ansS s0 sx sd (.value v) = close s0 (some v, []) := if_pos hv
   rw [ek] at k
   refine ⟨_, rfl, o, dx3, _, rfl, hx3, ln0, by decide, fun r hr => ?_⟩
   have c4 := c3.new (o := .lst []) hr
   obtain ⟨dl4, hl4⟩ := c4.ob 7 rfl
   refine ⟨_, rfl, x, A.C_Letter, dl4, _, _, rfl, hl4, T.cl_Letter, T.na_y16, lz 5, fun z dz nz ndz ne => ⟨z, dz, .ref r, .ref cl, rfl, qaf, fun H5 h5 sb5 p5 fm5 => ⟨rfl, ?_⟩⟩⟩
   have c5 := c4.made nz ndz ne p5 sb5 fm5
   have c6 := (((((((((c5.pull 12 rfl).pull 7 rfl).pull 7 rfl).pull 7 rfl).pull 7 rfl).pull 6 rfl).pull 6 rfl).pull 11 rfl)).imp0 (P' := ContR (.ref cl) (some v)) fun h q => ⟨cl, rfl, q⟩
   have c7 := c6.emp0 (R := FoundR A)
   have c8 := qdE (A := A) (r := (some v, [])) (y := z) (pl := r) (cv := .ref cl) (fs := []) rfl ((((((((((c7.pull 8 rfl).pull 8 rfl).pull 8 rfl).pull 8 rfl).pull 8 rfl).pull 6 rfl).pull 6 rfl).pull 8 rfl).pull 8 rfl))
   have c9 := qdF (((((((c8.pull 5 rfl).pull 1 rfl).pull 5 rfl).pull 5 rfl).pull 5 rfl).pull 5 rfl))
   obtain ⟨h6, kz⟩ := (Sl.fold0 (k := [_, _]) c9).callX
   refine ⟨o, z, (some v, []), s0, us, l, h6, rfl, kz.sb, kz.p, fun H7 h7 sb7 p7 fm7 => ?_⟩
   have c10 := Sl.fold0 (k := [_, _]) (kz.ret p7 sb7 fm7)
   obtain ⟨h', p', sb', fm⟩ := c10.fin
   exact k _ h' _ _ sb' p' (hrel.close _) fm
  ·refine qjH (fun h5 hC => ⟨_, rfl, o, A.C_One, dx3, _, _, rfl, hx3, T.cl_One, T.na_y27, lz 5, qa, A.C_Search, da3, _, _, rfl, ha3, T.cl_Search, T.na_y35, lz 1, _, rfl, ite2 (fun z => absurd ⟨by simpa using h5, z⟩ hnv) fun _ => hC⟩) (fun h5 hC => iteF hC) ?_
   refine ⟨_, rfl, x, A.C_Letter, dl3, _, _, rfl, hl3, T.cl_Letter, T.na_y20, lz 4, pl, rfl, ⟨_, SqL.of (c3.get 7 rfl)⟩, ?_⟩
   rw [qkT hnv] at k
   obtain ⟨hE, pE, sbE, c4⟩ := (c3.pull 9 rfl).name0
   have hEo : ∀ q ∈ ps, IsOb hE A.C_Someone nSomeone (vSomeone q.2) q.1 := (Sl.init (Sb.refl hE) pE).someOb 0 rfl
   have c5 := ((((((((((((c4.pull 8 rfl).pull 7 rfl).pull 7 rfl).pull 7 rfl).pull 7 rfl).pull 7 rfl).pull 6 rfl).pull 10 rfl).pull 8 rfl).pull 10 rfl).pull 10 rfl)).drop0.drop0
   have hpg := qfk gz
   refine qaY (K := K) (a := pl) (xs := refs ps) (fun i σ H' => (∃ v, σ = [some (.ref o), some (.ref x), v]) /\ Sl H h H' [SearR A qa (((peopleIn bd).take i).foldl (more s0.own) (mark sx sd 2)), TbS A, Is hE, Ob A.C_One nOne (vOne s0.own s0.now b p sh (.ref qa) ov) o, BucksR A b s0.own s0.buckets, PostR A p s0.own s0.chance s0.out us, ShelfR A sh l, OutcR A ov s0.result, Pt pl (.lst (refs ps))]) ⟨⟨none, rfl⟩, c5⟩ (fun i σ H' _ hh => SqL.of (hh.2.get 8 rfl)) ?_ ?_
   ·rintro i y σ H' hi ⟨⟨v, rfl⟩, c6⟩
    obtain ⟨q, hq, rfl⟩ := qa9 hi
    have hqi : (peopleIn bd)[i]? = some q.2 := by rw [<- eps, List.getElem?_map, hq]; rfl
    have hqo := hEo q (List.mem_of_getElem? hq)
    obtain ⟨dq, hqh⟩ := hqo.up (c6.isb 2 rfl)
    obtain ⟨dx6, hx6⟩ := c6.ob 3 rfl
    obtain ⟨g1, g2⟩ := hpg q.2 (List.mem_of_getElem? hqi)
    refine ⟨_, rfl, q.1, A.C_Someone, dq, _, _, rfl, hqh, T.cl_Someone, T.na_y40, lz 0, _, rfl, o, A.C_One, dx6, _, _, rfl, hx6, T.cl_One, T.na_y25, lz 0, rfl, _, rfl, ?_⟩
    rw [qcy]
    cases en : q.2.name != s0.own with
    | true =>
     refine iteT ?_
     have gi := (qbJ ((peopleIn bd).take i) _ gm fun c hc => hpg c (List.mem_of_mem_take hc)).1
     obtain ⟨h7, kz⟩ := (Sl.fold0 (k := [_, _]) c6).callX
     obtain ⟨h8, kw⟩ := c6.callX
     obtain ⟨fl6, hqo6⟩ := qcN kw.p
     obtain ⟨da6, ha6⟩ := hqo6.up kw.sb
     refine ⟨_, rfl, o, A.C_One, dx6, _, _, rfl, hx6, T.cl_One, T.na_y27, lz 5, qa, da6, _, rfl, ha6, ln0, _, rfl, qa, q.1, s0.own, q.2.name, q.2.at_, _, h7, rfl, gi, g1, g2, by simpa using en, someNA T ⟨dq, hqh⟩, (kz.is 0 rfl).noOb hqo, kz.sb, kz.p, fun H9 h9 sb9 p9 fm9 => ⟨⟨_, rfl⟩, ?_⟩⟩
     have c7 := (kz.ret p9 sb9 fm9).open0 (k := [_, _])
     rw [qbg hqi, List.foldl_append]
     exact c7
    | false =>
     refine iteF ⟨⟨_, rfl⟩, ?_⟩
     have em : ∀ z, more s0.own z q.2 = z := by
      intro z
      unfold more
      rw [if_pos (.inl (by simpa using en))]
     rw [qbg hqi, List.foldl_append, List.foldl_cons, List.foldl_nil, em]
     exact c6
   ·rintro σ H' ⟨⟨v, rfl⟩, c6⟩
    rw [qaj, <- List.length_map (f := Prod.snd) (as := ps), eps, List.take_length] at c6
    obtain ⟨m1, m2, m3⟩ := qbJ (peopleIn bd) _ gm hpg
    have c7 := qc4 (s := { s0 with search := some ((peopleIn bd).foldl (more s0.own) (mark sx sd 2)) }) rfl ((((((((((c6.pull 8 rfl).pull 3 rfl).pull 3 rfl).pull 8 rfl).pull 8 rfl).pull 8 rfl).pull 8 rfl).pull 8 rfl).pull 8 rfl))
    obtain ⟨h7, kz⟩ := c7.callX
    obtain ⟨b7, p7, sh7, qv7, ov7, c8⟩ := qaz c7
    obtain ⟨dx7, hx7⟩ := c8.ob 0 rfl
    refine ⟨_, rfl, o, dx7, _, rfl, hx7, ln0, o, { s0 with search := some ((peopleIn bd).foldl (more s0.own) (mark sx sd 2)) }, (peopleIn bd).foldl (more s0.own) (mark sx sd 2), us, l, h7, rfl, ⟨?_, ⟨hrel.op, hrel.ok, hrel.kp⟩, kz.sb, kz.p⟩, rfl, fun H8 h8 us8 l8 sb8 p8 rel8 kp8 fm8 => ?_⟩
    ·obtain ⟨lid, hl, g⟩ := hgood
     refine ⟨lid, hl, qbr g hsx m1 (by rw [m2]; exact qbM sx _ 2 (by decide)) fun f hf => ?_⟩
     obtain ⟨f', hf', e⟩ := qbS (n := sd) (k := 2) hf
     exact ⟨f', m3 f' hf', e⟩
    ·have c9 := Sl.fold0 (k := [_, _]) (kz.ret p8 sb8 fm8)
     obtain ⟨h', p', sb', fm⟩ := c9.fin
     exact k _ h' us8 l8 sb' p' rel8 fm
structure Lt (s : Abs) (sd ad : Nat) (bd : Body) : Prop where
 z : GoodZ bd
 sd : sd < 2 ^ 160
 ad : ad < 2 ^ 48
def OneT (A : Adr) (o : Addr) (H h : Hp) (Q : VK) (s' : Abs) (v : V) (tb : List As) : Prop := ∀ H' h' us' l', Sb h' H' -> stars (OneR A o s' us' l' :: tb) h' -> Rel s' us' l' -> Fm H h H' h' -> Q v H'
theorem Sl.endsT {H h H' : Hp} {r tb : List As} {o : Addr} {v : V} {s' : Abs} {us' : List (Addr × AskT)} {ks' : List Rc50.Kept} {Q : VK} (c : Sl H h H' ((OneR A o s' us' ks' :: tb) ++ r)) (e : Rel s' us' ks') (k : OneT A o H h Q s' v tb) : Q v H' := by
 obtain ⟨h', p', sb', fm⟩ := (Sl.fold0 c).fin
 exact k _ h' us' ks' sb' p' e fm
def gotT (s : Abs) (sd ad m : Nat) : Abs := { s with opens := s.opens.filter (fun x => x.mark != m), buckets := heard s.own s.buckets ⟨sd, ad, 0⟩ }
theorem qh1 {s : Abs} {us : List (Addr × AskT)} {l : List Rc50.Kept} (r : Rel s us l) {ad mk sd : Nat} {bd : Body} (ha : isAnswer bd = true) (h : ∀ q ∈ us, isAns q.2.o (kindOf bd) mk sd ad = false) : got s ad ⟨mk, sd, bd⟩ = s := by
 unfold got
 dsimp only
 rw [if_pos ha, <- r.op, qb6]
 have : (us.find? fun q => q.2.o.mark == mk && (q.2.o.to_.at_ == ad && (q.2.o.to_.name == sd && fits q.2.o.what bd))) = none := by
  rw [List.find?_eq_none]
  intro q hq
  have := h q hq
  unfold isAns at this
  rw [qk1, this]
  decide
 rw [this]
 rfl
theorem qh0 {s : Abs} {us : List (Addr × AskT)} {l : List Rc50.Kept} (r : Rel s us l) {ad mk sd j : Nat} {bd : Body} {q : Addr × AskT} (ha : isAnswer bd = true) (hj : us[j]? = some q) (h : isAns q.2.o (kindOf bd) mk sd ad = true) (hn : ∀ i, i < j -> ∀ r, us[i]? = some r -> isAns r.2.o (kindOf bd) mk sd ad = false) :
  got s ad ⟨mk, sd, bd⟩ = answered (gotT s sd ad q.2.o.mark) q.2.o bd := by
 unfold got
 dsimp only
 rw [if_pos ha, <- r.op, qb6]
 have : (us.find? fun q => q.2.o.mark == mk && (q.2.o.to_.at_ == ad && (q.2.o.to_.name == sd && fits q.2.o.what bd))) = some q := qcI (p := fun q : Addr × AskT => q.2.o.mark == mk && (q.2.o.to_.at_ == ad && (q.2.o.to_.name == sd && fits q.2.o.what bd))) hj h hn
 rw [this]
 unfold gotT
 rw [<- r.op]
 rfl
def sp_z18 (A : Adr) : Sp := fun vs H Q _ => ∃ (o x : Addr) (ad mk sd : Nat) (bd : Body) (s : Abs) (us : List (Addr × AskT)) (l : List Rc50.Kept) (h : Hp), vs = [.ref o, .ref x, iV ad] /\ (∃ lid, lid <= 90000 /\ Good lid s) /\ Rel s us l /\ Lt s sd ad bd /\ isAnswer bd = true /\ Sb h H /\
 stars [OneR A o s us l, LetB A x mk sd bd, TbS A] h /\ OneT A o H h Q (got s ad ⟨mk, sd, bd⟩) .non [TbS A]
theorem ok_z18 (T : Txt K mg A) (B : Bse K mg base) : FnOk P w K mg base CX0 7 A.a_z18 A.d_z18 ["self", "letter", "address"] (sp_z18 A) := by
 refine T.F_z18.ok qiQ ?_ ?_
 ·rintro _ _ _ _ ⟨o, x, ad, mk, sd, bd, s, us, l, h, rfl, _⟩
  rfl
 ·rintro cdv Ar outer s H _ Q E hr ⟨o, x, ad, mk, sd, bd, s0, us, l, h, rfl, hgood, hrel, lt, han, sb, hst, k⟩
  have nd := qiQ.nd
  refine ⟨_, (qab (qax (i := 3) nd rfl (Or.inl rfl) (qak (qae (pv 0) rfl) T.cl_Post T.me_z7 (ok_z7 T) hr.md T.b_z7 .nil pass0 (qaa (pv 1) (qaa (pv 2) qad))))
   (qab (qaC (qbf (qcf (pv 3))) (qac qcD) qao)
   (qab (qap (qak (qae (pv 0) rfl) T.cl_Buckets T.me_z38 (qhC T) hr.md T.b_z38 .nil pass0 (qaa (qae (pv 1) rfl) (qaa (pv 2) qad))))
   (qac (qaC (qbC (qae (pv 3) rfl)) (qac (qap (qak (pv 0) T.cl_One T.me_z22 (ok_z22 T B) hr.md T.b_z22 .nil pass0 (qaa (pv 1) qad)))) qao))))), ?_⟩
  obtain ⟨b, p, sh, qv, ov, c0⟩ := qaz ((Sl.init sb hst).open0 (k := [_, _, _]))
  obtain ⟨dx, hx⟩ := c0.ob 0 rfl
  obtain ⟨hL, pL, sbL, c1⟩ := (c0.pull 6 rfl).name0
  obtain ⟨pl, cl, hlo⟩ := qkp pL
  have hmarks : (s0.opens.map (·.mark)).Nodup := by
   obtain ⟨lid, h1, g⟩ := hgood
   exact g.ms.nodup (by omega)
  obtain ⟨h1, kx⟩ := (c1.pull 3 rfl).callX
  obtain ⟨ch, ol, ul, hpo, hul⟩ := qbm kx.p
  obtain ⟨dp, hp1⟩ := hpo.up kx.sb
  refine ⟨_, rfl, o, A.C_One, dx, _, _, rfl, hx, T.cl_One, T.na_y26, lz 3, p, dp, _, rfl, hp1, ln0, _, rfl, _, rfl, p, x, s0.own, s0.chance, kindOf bd, mk, sd, ad, _, _, _, s0.out, us, h1, rfl, hrel.ok, hlo.up sbL, kx.sb, kx.p, fun hno H1 h1' sb1 p1 fm1 => ?_, fun j q hj hq hjn H1 h1' sb1 p1 fm1 => ?_⟩
  ·refine ⟨_, rfl, _, rfl, ?_⟩
   rw [decide_eq_true rfl]
   refine iteT ?_
   rw [qh1 hrel han hno] at k
   have c2 := kx.ret p1 sb1 fm1
   exact (qaA (((((((((c2.pull 1 rfl).pull 7 rfl).pull 7 rfl).pull 7 rfl).pull 7 rfl).pull 5 rfl).pull 7 rfl).pull 7 rfl))).endsT (tb := [TbS A]) hrel k
  ·refine ⟨_, rfl, _, rfl, ?_⟩
   rw [decide_eq_false (by intro z; cases z)]
   refine iteF ?_
   rw [qh0 hrel han hj hq hjn] at k
   have c2 := (kx.ret p1 sb1 fm1).open0 (k := [_, _])
   obtain ⟨dx2, hx2⟩ := c2.ob 3 rfl
   obtain ⟨dl2, hl2⟩ := hlo.up (c2.isb 2 rfl)
   obtain ⟨h3, ky⟩ := (c2.pull 4 rfl).callX
   obtain ⟨rl, hbo⟩ := qbk ky.p
   obtain ⟨db, hb⟩ := hbo.up ky.sb
   have hbs : GoodBs s0.own s0.buckets := by
    obtain ⟨lid, h1, g⟩ := hgood
    exact g.bucks
   refine ⟨_, rfl, o, A.C_One, dx2, _, _, rfl, hx2, T.cl_One, T.na_y22, lz 2, b, db, _, rfl, hb, ln0, _, rfl, x, A.C_Letter, dl2, _, _, rfl, hl2, T.cl_Letter, T.na_y21, lz 2, _, rfl, b, s0.own, sd, ad, s0.buckets, h3, rfl, hbs, lt.sd, ky.sb, ky.p, fun H3 h3' sb3 p3 fm3 => ?_⟩
   have c3 := ky.ret p3 sb3 fm3
   have hrel3 : Rel (gotT s0 sd ad q.2.o.mark) (us.eraseIdx j) l := hrel.erase hmarks hj rfl rfl
   have c4 := qaA (s := gotT s0 sd ad q.2.o.mark) (us := us.eraseIdx j) ((((((((((c3.pull 2 rfl).pull 8 rfl).pull 4 rfl).pull 8 rfl).pull 8 rfl).pull 8 rfl).pull 7 rfl).pull 7 rfl).pull 8 rfl))
   obtain ⟨dq, hqo⟩ := c4.ob (C := A.C_Asked) (ns := nAsked) (vs := vAsked q.2) (a := q.1) 3 rfl
   have hoj := hrel.at_ hj
   refine ⟨_, rfl, q.1, A.C_Asked, dq, _, _, rfl, hqo, T.cl_Asked, T.na_y4, lz 5, _, rfl, ?_⟩
   by_cases hw : q.2.o.what = 1
   ·rw [decide_eq_true hw]
    refine iteT ?_
    obtain ⟨lid, hlid, g⟩ := hgood
    obtain ⟨sx, hsx, hfd⟩ := (g.op _ (List.mem_of_getElem? hoj)).se hw
    rw [qfm (sx := sx) hw (show (gotT s0 sd ad q.2.o.mark).search = some sx from hsx)] at k
    have esd : q.2.o.to_.name = sd := by
     unfold isAns at hq
     simp only [Bool.and_eq_true, beq_iff_eq] at hq
     exact hq.2.2.1
    rw [esd] at k hfd
    have c45 := (((((c4.pull 3 rfl).pull 3 rfl).pull 2 rfl).pull 3 rfl)).unIs (P := LetB A x mk sd bd) pL
    have c5 := ((((c45.pull 3 rfl).pull 3 rfl).pull 2 rfl).pull 3 rfl)
    obtain ⟨b5, p5, sh5, qv5, ov5, c6⟩ := qaz c5
    obtain ⟨dx6, hx6⟩ := c6.ob 0 rfl
    obtain ⟨h7, kz⟩ := (Sl.fold0 (k := [_, _, _]) c5).callX
    refine ⟨_, rfl, o, dx6, _, rfl, hx6, ln0, _, rfl, o, x, mk, sd, bd, gotT s0 sd ad q.2.o.mark, sx, us.eraseIdx j, l, h7, rfl, ⟨lid, hlid, qcM (qb7 g _) lt.sd lt.ad⟩, hrel3, lt.z, hsx, hfd, kz.sb, kz.p, fun H8 h8 us8 l8 sb8 p8 rel8 fm8 => ?_⟩
    exact ((kz.ret p8 sb8 fm8).open0 (k := [_, _])).endsT (tb := [TbS A]) rel8 k
   ·rw [decide_eq_false hw]
    refine iteF ?_
    have ea : answered (gotT s0 sd ad q.2.o.mark) q.2.o bd = gotT s0 sd ad q.2.o.mark := if_pos hw
    rw [ea] at k
    exact Sl.endsT (tb := [TbS A]) (((((c4.pull 3 rfl).pull 2 rfl).pull 3 rfl).pull 3 rfl)) hrel3 k
def replyTo (s : Abs) (bd : Body) : Body := match bd with
 | .ping => .pong
 | .store _ _ => .stored
 | .want k => (match kept s k with
  | some x => .value x.bytes
  | none => .nodes (nearest s.buckets k))
 | .find k => .nodes (nearest s.buckets k)
 | _ => .pong
def keptBy (s : Abs) (bd : Body) : Abs := match bd with
 | .store k b => keep s k b
 | _ => s
theorem qfP (s : Abs) (k : Nat) (b : Bytes) : keep s k b = { s with kept := (keep s k b).kept } := by
 unfold keep
 dsimp only
 split <;> rfl
theorem qem (s : Abs) (bd : Body) : keptBy s bd = { s with kept := (keptBy s bd).kept } := by
 cases bd with
 | store k b => exact qfP s k b
 | _ => rfl
theorem qkI (s : Abs) (B : List Bucket) (k : Nat) (b : Bytes) : keep { s with buckets := B } k b = { keep s k b with buckets := B } := by
 unfold keep
 dsimp only
 split <;> rfl
theorem qen (s : Abs) (ad m : Nat) (bd : Body) : put s ad ⟨m, s.own, bd⟩ = { s with out := putO s.out ad (written ⟨m, s.own, bd⟩) } := by
 unfold put putO
 rw [show CALM = 256 from rfl]
 split <;> rfl
theorem qlI {s : Abs} {ad mk sd : Nat} {bd : Body} (h : isAnswer bd = false) :
  got s ad ⟨mk, sd, bd⟩ = { s with kept := (keptBy s bd).kept, buckets := heard s.own s.buckets ⟨sd, ad, 0⟩, out := putO s.out ad (written ⟨mk, s.own, replyTo s bd⟩) } := by
 unfold got
 dsimp only
 rw [if_neg (by rw [h]; decide)]
 cases bd with
 | ping => exact qen { s with buckets := heard s.own s.buckets ⟨sd, ad, 0⟩ } ad mk .pong
 | find t => exact qen { s with buckets := heard s.own s.buckets ⟨sd, ad, 0⟩ } ad mk _
 | want t =>
  dsimp only
  unfold replyTo
  dsimp only
  cases kept s t with
  | none => exact qen { s with buckets := heard s.own s.buckets ⟨sd, ad, 0⟩ } ad mk _
  | some x => exact qen { s with buckets := heard s.own s.buckets ⟨sd, ad, 0⟩ } ad mk _
 | store t b =>
  dsimp only
  have e := qen (keep { s with buckets := heard s.own s.buckets ⟨sd, ad, 0⟩ } t b) ad mk .stored
  rw [qkI, qfP] at e ⊢
  exact e
 | pong => cases h
 | nodes l => simp [isAnswer, kindOf] at h
 | value v => simp [isAnswer, kindOf] at h
 | stored => cases h
end
theorem qhv (ps : List (Addr × Contact)) : shows ps = (ps.map Prod.snd).flatMap fun x => be 20 x.name ++ be 6 x.at_ := by unfold shows; rw [List.flatMap_map]
section
variable {P : Program} {w : World} {K : PySem.W.Frag} {mg : Str -> Option Value} {base : Heap} {A : Adr}
def sp_z34 (A : Adr) : Sp := fun vs H Q _ => ∃ (o x : Addr) (mk sd : Nat) (bd : Body) (s : Abs) (us : List (Addr × AskT)) (l : List Rc50.Kept) (h : Hp), vs = [.ref o, .ref x] /\ (∃ lid, lid <= 90000 /\ Good lid s) /\ Rel s us l /\ GoodZ bd /\ isAnswer bd = false /\ Sb h H /\
 stars [OneR A o s us l, LetB A x mk sd bd, TbN A] h /\
 ∀ H' h' l' p v1 v2 v3, Sb h' H' -> stars [OneR A o (keptBy s bd) us l', Ob A.C_Letter nLetter [iV (kindOf bd), iV mk, iV sd, v1, v2, v3] x, TbN A, Pt p (.lst ((written ⟨mk, s.own, replyTo s bd⟩).map iV))] h' -> l'.Perm (keptBy s bd).kept -> Fm H h H' h' -> Q (.ref p) H'
theorem ok_z34 (T : Txt K mg A) (B : Bse K mg base) : FnOk P w K mg base CX0 5 A.a_z34 A.d_z34 ["self", "letter"] (sp_z34 A) := by
 refine T.F_z34.ok qjp ?_ ?_
 ·rintro _ _ _ _ ⟨o, x, mk, sd, bd, s, us, l, h, rfl, _⟩
  rfl
 ·rintro cdv Ar outer s H _ Q E hr ⟨o, x, mk, sd, bd, s0, us, l, h, rfl, ⟨lid, hlid, g⟩, hrel, gz, han, sb, hst, k⟩
  have nd := qjp.nd
  refine ⟨_, (qab (qaC (qar qbN (qae (pv 1) rfl) (qai rfl T.c_ARE_YOU_THERE) (nomark _)) (qac (qag (qaw (qeX T) hr.md rfl T.mg_z35 T.F_z35.kp T.b_z35 .nil pass0 (qaa (qai rfl T.c_I_AM_HERE) (qaa (qae (pv 1) rfl) (qaa (qae (pv 0) rfl) (qaa (qaB qad) qad))))))) qao)
   (qab (qaC (qar qbN (qae (pv 1) rfl) (qai rfl T.c_KEEP_THIS) (nomark _)) (qab (qap (qak (qae (pv 0) rfl) T.cl_Shelf T.me_z68 (ok_z68 T) hr.md T.b_z68 .nil pass0 (qaa (qae (pv 1) rfl) (qaa (qae (pv 1) rfl) (qaa (qae (pv 0) rfl) qad)))))
   (qac (qag (qaw (qeX T) hr.md rfl T.mg_z35 T.F_z35.kp T.b_z35 .nil pass0 (qaa (qai rfl T.c_IT_IS_KEPT) (qaa (qae (pv 1) rfl) (qaa (qae (pv 0) rfl) (qaa (qaB qad) qad)))))))) qao)
   (qab (qax (i := 2) nd rfl (Or.inl rfl) (qak (qae (pv 0) rfl) T.cl_Shelf T.me_z15 (ok_z15 T) hr.md T.b_z15 .nil pass0 (qaa (qae (pv 1) rfl) qad)))
   (qab (qaC (PW.pt (qhs (qar qbN (qae (pv 1) rfl) (qai rfl T.c_VALUE_WANTED) (nomark _)) (qfA (qbf (qd0 (pv 2)))))) (qac (qag (qaw (qeX T) hr.md rfl T.mg_z35 T.F_z35.kp T.b_z35 .nil pass0 (qaa (qai rfl T.c_THE_VALUE) (qaa (qae (pv 1) rfl) (qaa (qae (pv 0) rfl) (qaa (qaw (qjM T) hr.md rfl T.mg_z27 T.F_z27.kp T.b_z27 .nil pass0 (qaa (pv 2) qad)) qad))))))) qao)
   (qab (qax (i := 3) nd rfl (Or.inl rfl) (qak (qae (pv 0) rfl) T.cl_Buckets T.me_z23 (qgK T B) hr.md T.b_z23 .nil pass0 (qaa (qae (pv 1) rfl) qad)))
   (qac (qag (qaw (qeX T) hr.md rfl T.mg_z35 T.F_z35.kp T.b_z35 .nil pass0 (qaa (qai rfl T.c_THESE_ARE) (qaa (qae (pv 1) rfl) (qaa (qae (pv 0) rfl) (qaa (qaw (ok_z37 T) hr.md rfl T.mg_z37 T.F_z37.kp T.b_z37 .nil pass0 (qaa (pv 3) qad)) qad)))))))))))), ?_⟩
  obtain ⟨b, p, sh, qv, ov, c0⟩ := qaz ((Sl.init sb hst).open0 (k := [_, _, _]))
  obtain ⟨pl, cl, ps, eps, c1⟩ := qbx (c0.pull 6 rfl)
  obtain ⟨dx, hx⟩ := c1.ob 4 rfl
  obtain ⟨dl, hl⟩ := c1.ob 0 rfl
  have hks : (l.map (·.key)).Nodup /\ l.length <= 128 := ⟨((hrel.kp.map _).nodup_iff).mpr g.kp.nd, by rw [hrel.kp.length_eq]; exact g.kp.le⟩
  refine ⟨_, rfl, x, A.C_Letter, dl, _, _, rfl, hl, T.cl_Letter, T.na_y17, lz 0, rfl, _, rfl, ?_⟩
  rw [show V.int 0 = iV 0 from rfl, qby]
  by_cases k0 : kindOf bd = 0
  ·rw [k0]
   refine iteT ?_
   obtain rfl : bd = .ping := by cases bd <;> first | rfl | cases k0
   refine ⟨_, rfl, x, A.C_Letter, dl, _, _, rfl, hl, T.cl_Letter, T.na_y18, lz 1, _, rfl, o, A.C_One, dx, _, _, rfl, hx, T.cl_One, T.na_y25, lz 0, by decide, fun r hr => ?_⟩
   refine ⟨1, mk, s0.own, r, [], rfl, qaf, by decide, fun H2 p2 s2 m2 l2 => ?_⟩
   have c2 := (c1.lay (o := .lst []) hr).same s2 m2 l2
   have c3 := qaA ((((((((((c2.pull 0 rfl).pull 11 rfl).pull 2 rfl).pull 11 rfl).pull 11 rfl).pull 11 rfl).pull 11 rfl).pull 11 rfl).pull 11 rfl))
   obtain ⟨h', p', sb', fm⟩ := (Sl.fold0 (k := [_, _, _, _]) c3).fin
   exact k _ h' l p2 _ _ _ sb' p' hrel.kp fm
  ·rw [beq_eq_false_iff_ne.mpr k0]
   refine iteF ?_
   refine ⟨_, rfl, x, A.C_Letter, dl, _, _, rfl, hl, T.cl_Letter, T.na_y17, lz 0, rfl, _, rfl, ?_⟩
   rw [show V.int 6 = iV 6 from rfl, qby]
   by_cases k6 : kindOf bd = 6
   ·rw [k6]
    refine iteT ?_
    obtain ⟨n, bs, rfl⟩ : ∃ n bs, bd = .store n bs := by
     cases bd with
     | store n bs => exact ⟨n, bs, rfl⟩
     | _ => cases k6
    obtain ⟨h1, kx⟩ := (Sl.fold0 (k := [_, _]) ((((((((((c1.pull 10 rfl).pull 10 rfl).pull 10 rfl).pull 9 rfl).pull 9 rfl).pull 9 rfl).pull 6 rfl).pull 8 rfl).pull 10 rfl))).callX
    obtain ⟨h2, ky⟩ := (c1.pull 7 rfl).callX
    obtain ⟨d, hso⟩ := qdO ky.p
    obtain ⟨ds, hs⟩ := hso.up ky.sb
    refine ⟨_, rfl, o, A.C_One, dx, _, _, rfl, hx, T.cl_One, T.na_y28, lz 4, sh, ds, _, rfl, hs, ln0, _, rfl, x, A.C_Letter, dl, _, _, rfl, hl, T.cl_Letter, T.na_y19, lz 3, _, rfl, x, A.C_Letter, dl, _, _, rfl, hl, T.cl_Letter, T.na_y16, lz 5, _, rfl, o, A.C_One, dx, _, _, rfl, hx, T.cl_One, T.na_y23, lz 1, sh, cl, n, s0.now, bs, l, h1, rfl, hks.1, hks.2, kx.sb, kx.p, fun H1 h1' sb1 p1 fm1 => ?_⟩
    have c2 := kx.ret p1 sb1 fm1
    obtain ⟨dx2, hx2⟩ := c2.ob 2 rfl
    obtain ⟨dl2, hl2⟩ := c2.ob 1 rfl
    refine ⟨_, rfl, x, A.C_Letter, dl2, _, _, rfl, hl2, T.cl_Letter, T.na_y18, lz 1, _, rfl, o, A.C_One, dx2, _, _, rfl, hx2, T.cl_One, T.na_y25, lz 0, by decide, fun r hr => ?_⟩
    refine ⟨7, mk, s0.own, r, [], rfl, qaf, by decide, fun H2 p2 s2 m2 l2 => ?_⟩
    have c3 := (c2.lay (o := .lst []) hr).same s2 m2 l2
    have c4 := qaA (s := { s0 with kept := (keep s0 n bs).kept }) ((((((((((c3.pull 0 rfl).pull 8 rfl).pull 3 rfl).pull 8 rfl).pull 8 rfl).pull 5 rfl).pull 8 rfl).pull 8 rfl).pull 8 rfl))
    obtain ⟨h', p', sb', fm⟩ := (Sl.fold0 (k := [_, _, _, _]) c4).fin
    refine k _ h' (keepL l ⟨n, bs, s0.now + 3600000⟩) p2 (iV n) (.ref pl) (.ref cl) sb' ?_ (qhg hrel.kp hks.1 hks.2) fm
    rw [qem]
    exact p'
   ·rw [beq_eq_false_iff_ne.mpr k6]
    refine iteF ?_
    obtain ⟨n, hbd⟩ : ∃ n, bd = .find n \/ bd = .want n := by
     cases bd with
     | find n => exact ⟨n, .inl rfl⟩
     | want n => exact ⟨n, .inr rfl⟩
     | ping => exact absurd rfl k0
     | store a b => exact absurd rfl k6
     | pong => exact absurd han (by decide)
     | nodes l => simp [isAnswer, kindOf] at han
     | value l => simp [isAnswer, kindOf] at han
     | stored => exact absurd han (by decide)
    have hnm : nameIn bd = n := by rcases hbd with rfl | rfl <;> rfl
    have hkb : keptBy s0 bd = s0 := by rcases hbd with rfl | rfl <;> rfl
    rw [hkb] at k
    rw [hnm] at hl c1
    obtain ⟨hS, pS, sbS, c2⟩ := (c1.pull 7 rfl).name0
    obtain ⟨d, hso⟩ := qdO pS
    obtain ⟨ds, hs⟩ := hso.up sbS
    have hfind : (l.find? fun x => x.key == n) = kept s0 n := qhp hrel.kp hks.1 n
    refine ⟨_, rfl, o, A.C_One, dx, _, _, rfl, hx, T.cl_One, T.na_y28, lz 4, sh, ds, _, rfl, hs, ln0, _, rfl, x, A.C_Letter, dl, _, _, rfl, hl, T.cl_Letter, T.na_y19, lz 3, sh, n, l, hS, rfl, sbS, pS, fun v hv => ?_⟩
    refine ⟨_, rfl, x, A.C_Letter, dl, _, _, rfl, hl, T.cl_Letter, T.na_y17, lz 0, rfl, _, rfl, ?_⟩
    rw [show V.int 4 = iV 4 from rfl, qby]
    by_cases hcase : kindOf bd = 4 /\ v ≠ .non
    ·obtain ⟨k4, hvn⟩ := hcase
     rw [k4]
     refine iteT ⟨_, rfl, _, rfl, ?_⟩
     rw [decide_eq_false hvn]
     refine iteT ?_
     rcases hv with ⟨_, z⟩ | ⟨kx, cb, hf, rfl, hcb⟩
     ·exact absurd z hvn
     obtain rfl : bd = .want n := by
      rcases hbd with rfl | rfl
      ·cases k4
      ·rfl
     have hkp : kept s0 n = some kx := by rw [<- hfind]; exact hf
     have hkl : kx.bytes.length <= 512 := (g.kp.ea kx (List.mem_of_find?_eq_some hkp)).1
     have er : replyTo s0 (.want n) = .value kx.bytes := by unfold replyTo; dsimp only; rw [hkp]
     rw [er] at k
     refine ⟨_, rfl, x, A.C_Letter, dl, _, _, rfl, hl, T.cl_Letter, T.na_y18, lz 1, _, rfl, o, A.C_One, dx, _, _, rfl, hx, T.cl_One, T.na_y25, lz 0, _, rfl, cb, kx.bytes, rfl, sbS _ _ hcb, by omega, fun H2 p2 s2 m2 l2 => ?_⟩
     refine ⟨5, mk, s0.own, p2, _, rfl, l2, by rw [List.length_append, qam]; omega, fun H3 p3 s3 m3 l3 => ?_⟩
     have c3 := (c2.keep s2).same s3 m3 l3
     have c4 := ((((((((((c3.pull 0 rfl).pull 11 rfl).pull 3 rfl).pull 11 rfl).pull 11 rfl).pull 11 rfl).pull 11 rfl).pull 11 rfl).pull 8 rfl)).unIs (P := ShelfR A sh l) pS
     have c5 := qaA ((((((((((c4.pull 8 rfl).pull 8 rfl).pull 8 rfl).pull 8 rfl).pull 8 rfl).pull 5 rfl).pull 8 rfl).pull 8 rfl).pull 8 rfl))
     obtain ⟨h', p', sb', fm⟩ := (Sl.fold0 (k := [_, _, _, _]) c5).fin
     exact k _ h' l p3 _ _ _ sb' p' hrel.kp fm
    ·have er : replyTo s0 bd = .nodes (nearest s0.buckets n) := by
      rcases hbd with rfl | rfl
      ·rfl
      ·rcases hv with ⟨hf, _⟩ | ⟨kx, cb, _, rfl, _⟩
       ·unfold replyTo; dsimp only; rw [<- hfind, hf]
       ·exact absurd ⟨rfl, by intro z; cases z⟩ hcase
     rw [er] at k
     refine qjH (fun k4 hC => ⟨_, rfl, _, rfl, by
      have e4 : v = .non := Classical.byContradiction fun z => hcase ⟨by simpa using k4, z⟩
      rw [decide_eq_true e4]
      exact iteF hC⟩) (fun _ hC => iteF hC) ?_
     obtain ⟨hB, pB, sbB, c3⟩ := (((((((((c2.pull 9 rfl).pull 9 rfl).pull 9 rfl).pull 8 rfl).pull 5 rfl).pull 5 rfl).pull 10 rfl).pull 10 rfl)).name0
     obtain ⟨rl, hbo⟩ := qbk pB
     obtain ⟨db, hb⟩ := hbo.up sbB
     obtain ⟨h4, ky⟩ := (Sl.fold0 (k := [_, _]) c3).callX
     refine ⟨_, rfl, o, A.C_One, dx, _, _, rfl, hx, T.cl_One, T.na_y22, lz 2, b, db, _, rfl, hb, ln0, _, rfl, x, A.C_Letter, dl, _, _, rfl, hl, T.cl_Letter, T.na_y19, lz 3, b, s0.own, n, s0.buckets, hB, h4, rfl, g.bucks, pB, ky.sb, ky.p, fun H5 h5 pp pps sb5 p5 hnr hob fm5 => ?_⟩
     have c4 := (ky.ret p5 sb5 fm5).open0 (k := [_, _, _])
     obtain ⟨dx4, hx4⟩ := c4.ob 5 rfl
     obtain ⟨dl4, hl4⟩ := c4.ob 4 rfl
     have hpl : pps.length = (nearest s0.buckets n).length := by rw [<- hnr, List.length_map]
     have hp8 := qa0 s0.buckets n
     have sB4 := c4.isb 0 rfl
     refine ⟨_, rfl, x, A.C_Letter, dl4, _, _, rfl, hl4, T.cl_Letter, T.na_y18, lz 1, _, rfl, o, A.C_One, dx4, _, _, rfl, hx4, T.cl_One, T.na_y25, lz 0, _, rfl, pp, pps, rfl, c4.get 2 rfl, by omega, fun q hq => someNA T ((hob q hq).up sB4), fun H6 p6 s6 m6 l6 => ?_⟩
     refine ⟨3, mk, s0.own, p6, _, rfl, l6, by rw [List.length_cons, qe3]; omega, fun H7 p7 s7 m7 l7 => ?_⟩
     have c5 := (c4.keep s6).same s7 m7 l7
     have c6 := ((((((((((c5.pull 0 rfl).pull 2 rfl).pull 5 rfl).pull 9 rfl).pull 9 rfl).pull 9 rfl).pull 9 rfl).pull 7 rfl).pull 9 rfl)).unIs (P := ShelfR A sh l) pS
     have c7 := ((((((((((c6.pull 8 rfl).pull 8 rfl).pull 8 rfl).pull 8 rfl).pull 8 rfl).pull 8 rfl).pull 8 rfl).pull 7 rfl).pull 8 rfl)).unIs (P := BucksR A b s0.own s0.buckets) pB
     have c8 := qaA ((((((((((c7.pull 8 rfl).pull 8 rfl).pull 8 rfl).pull 8 rfl).pull 8 rfl).pull 6 rfl).pull 8 rfl).pull 7 rfl).pull 8 rfl))
     rw [qhv, hnr, hpl] at c8
     obtain ⟨h', p', sb', fm⟩ := (Sl.fold0 (k := [_, _, _, _]) c8).fin
     exact k _ h' l p7 _ _ _ sb' p' hrel.kp fm
def sp_z13 (A : Adr) : Sp := fun vs H Q _ => ∃ (o x : Addr) (ad mk sd : Nat) (bd : Body) (s : Abs) (us : List (Addr × AskT)) (l : List Rc50.Kept) (h : Hp), vs = [.ref o, .ref x, iV ad] /\ (∃ lid, lid <= 90000 /\ Good lid s) /\ Rel s us l /\ Lt s sd ad bd /\ isAnswer bd = false /\ Sb h H /\
 stars [OneR A o s us l, LetB A x mk sd bd, TbN A] h /\ OneT A o H h Q (got s ad ⟨mk, sd, bd⟩) .non [TbN A]
theorem ok_z13 (T : Txt K mg A) (B : Bse K mg base) : FnOk P w K mg base CX0 6 A.a_z13 A.d_z13 ["self", "letter", "address"] (sp_z13 A) := by
 refine T.F_z13.ok qjs ?_ ?_
 ·rintro _ _ _ _ ⟨o, x, ad, mk, sd, bd, s, us, l, h, rfl, _⟩
  rfl
 ·rintro cdv Ar outer s H _ Q E hr ⟨o, x, ad, mk, sd, bd, s0, us, l, h, rfl, hgood, hrel, lt, han, sb, hst, k⟩
  have nd := qjs.nd
  refine ⟨_, (qab (qax (i := 3) nd rfl (Or.inl rfl) (qak (pv 0) T.cl_One T.me_z34 (ok_z34 T B) hr.md T.b_z34 .nil pass0 (qaa (pv 1) qad)))
   (qab (qap (qak (qae (pv 0) rfl) T.cl_Buckets T.me_z38 (qhC T) hr.md T.b_z38 .nil pass0 (qaa (qae (pv 1) rfl) (qaa (pv 2) qad))))
   (qac (qap (qak (qae (pv 0) rfl) T.cl_Post T.me_z93 (qjz T) hr.md T.b_z93 .nil pass0 (qaa (pv 2) (qaa (pv 3) qad))))))), ?_⟩
  obtain ⟨b, p, sh, qv, ov, c0⟩ := qaz ((Sl.init sb hst).open0 (k := [_, _, _]))
  obtain ⟨dx, hx⟩ := c0.ob 0 rfl
  refine ⟨_, rfl, o, dx, _, rfl, hx, ln0, _, rfl, o, x, mk, sd, bd, s0, us, l, h, rfl, hgood, hrel, lt.z, han, sb, hst, fun H1 h1 l1 r v1 v2 v3 sb1 p1 hp1 fm1 => ?_⟩
  have c1 : Sl H h H1 [stars [OneR A o (keptBy s0 bd) us l1, Ob A.C_Letter nLetter [iV (kindOf bd), iV mk, iV sd, v1, v2, v3] x, TbN A, Pt r (.lst ((written ⟨mk, s0.own, replyTo s0 bd⟩).map iV))]] := ⟨h1, sb1, qa5.mpr p1, fm1⟩
  rw [qlI han] at k
  rw [qem] at c1
  obtain ⟨b, p, sh, qv, ov, c2⟩ := qaz (c1.open0 (k := [_, _, _, _]))
  obtain ⟨dx2, hx2⟩ := c2.ob 0 rfl
  obtain ⟨dl, hl⟩ := c2.ob 6 rfl
  obtain ⟨lid, hlid, g⟩ := hgood
  obtain ⟨h2, kx⟩ := (c2.pull 1 rfl).callX
  obtain ⟨rl, hbo⟩ := qbk kx.p
  obtain ⟨db, hb⟩ := hbo.up kx.sb
  refine ⟨_, rfl, o, A.C_One, dx2, _, _, rfl, hx2, T.cl_One, T.na_y22, lz 2, b, db, _, rfl, hb, ln0, _, rfl, x, A.C_Letter, dl, _, _, rfl, hl, T.cl_Letter, T.na_y21, lz 2, _, rfl, b, s0.own, sd, ad, s0.buckets, h2, rfl, g.bucks, lt.sd, kx.sb, kx.p, fun H3 h3 sb3 p3 fm3 => ?_⟩
  have c3 := kx.ret p3 sb3 fm3
  obtain ⟨dx3, hx3⟩ := c3.ob 1 rfl
  have c4 := (((((((((c3.pull 6 rfl).pull 7 rfl).pull 7 rfl).pull 7 rfl).pull 7 rfl).pull 5 rfl).pull 6 rfl).pull 8 rfl).pull 8 rfl)
  obtain ⟨h5, ky⟩ := (Sl.fold0 (k := [_, _]) c4).callX
  obtain ⟨h6, kz⟩ := c4.callX
  obtain ⟨ch, ol, ul, hpo, hul⟩ := qbm kz.p
  obtain ⟨dp, hpp⟩ := hpo.up kz.sb
  refine ⟨_, rfl, o, A.C_One, dx3, _, _, rfl, hx3, T.cl_One, T.na_y26, lz 3, p, dp, _, rfl, hpp, ln0, _, rfl, _, rfl, p, r, ad, s0.own, s0.chance, _, s0.out, us, h5, rfl, g.ou.le, ky.sb, ky.p, fun H7 h7 sb7 p7 fm7 => ?_⟩
  have c5 := ky.ret p7 sb7 fm7
  have c6 := qaA (s := { s0 with kept := (keptBy s0 bd).kept, buckets := heard s0.own s0.buckets ⟨sd, ad, 0⟩, out := putO s0.out ad (written ⟨mk, s0.own, replyTo s0 bd⟩) }) (((((((((c5.pull 7 rfl).pull 7 rfl).pull 7 rfl).pull 7 rfl).pull 7 rfl).pull 5 rfl).pull 7 rfl).pull 7 rfl))
  exact c6.endsT (tb := [TbN A]) ⟨hrel.op, hrel.ok, hp1⟩ k
end
theorem qgj {lid t : Nat} {s : Abs} {vb : Bool} (g : Good lid s) (hn : s.search = none) (ht : t < 2 ^ 160) : Good (lid + 64) { s with search := some ⟨t, vb, (nearest s.buckets t).map fresh⟩, result := none } := by
 have hmem : ∀ c ∈ nearest s.buckets t, GoodC s.own c := by
  intro c hc
  obtain ⟨b, hb, hk⟩ := qbP hc
  exact g.known hb hk
 have hlen := qa0 s.buckets t
 refine ⟨g.own, g.bl, g.bs, ?_, ?_, g.kp, ?_, (by intro r q; cases q), g.ou⟩
 ·intro o ho
  have := g.op o ho
  refine ⟨this.nm, this.ad, this.sl, this.ne, this.si, this.wh, fun e => ?_⟩
  obtain ⟨x, ex, _⟩ := this.se e
  rw [hn] at ex
  cases ex
 ·obtain ⟨sd, k, js, h1, h2, h3, h4, h5⟩ := g.ms
  refine ⟨sd, k, js, h1, h2, h3, h4, ?_⟩
  have : ∀ x : Search, slots (some x) <= 64 := fun x => Nat.sub_le _ _
  have := this ⟨t, vb, (nearest s.buckets t).map fresh⟩
  rw [hn] at h5
  have h6 : slots none = 0 := rfl
  show k + slots (some _) <= _
  omega
 ·intro x ex
  cases ex
  refine ⟨ht, ?_, ?_, ?_⟩
  ·show (List.map _ _).length <= 64
   rw [List.length_map]
   omega
  ·show (List.map _ _).Pairwise _
   rw [List.pairwise_map]
   exact g.nearest_lt t
  ·intro f hf
   obtain ⟨c, hc, rfl⟩ := List.mem_map.mp hf
   have := hmem c hc
   exact ⟨this.nm, this.ad, rfl, this.ne, Nat.zero_le _⟩
theorem ask_k : ∀ k : Nat, k < 8 -> inV (iV k) [.int 0, .int 2, .int 4, .int 6] = !(k % 2 == 1)
 | 0, _ => rfl
 | 1, _ => rfl
 | 2, _ => rfl
 | 3, _ => rfl
 | 4, _ => rfl
 | 5, _ => rfl
 | 6, _ => rfl
 | 7, _ => rfl
 | n + 8, h => by omega
theorem qit (bd : Body) : inV (iV (kindOf bd)) [.int 0, .int 2, .int 4, .int 6] = !isAnswer bd := ask_k _ (by cases bd <;> simp [kindOf])
section
variable {P : Program} {w : World} {K : PySem.W.Frag} {mg : Str -> Option Value} {base : Heap} {A : Adr}
theorem Sl.fresh {H0 h0 H H' h' : Hp} {l : List As} {Q : As} (c : Sl H0 h0 H l) (p : Q h') (s : Sb h' H') (f : Fm H emp H' h') : Sl H0 h0 H' (Q :: l) := by
 obtain ⟨h1, p1, sb1, kc⟩ := (c.emp1 (P := fun h => h = emp) rfl).call0
 cases (show h1 = emp from p1)
 exact kc p s f
def sp_z91 (A : Adr) : Sp := fun vs H Q _ => ∃ (o ol : Addr) (ad : Nat) (bs : Bytes) (s : Abs) (us : List (Addr × AskT)) (l : List Rc50.Kept) (h : Hp), vs = [.ref o, iV ad, .ref ol] /\ IsL H ol bs /\ (∀ y ∈ bs, y < 256) /\ bs.length <= 1024 /\ (∃ lid, lid <= 90000 /\ Good lid s) /\ Rel s us l /\ Sb h H /\
 stars [OneR A o s us l, TbN A, TbS A] h /\ OneT A o H h Q (does s (.come ad bs bs.length)).1 (.int (does s (.come ad bs bs.length)).2.value) [TbN A, TbS A]
theorem ok_z91 (T : Txt K mg A) (B : Bse K mg base) : FnOk P w K mg base CX0 8 A.a_z91 A.d_z91 ["self", "address", "octets"] (sp_z91 A) := by
 refine T.F_z91.ok qjC ?_ ?_
 ·rintro _ _ _ _ ⟨o, ol, ad, bs, s, us, l, h, rfl, _⟩
  rfl
 ·rintro cdv Ar outer s H _ Q E hr ⟨o, ol, ad, bs, s0, us, l, h, rfl, hol, hby, hbl, hgood, hrel, sb, hst, k⟩
  have nd := qjC.nd
  refine ⟨_, (qab (qaC (PW.pt (qck (qar qdP (qav qah (by rfl) T.n_len PySem.boot_len (qaa (pv 2) qad)) qan (nomark _)) (qck (qar qeP (qav qah (by rfl) T.n_len PySem.boot_len (qaa (pv 2) qad)) (qai rfl T.c_LONGEST_LETTER) (nomark _)) (qbI (qar qea (pv 1) (qai rfl T.c_ADDRESSES) (nomark _)))))) (qac (qag (qbX qbi qan))) qao)
   (qab (qax (i := 3) nd rfl (Or.inl rfl) (qaw (ok_z53 T) hr.md rfl T.mg_z53 T.F_z53.kp T.b_z53 .nil pass0 (qaa (pv 2) qad)))
   (qab (qaC (PW.pt (qck (qbf (qcf (pv 3))) (qbI (qar qbN (qae (pv 3) rfl) (qae (pv 0) rfl) (nomark _))))) (qac (qag qan)) qao)
   (qab (qaC (qar qeD (qae (pv 3) rfl) (qdm rfl T.g_ASKING_KINDS) (by with_unfolding_all rfl)) (qac (qap (qak (pv 0) T.cl_One T.me_z13 (ok_z13 T B) hr.md T.b_z13 .nil pass0 (qaa (pv 3) (qaa (pv 1) qad))))) (qac (qap (qak (pv 0) T.cl_One T.me_z18 (ok_z18 T B) hr.md T.b_z18 .nil pass0 (qaa (pv 3) (qaa (pv 1) qad))))))
   (qac (qag qan)))))), ?_⟩
  have no : (((bs.length : Nat) : Int) < 1 \/ 1024 < ((bs.length : Nat) : Int) \/ 2 ^ 48 <= ad) -> Q (.int (-1)) H := by
   intro z
   have e : does s0 (.come ad bs bs.length) = (s0, refused) := if_pos z
   rw [e] at k
   exact k H h us l sb hst hrel (Fm.refl _ _)
  refine ⟨_, rfl, ol, _, rfl, .inl (SqL.of hol), _, _, rfl, rfl, _, rfl, ?_⟩
  rw [lenI]
  refine ite2 (fun hc => iteT ⟨_, rfl, no (.inl (of_decide_eq_true hc))⟩) fun hc => ?_
  refine ⟨_, rfl, ol, _, rfl, .inl (SqL.of hol), _, _, rfl, rfl, _, rfl, ?_⟩
  rw [lenI]
  refine ite2 (fun hd => iteT ⟨_, rfl, no (.inr (.inl (of_decide_eq_true hd)))⟩) fun hd => ?_
  refine ⟨_, rfl, _, _, rfl, rfl, _, rfl, ?_⟩
  refine ite2 (fun he => ⟨_, rfl, no (.inr (.inr (by have := of_decide_eq_true he; omega)))⟩) fun he => ?_
  have h48 : ¬ 2 ^ 48 <= ad := fun z => he (decide_eq_true (by omega))
  have hin : ¬ (((bs.length : Nat) : Int) < 1 \/ 1024 < ((bs.length : Nat) : Int) \/ 2 ^ 48 <= ad) := by
   rintro (z | z | z)
   ·exact hc (decide_eq_true z)
   ·exact hd (decide_eq_true z)
   ·exact h48 z
  have c0 := (Sl.init sb hst).open0 (k := [_, _, _])
  refine ⟨_, rfl, ol, bs, rfl, hol, by omega, fun hno H1 s1 => ?_, fun lt hlt H1 x h1 sb1 p1 fm1 => ?_⟩
  ·have e : does s0 (.come ad bs bs.length) = (s0, { value := 0 }) := by dsimp only [does]; rw [if_neg hin, hno]
   rw [e] at k
   refine ⟨_, rfl, _, rfl, ?_⟩
   rw [decide_eq_true rfl]
   refine iteT (iteT ?_)
   exact (c0.keep s1).endsT (tb := [TbN A, TbS A]) hrel k
  ·have c1 := c0.fresh p1 sb1 fm1
   have e : does s0 (.come ad bs bs.length) = if lt.sender = s0.own then (s0, { value := 0 }) else (got s0 ad lt, { value := 1 }) := by dsimp only [does]; rw [if_neg hin, hlt]
   rw [e] at k
   obtain ⟨b, p, sh, qv, ov, c2⟩ := qaz (c1.pull 1 rfl)
   obtain ⟨dx, hx⟩ := c2.ob 0 rfl
   obtain ⟨hL, kL⟩ := c1.callX
   obtain ⟨pl, cl, hlo⟩ := qkp kL.p
   obtain ⟨dl, hl⟩ := hlo.up kL.sb
   refine ⟨_, rfl, _, rfl, ?_⟩
   rw [decide_eq_false (by intro z; cases z)]
   refine iteF ?_
   refine ⟨_, rfl, x, A.C_Letter, dl, _, _, rfl, hl, T.cl_Letter, T.na_y21, lz 2, _, rfl, o, A.C_One, dx, _, _, rfl, hx, T.cl_One, T.na_y25, lz 0, rfl, _, rfl, ?_⟩
   rw [qby]
   by_cases hso : lt.sender = s0.own
   ·rw [beq_iff_eq.mpr hso]
    refine iteT ?_
    rw [if_pos hso] at k
    exact Sl.endsT (tb := [TbN A, TbS A]) (((((c1.pull 0 rfl).pull 3 rfl).pull 3 rfl).pull 3 rfl)) hrel k
   ·rw [beq_eq_false_iff_ne.mpr hso]
    refine iteF ?_
    rw [if_neg hso] at k
    obtain ⟨g1, g2, g3⟩ := qdr hby hlt
    have lt' : Lt s0 lt.sender ad lt.body := ⟨g3, g1, by omega⟩
    refine ⟨_, rfl, x, A.C_Letter, dl, _, _, rfl, hl, T.cl_Letter, T.na_y17, lz 0, A.g_ASKING_KINDS, _, rfl, .inr (T.u_ASKING_KINDS _), rfl, rfl, _, rfl, ?_⟩
    rw [qit]
    cases ha : isAnswer lt.body with
    | false =>
     refine iteT ?_
     obtain ⟨h3, ky⟩ := (Sl.fold0 (k := [_, _, _]) (((((c1.pull 3 rfl).pull 3 rfl).pull 2 rfl).pull 3 rfl))).callX
     refine ⟨_, rfl, o, dx, _, rfl, hx, ln0, _, rfl, _, rfl, o, x, ad, lt.mark, lt.sender, lt.body, s0, us, l, h3, rfl, hgood, hrel, lt', ha, ky.sb, ky.p, fun H4 h4 us4 l4 sb4 p4 rel4 fm4 => ?_⟩
     exact ((ky.ret p4 sb4 fm4).open0 (k := [_, _])).endsT (tb := [TbN A, TbS A]) rel4 k
    | true =>
     refine iteF ?_
     obtain ⟨h3, ky⟩ := (Sl.fold0 (k := [_, _, _]) (((((c1.pull 2 rfl).pull 3 rfl).pull 2 rfl).pull 3 rfl))).callX
     refine ⟨_, rfl, o, dx, _, rfl, hx, ln0, _, rfl, _, rfl, o, x, ad, lt.mark, lt.sender, lt.body, s0, us, l, h3, rfl, hgood, hrel, lt', ha, ky.sb, ky.p, fun H4 h4 us4 l4 sb4 p4 rel4 fm4 => ?_⟩
     have c5 := (ky.ret p4 sb4 fm4).open0 (k := [_, _])
     exact Sl.endsT (tb := [TbN A, TbS A]) ((((c5.pull 1 rfl).pull 2 rfl).pull 2 rfl)) rel4 k
def sp_z59 (A : Adr) : Sp := fun vs H Q _ => ∃ (o : Addr) (nm : Bytes) (v : Int) (s : Abs) (us : List (Addr × AskT)) (l : List Rc50.Kept) (h : Hp), vs = [.ref o, iV (num nm), .int v] /\ num nm < 2 ^ 160 /\ (∃ lid, lid <= 80000 /\ Good lid s) /\ Rel s us l /\ Sb h H /\
 stars [OneR A o s us l, TbN A, TbS A] h /\ OneT A o H h Q (does s (.search nm v)).1 (.int (does s (.search nm v)).2.value) [TbN A, TbS A]
theorem ok_z59 (T : Txt K mg A) (B : Bse K mg base) : FnOk P w K mg base CX0 6 A.a_z59 A.d_z59 ["self", "name", "value"] (sp_z59 A) := by
 refine T.F_z59.ok qjG ?_ ?_
 ·rintro _ _ _ _ ⟨o, nm, v, s, us, l, h, rfl, _⟩
  rfl
 ·rintro cdv Ar outer s H _ Q E hr ⟨o, nm, v, s0, us, l, h, rfl, hn, ⟨lid, hlid, g⟩, hrel, sb, hst, k⟩
  have nd := qjG.nd
  refine ⟨_, (qab (qaC (PW.pt (qck (qbf (qd0 (qae (pv 0) rfl))) (qbI (qbC (qas (pv 0) T.cl_One T.me_z14 (qhu T) hr.md T.b_z14 .nil pass0))))) (qac (qag (qbX qbi qan))) qao)
   (qab (qax (i := 3) nd rfl (Or.inl rfl) (qak (qae (pv 0) rfl) T.cl_Buckets T.me_z23 (qgK T B) hr.md T.b_z23 .nil pass0 (qaa (pv 1) qad)))
   (qab (qaC (qar qbN (qav qah (by rfl) T.n_len PySem.boot_len (qaa (pv 3) qad)) qan (nomark _)) (qac (qag (qbX qbi qan))) qao)
   (qab (qau (pv 0) qbt rfl)
   (qab (qau (pv 0) (qa8 T.mk_Search (ok_z47 T B) hr.md rfl T.mg_Search T.b_z47 .nil pass0 (qaa (pv 1) (qaa (qbs qdA (pv 2) qan (nomark _)) (qaa (pv 3) qad)))) rfl)
   (qab (qap (qas (pv 0) T.cl_One T.me_z75 (qg0 T) hr.md T.b_z75 .nil pass0))
   (qac (qag qan)))))))), ?_⟩
  have c0 := (Sl.init sb hst).open0 (k := [_, _, _])
  have stay : ∀ {z : Int}, does s0 (.search nm v) = (s0, { value := z }) -> Q (.int z) H := by
   intro z e
   rw [e] at k
   exact k H h us l sb hst hrel (Fm.refl _ _)
  obtain ⟨b, p, sh, qv, ov, c1⟩ := qaz c0
  obtain ⟨dx, hx⟩ := c1.ob 0 rfl
  obtain ⟨hO, kO⟩ := c0.callX
  refine ⟨_, rfl, o, A.C_One, dx, _, _, rfl, hx, T.cl_One, T.na_y27, lz 5, _, rfl, ?_⟩
  cases hse : s0.search with
  | some x =>
   rw [hse] at c1
   obtain ⟨qa, rfl, _⟩ := qdH (c1.pull 4 rfl)
   show if (!decide (V.ref qa = V.non)) = true then _ else _
   rw [decide_eq_false (by intro z; cases z)]
   refine iteT (iteT ⟨_, rfl, stay (if_pos (.inl (by rw [hse]; rfl)))⟩)
  | none =>
   rw [hse] at c1
   obtain ⟨rfl, c2⟩ := qgs (c1.pull 4 rfl)
   show if (!decide (V.non = V.non)) = true then _ else _
   rw [decide_eq_true rfl]
   refine iteF ?_
   refine ⟨_, rfl, o, dx, _, rfl, hx, ln0, o, s0, us, l, hO, rfl, kO.sb, kO.p, _, rfl, ?_⟩
   rw [hrel.len]
   by_cases h64 : 64 <= s0.opens.length
   ·rw [decide_eq_true h64]
    exact iteT ⟨_, rfl, stay (if_pos (.inr h64))⟩
   rw [decide_eq_false h64]
   refine iteF ?_
   have hgo : ¬ (s0.search.isSome = true \/ 64 <= s0.opens.length) := by
    rintro (z | z)
    ·rw [hse] at z; cases z
    ·exact h64 z
   obtain ⟨hB, pB, sbB, c3⟩ := ((((((((c2.pull 6 rfl).pull 5 rfl).pull 5 rfl).pull 5 rfl).pull 4 rfl).pull 6 rfl).pull 6 rfl)).name0
   obtain ⟨rl, hbo⟩ := qbk pB
   obtain ⟨db, hb⟩ := hbo.up sbB
   obtain ⟨h4, ky⟩ := (Sl.fold0 (k := [_, _]) c3).callX
   refine ⟨_, rfl, o, A.C_One, dx, _, _, rfl, hx, T.cl_One, T.na_y22, lz 2, b, db, _, rfl, hb, ln0, _, rfl, b, s0.own, num nm, s0.buckets, hB, h4, rfl, g.bucks, pB, ky.sb, ky.p, fun H5 h5 np ps sb5 p5 hnr hob fm5 => ?_⟩
   have c4 := (ky.ret p5 sb5 fm5).open0 (k := [_, _, _])
   have hpl : ps.length = (nearest s0.buckets (num nm)).length := by rw [<- hnr, List.length_map]
   refine ⟨_, rfl, np, _, rfl, .inl (SqL.of (c4.get 2 rfl)), rfl, _, rfl, ?_⟩
   rw [qaj, hpl, show decide (V.int (((nearest s0.buckets (num nm)).length : Nat) : Int) = V.int 0) = ((nearest s0.buckets (num nm)).length == 0) from qby (n := 0)]
   have e : does s0 (.search nm v) = if (nearest s0.buckets (num nm)).isEmpty = true then (s0, nothing) else (goSearch 8 { s0 with search := some ⟨num nm, decide (v ≠ 0), (nearest s0.buckets (num nm)).map fresh⟩, result := none }, { value := 0 }) := if_neg hgo
   rw [e] at k
   by_cases hz : (nearest s0.buckets (num nm)).length = 0
   ·rw [beq_iff_eq.mpr hz]
    refine iteT ⟨_, rfl, ?_⟩
    rw [if_pos (by rw [List.length_eq_zero_iff.mp hz]; rfl)] at k
    have c5 := (((((((((c4.pull 2 rfl).pull 7 rfl).pull 3 rfl).pull 7 rfl).pull 7 rfl).pull 7 rfl).pull 7 rfl).pull 7 rfl)).unIs (P := BucksR A b s0.own s0.buckets) pB
    have c6 := c5.noneR
    have c7 := qaA (s := s0) (b := b) (p := p) (sh := sh) (qv := .non) (ov := ov) (by rw [hse]; exact (((((((((c6.pull 8 rfl).pull 8 rfl).pull 8 rfl).pull 8 rfl).pull 4 rfl).pull 8 rfl).pull 8 rfl).pull 7 rfl).pull 8 rfl))
    exact c7.endsT (tb := [TbN A, TbS A]) hrel k
   ·rw [beq_eq_false_iff_ne.mpr hz]
    refine iteF ?_
    rw [if_neg (by
     intro z
     exact hz (by rw [List.isEmpty_iff.mp z]; rfl))] at k
    obtain ⟨dx4, hx4⟩ := c4.ob 3 rfl
    refine ⟨_, rfl, o, A.C_One, dx4, _, rfl, hx4, T.cl_One, T.na_y24, (by show 7 < 1000; decide), ?_⟩
    have c5 := c4.obset (f := "outcome") (v := .non) (j := 6) 3 rfl hx4 (by decide +kernel) (by show 6 < 7; decide)
    refine ⟨_, rfl, _, rfl, rfl, _, rfl, fun a da na nda ne => ?_⟩
    have c6 := (((((((((c5.pull 5 rfl).pull 5 rfl).pull 5 rfl).pull 5 rfl).pull 5 rfl).pull 5 rfl).pull 7 rfl)).lay (o := .own a) nda).new (a := a) (o := .ins A.C_Search da []) (by rw [qaq ne.symm]; exact na)
    obtain ⟨h12, kx⟩ := (Sl.fold0 (k := [_, _]) c6).callX
    obtain ⟨hc, hT, dj, eh, pc, pT⟩ := kx.p
    cases (show hc = cel a (.ins A.C_Search da []) from pc)
    subst eh
    have sbT : Sb hT _ := (Sb.right dj kx.sb)
    have hTa : hT a = none := dj.symm.no (by unfold cel; rw [if_pos rfl])
    have outs : ∀ {z : Addr}, uni (cel a (.ins A.C_Search da [])) hT z = none -> hT z = none /\ z ≠ a := by
     intro z hz
     refine ⟨(qaT.mp hz).2, fun e => ?_⟩
     have := (qaT.mp hz).1
     unfold cel at this
     rw [if_pos e] at this
     cases this
    have hnp := outs (kx.pt 2 rfl)
    have sB6 := c6.isb 2 rfl
    have hps : ∀ H' : Hp, Sb hB H' -> ∀ q ∈ ps, q.2.name < 2 ^ 160 /\ q.2.at_ < 2 ^ 48 /\ q.2.name ≠ s0.own /\ HasNA K H' q.1 q.2.name q.2.at_ /\ hT q.1 = none /\ q.1 ≠ a := by
     intro H' sB' q hq
     have hm : q.2 ∈ nearest s0.buckets (num nm) := by rw [<- hnr]; exact List.mem_map.mpr ⟨q, hq, rfl⟩
     obtain ⟨bk, hbk, hk⟩ := qbP hm
     have gc := g.known hbk hk
     have ho := outs ((kx.is 0 rfl).noOb (hob q hq))
     exact ⟨gc.nm, gc.ad, gc.ne, someNA T ((hob q hq).up sB'), ho.1, ho.2⟩
    refine ⟨a, da, np, s0.own, num nm, decide (v ≠ 0), ps, hT, ?_, qaf, hTa, hn, c6.get 4 rfl, hnp.1, hnp.2, hps _ sB6, sbT, qa5.mp pT, fun H7 h7 sb7 p7 fm7 => ⟨rfl, ?_⟩⟩
    ·have : (!decide (V.int v = V.int 0)) = decide (v ≠ 0) := by
      by_cases hv : v = 0
      ·subst hv; rfl
      ·rw [decide_eq_true (show v ≠ 0 from hv), decide_eq_false (fun z => hv (V.int.inj z))]
       rfl
     rw [this]
     rfl
    have c7 := (kx.ret p7 sb7 fm7).open0 (k := [_, _])
    have hfold : (ps.map Prod.snd).foldl (more s0.own) ⟨num nm, decide (v ≠ 0), []⟩ = ⟨num nm, decide (v ≠ 0), (nearest s0.buckets (num nm)).map fresh⟩ := by
     rw [hnr]
     have := qeE (own := s0.own) (t := num nm) (v := decide (v ≠ 0)) (nearest s0.buckets (num nm)) [] ?_ ?_ ?_
     ·exact this
     ·rw [List.nil_append, List.pairwise_map]
      exact g.nearest_lt (num nm)
     ·intro c hc
      obtain ⟨bk, hbk, hk⟩ := qbP hc
      exact (g.known hbk hk).ne
     ·have := qa0 s0.buckets (num nm)
      show 0 + _ <= 64
      omega
    rw [hfold] at c7
    obtain ⟨dx7, hx7⟩ := c7.ob 5 rfl
    refine ⟨_, rfl, o, A.C_One, dx7, _, rfl, hx7, T.cl_One, T.na_y27, (by show 7 < 1000; decide), ?_⟩
    have c8 := c7.obset (f := "quest") (v := .ref a) (j := 5) 5 rfl hx7 (by decide +kernel) (by show 5 < 7; decide)
    have c9 := (((((((((((c8.pull 8 rfl).pull 8 rfl).pull 8 rfl).pull 8 rfl).pull 8 rfl).pull 8 rfl).pull 7 rfl).pull 7 rfl).pull 8 rfl)).unIs (P := BucksR A b s0.own s0.buckets) pB).noneR
    have c10 := qc4 (s := { s0 with search := some ⟨num nm, decide (v ≠ 0), (nearest s0.buckets (num nm)).map fresh⟩, result := none }) rfl (((((((((((c9.pull 9 rfl).pull 6 rfl).pull 5 rfl).pull 6 rfl).pull 4 rfl).pull 9 rfl).pull 9 rfl).pull 7 rfl).pull 9 rfl).pull 9 rfl))
    obtain ⟨hG, kG⟩ := c10.callX
    obtain ⟨b7, p7', sh7, qv7, ov7, c11⟩ := qaz c10
    obtain ⟨dx9, hx9⟩ := c11.ob 0 rfl
    refine ⟨_, rfl, o, dx9, _, rfl, hx9, ln0, o, { s0 with search := some ⟨num nm, decide (v ≠ 0), (nearest s0.buckets (num nm)).map fresh⟩, result := none }, ⟨num nm, decide (v ≠ 0), (nearest s0.buckets (num nm)).map fresh⟩, us, l, hG, rfl, ⟨⟨lid + 64, by omega, qgj g hse hn⟩, ⟨hrel.op, hrel.ok, hrel.kp⟩, kG.sb, kG.p⟩, rfl, fun H8 h8 us8 l8 sb8 p8 rel8 kp8 fm8 => ?_⟩
    exact (kG.ret p8 sb8 fm8).endsT (tb := [TbN A, TbS A]) rel8 k
end
def ansV (a : Ans) : List V := .int a.value :: a.numbers.map iV
theorem qgQ {α : Type} {l : List α} {k : Int} (h : ¬ (0 <= k /\ k < (l.length : Int))) : pick l k = none := by
 unfold pick
 split
 ·rfl
 ·rw [List.getElem?_eq_none_iff]; omega
theorem qf1 {α : Type} {l : List α} {k : Int} (h : 0 <= k /\ k < (l.length : Int)) : ∃ j : Nat, k = (j : Int) /\ ∃ x, l[j]? = some x /\ pick l k = some x := by
 refine ⟨k.toNat, by omega, l[k.toNat]'(by omega), List.getElem?_eq_getElem _, ?_⟩
 unfold pick
 rw [if_neg (by omega), List.getElem?_eq_getElem]
section
variable {P : Program} {w : World} {K : PySem.W.Frag} {mg : Str -> Option Value} {base : Heap} {A : Adr}
def OneL (A : Adr) (o : Addr) (H h : Hp) (Q : VK) (s' : Abs) (a : Ans) (tb : List As) : Prop := ∀ H' h' us' l' p, Sb h' H' -> stars (OneR A o s' us' l' :: Pt p (.lst (ansV a)) :: tb) h' -> Rel s' us' l' -> Fm H h H' h' -> Q (.ref p) H'
theorem Sl.endsL {H h H' : Hp} {r tb : List As} {o p : Addr} {s' : Abs} {us' : List (Addr × AskT)} {ks' : List Rc50.Kept} {Q : VK} {a : Ans} (c : Sl H h H' ((OneR A o s' us' ks' :: Pt p (.lst (ansV a)) :: tb) ++ r)) (e : Rel s' us' ks') (k : OneL A o H h Q s' a tb) : Q (.ref p) H' := by
 obtain ⟨h', p', sb', fm⟩ := (Sl.fold0 c).fin
 exact k _ h' us' ks' p sb' p' e fm
theorem Sta.list {H h H' : Hp} {o p : Addr} {s : Abs} {us : List (Addr × AskT)} {l : List Rc50.Kept} {Q : VK} {a : Ans} (t : Sta A o H h s us l) (k : OneL A o H h Q s a []) (sm : Same H H') (n : H p = none) (e : H' p = some (.lst (ansV a))) : Q (.ref p) H' := by
 have c := (Sl.init t.sb t.r).same sm n e
 exact Sl.endsL (tb := []) (r := []) (c.pull 1 rfl) t.rel k
def sp_z66 (A : Adr) : Sp := fun vs H Q _ => ∃ (o : Addr) (i : Int) (s : Abs) (us : List (Addr × AskT)) (l : List Rc50.Kept) (h : Hp), vs = [.ref o, .int i] /\ Sta A o H h s us l /\ OneL A o H h Q (does s (.result i)).1 (does s (.result i)).2 []
theorem ok_z66 (T : Txt K mg A) : FnOk P w K mg base CX0 4 A.a_z66 A.d_z66 ["self", "k"] (sp_z66 A) := by
 refine T.F_z66.ok qjw ?_ ?_
 ·rintro _ _ _ _ ⟨o, i, s, us, l, h, rfl, _⟩
  rfl
 ·rintro cdv Ar outer s H _ Q E hr ⟨o, i, s0, us, l, h, rfl, t, k⟩
  have nd := qjw.nd
  refine ⟨_, (qab (qaC (qbf (qcf (qae (pv 0) rfl))) (qac (qag (qaB (qaa (qbX qbi qan) qad)))) qao)
   (qab (qax (i := 2) nd rfl (Or.inl rfl) (qae (qae (pv 0) rfl) rfl))
   (qab (qaC (qar qbN (pv 1) (qbX qbi qan) (nomark _)) (qac (qag (qaK qbU (qaB (qaa (qav qah (by rfl) T.n_len PySem.boot_len (qaa (pv 2) qad)) qad)) (qaK op_rep (qaB (qaa qan qad)) (qai rfl T.c_SOMEONE_OCTETS))))) qao)
   (qab (qaC (qeC (qbC (qaw (qj7 T) hr.md rfl T.mg_z76 T.F_z76.kp T.b_z76 .nil pass0 (qaa (pv 2) (qaa (pv 1) qad))))) (qac (qag (qaB (qaa (qbX qbi qan) qad)))) qao)
   (qac (qag (qaK qbU (qaB (qaa (qav qah (by rfl) T.n_len PySem.boot_len (qaa (pv 2) qad)) qad)) (qaw (qgC T) hr.md rfl T.mg_z32 T.F_z32.kp T.b_z32 .nil pass0 (qaa (qcj qbp (pv 2) (pv 1) (fun _ _ => rfl)) qad))))))))), ?_⟩
  obtain ⟨b, p, sh, qv, ov, c0⟩ := qaz (Sl.init t.sb t.r)
  obtain ⟨dx, hx⟩ := c0.ob 0 rfl
  refine ⟨_, rfl, o, A.C_One, dx, _, _, rfl, hx, T.cl_One, T.na_y24, lz 6, _, rfl, ?_⟩
  cases hre : s0.result with
  | none =>
   rw [hre] at c0
   obtain ⟨rfl, _⟩ := qeq (c0.pull 5 rfl)
   show if decide (V.non = V.non) = true then _ else _
   rw [decide_eq_true rfl]
   have e : does s0 (.result i) = (s0, nothing) := by dsimp only [does]; rw [hre]
   rw [e] at k
   refine iteT ⟨_, rfl, (by show 1 <= sizeLine; decide), fun p hp => ?_⟩
   exact t.list k (qal hp) hp qaf
  | some r =>
   rw [hre] at c0
   obtain ⟨y, pl, cv, fs, ⟨rfl, efs⟩, c1⟩ := qel (c0.pull 5 rfl)
   show if decide (V.ref y = V.non) = true then _ else _
   rw [decide_eq_false (by intro z; cases z)]
   refine iteF ?_
   obtain ⟨dy, hy⟩ := c1.ob 0 rfl
   have hpl := c1.get 1 rfl
   have hfo := c1.foundOb 2 rfl
   have hle : fs.length <= 8 := by
    obtain ⟨lid, _, g⟩ := t.good
    rw [<- List.length_map (f := fun q : Addr × Rc50.Found => q.2.1), efs]
    exact (g.re r hre).le
   have hlr : fs.length = r.2.length := by rw [<- efs, List.length_map]
   refine ⟨_, rfl, o, A.C_One, dx, _, _, rfl, hx, T.cl_One, T.na_y24, lz 6, y, A.C_Outcome, dy, _, _, rfl, hy, T.cl_Outcome, T.na_y30, lz 0, ?_⟩
   refine ⟨_, rfl, _, rfl, rfl, _, rfl, ?_⟩
   by_cases h1 : i = -1
   ·subst h1
    rw [decide_eq_true rfl]
    have e : does s0 (.result (-1)) = (s0, { value := (r.2.length : Nat), numbers := List.replicate 26 0 }) := by dsimp only [does]; rw [hre]; rfl
    rw [e] at k
    refine iteT ⟨_, rfl, pl, _, rfl, .inl (SqL.of hpl), (by show 1 <= sizeLine; decide), fun p1 hp1 => ?_⟩
    refine ⟨(by show 1 <= sizeLine; decide), fun p2 hp2 => ?_⟩
    refine ⟨p2, 26, _, rfl, rfl, qaf, by decide, by decide, by decide, fun p3 hp3 => ?_⟩
    have s1 := qal (o := .lst [V.int ((refs fs).length : Int)]) hp1
    have s2 := s1.trans (qal (o := .lst [V.int 0]) hp2)
    have hp1' : upd (upd H p1 (.lst [V.int ((refs fs).length : Int)])) p2 (.lst [V.int 0]) p1 = some (.lst [V.int ((refs fs).length : Int)]) := qal hp2 _ _ qaf
    refine ⟨p1, p3, _, _, rfl, rfl, qal hp3 _ _ hp1', qaf, (by show 1 + 26 <= sizeLine; decide), fun p4 hp4 => ?_⟩
    have s3 := s2.trans (qal (o := .lst (List.replicate (26 : Int).toNat [V.int 0]).flatten) hp3)
    refine t.list k (s3.trans (qal hp4)) (s3.free hp4) ?_
    rw [qaf, qaj, hlr]
    rfl
   ·rw [decide_eq_false (fun z => h1 (V.int.inj z))]
    refine iteF ?_
    have e : does s0 (.result i) = match pick r.2 i with
     | none => (s0, refused)
     | some c => (s0, { value := (r.2.length : Nat), numbers := shown c }) := by dsimp only [does]; rw [hre]; exact if_neg h1
    rw [e] at k
    refine ⟨_, rfl, _, rfl, pl, refs fs, i, rfl, hpl, _, rfl, ?_⟩
    rw [qaj, hlr]
    by_cases hk : 0 <= i /\ i < ((r.2.length : Nat) : Int)
    ·rw [decide_eq_true hk]
     refine iteF ?_
     obtain ⟨j, rfl, c, hj, hpk⟩ := qf1 hk
     rw [hpk] at k
     obtain ⟨q, hq, hqc⟩ : ∃ q, fs[j]? = some q /\ q.2.1 = c := by
      rw [<- efs, List.getElem?_map] at hj
      cases hq : fs[j]? with
      | none => rw [hq] at hj; cases hj
      | some q => rw [hq] at hj; cases hj; exact ⟨q, rfl, rfl⟩
     refine ⟨_, rfl, pl, _, rfl, .inl (SqL.of hpl), (by show 1 <= sizeLine; decide), fun p1 hp1 => ?_⟩
     have s1 := qal (o := .lst [V.int ((refs fs).length : Int)]) hp1
     refine ⟨_, rfl, _, rfl, pl, _, _, _, rfl, rfl, SqL.of (s1 _ _ hpl), qbo (j := j) (v := V.ref q.1) (by unfold refs; rw [List.getElem?_map, hq]; rfl), q.1, q.2.1.name, q.2.1.at_, rfl, (foundNA T (hfo q (List.mem_of_getElem? hq))).same fun o z => s1 _ _ z, fun H2 p2 s2 m2 l2 => ?_⟩
     refine ⟨p1, p2, _, _, rfl, rfl, s2 _ _ qaf, l2, ?_, fun p3 hp3 => ?_⟩
     ·rw [List.length_map, List.length_append, qam, qam]
      show 1 + 26 <= sizeLine
      decide
     ·have s3 := (s1.trans s2).trans (qal (o := .lst ([V.int ((refs fs).length : Int)] ++ (be 20 q.2.1.name ++ be 6 q.2.1.at_).map iV)) hp3)
      refine t.list k s3 ((s1.trans s2).free hp3) ?_
      rw [qaf, qaj, hlr, hqc]
      rfl
    ·rw [decide_eq_false hk]
     rw [qgQ hk] at k
     refine iteT ⟨_, rfl, (by show 1 <= sizeLine; decide), fun p hp => ?_⟩
     exact t.list k (qal hp) hp qaf
def sp_z73 (A : Adr) : Sp := fun vs H Q _ => ∃ (o : Addr) (i : Int) (s : Abs) (us : List (Addr × AskT)) (l : List Rc50.Kept) (h : Hp), vs = [.ref o, .int i] /\ Sta A o H h s us l /\ OneL A o H h Q (does s (.value i)).1 (does s (.value i)).2 []
theorem ok_z73 (T : Txt K mg A) : FnOk P w K mg base CX0 2 A.a_z73 A.d_z73 ["self", "most"] (sp_z73 A) := by
 refine T.F_z73.ok qjS ?_ ?_
 ·rintro _ _ _ _ ⟨o, i, s, us, l, h, rfl, _⟩
  rfl
 ·rintro cdv Ar outer s H _ Q E hr ⟨o, i, s0, us, l, h, rfl, t, k⟩
  have nd := qjS.nd
  refine ⟨_, (qab (qaC (PW.pt (qck (qbf (qcf (qae (pv 0) rfl))) (qbI (qbf (qcf (qae (qae (pv 0) rfl) rfl)))))) (qac (qag (qaB (qaa (qbX qbi qan) qad)))) qao)
   (qab (qax (i := 2) nd rfl (Or.inl rfl) (qae (qae (pv 0) rfl) rfl))
   (qab (qaC (qar qeP (qav qah (by rfl) T.n_len PySem.boot_len (qaa (pv 2) qad)) (qaw (qjd T) hr.md rfl T.mg_z96 T.F_z96.kp T.b_z96 .nil pass0 (qaa (pv 1) qad)) (nomark _)) (qac (qag (qaB (qaa (qbX qbi qan) qad)))) qao)
   (qac (qag (qaK qbU (qaB (qaa (qav qah (by rfl) T.n_len PySem.boot_len (qaa (pv 2) qad)) qad)) (pv 2))))))), ?_⟩
  obtain ⟨b, p, sh, qv, ov, c0⟩ := qaz (Sl.init t.sb t.r)
  obtain ⟨dx, hx⟩ := c0.ob 0 rfl
  refine ⟨_, rfl, o, A.C_One, dx, _, _, rfl, hx, T.cl_One, T.na_y24, lz 6, _, rfl, ?_⟩
  cases hre : s0.result with
  | none =>
   rw [hre] at c0
   obtain ⟨rfl, _⟩ := qeq (c0.pull 5 rfl)
   show if decide (V.non = V.non) = true then _ else _
   rw [decide_eq_true rfl]
   have e : does s0 (.value i) = (s0, nothing) := by dsimp only [does]; rw [hre]
   rw [e] at k
   refine iteT (iteT ⟨_, rfl, (by show 1 <= sizeLine; decide), fun p hp => ?_⟩)
   exact t.list k (qal hp) hp qaf
  | some r =>
   rw [hre] at c0
   obtain ⟨y, pl, cv, fs, ⟨rfl, efs⟩, c1⟩ := qel (c0.pull 5 rfl)
   show if decide (V.ref y = V.non) = true then _ else _
   rw [decide_eq_false (by intro z; cases z)]
   refine iteF ?_
   obtain ⟨dy, hy⟩ := c1.ob 0 rfl
   refine ⟨_, rfl, o, A.C_One, dx, _, _, rfl, hx, T.cl_One, T.na_y24, lz 6, y, A.C_Outcome, dy, _, _, rfl, hy, T.cl_Outcome, T.na_y29, lz 1, _, rfl, ?_⟩
   obtain ⟨rc, rp⟩ := r
   cases rc with
   | none =>
    obtain ⟨hcv, _⟩ := ((c1.pull 3 rfl).imp0 (P' := fun h => cv = .non /\ h = emp) fun h p => p).prop0
    subst hcv
    show if decide (V.non = V.non) = true then _ else _
    rw [decide_eq_true rfl]
    have e : does s0 (.value i) = (s0, nothing) := by dsimp only [does]; rw [hre]
    rw [e] at k
    refine iteT (id ⟨_, rfl, (by show 1 <= sizeLine; decide), fun p hp => ?_⟩)
    exact t.list k (qal hp) hp qaf
   | some bs =>
    obtain ⟨cl, c2⟩ := ((c1.pull 3 rfl).imp0 (P' := fun h => ∃ cl : Addr, cv = .ref cl /\ Pt cl (.lst (bs.map iV)) h) fun h p => p).ex0
    obtain ⟨hcv, c3⟩ := c2.prop0
    subst hcv
    have hcl := c3.get 0 rfl
    show if decide (V.ref cl = V.non) = true then _ else _
    rw [decide_eq_false (by intro z; cases z)]
    refine iteF ?_
    have hbl : bs.length <= 512 := by
     obtain ⟨lid, _, g⟩ := t.good
     exact ((g.re _ hre).by_ bs rfl).1
    have e : does s0 (.value i) = if room_ i < bs.length then (s0, { value := -2 }) else (s0, { value := (bs.length : Nat), numbers := bs }) := by dsimp only [does]; rw [hre]
    rw [e] at k
    refine ⟨_, rfl, o, A.C_One, dx, _, _, rfl, hx, T.cl_One, T.na_y24, lz 6, y, A.C_Outcome, dy, _, _, rfl, hy, T.cl_Outcome, T.na_y29, lz 1, ?_⟩
    refine ⟨_, rfl, cl, _, rfl, .inl (SqL.of hcl), _, rfl, i, rfl, _, _, rfl, rfl, _, rfl, ?_⟩
    rw [lenI]
    by_cases hr : room_ i < bs.length
    ·rw [if_pos hr] at k
     rw [decide_eq_true (by show (_ : Int) > _; omega)]
     refine iteT ⟨_, rfl, (by show 1 <= sizeLine; decide), fun p hp => ?_⟩
     exact t.list k (qal hp) hp qaf
    ·rw [if_neg hr] at k
     rw [decide_eq_false (by show ¬ (_ : Int) > _; omega)]
     refine iteF ⟨_, rfl, cl, _, rfl, .inl (SqL.of hcl), (by show 1 <= sizeLine; decide), fun p1 hp1 => ?_⟩
     have s1 := qal (o := .lst [V.int ((bs.map iV).length : Int)]) hp1
     refine ⟨_, rfl, p1, cl, _, _, rfl, rfl, qaf, s1 _ _ hcl, ?_, fun p2 hp2 => ?_⟩
     ·rw [List.length_map]
      exact small2 (by show 1 + _ <= _; omega)
     ·refine t.list k (s1.trans (qal hp2)) (s1.free hp2) ?_
      rw [qaf, lenI]
      rfl
def sp_z89 (A : Adr) : Sp := fun vs H Q _ => ∃ (o : Addr) (nm : Bytes) (i : Int) (s : Abs) (us : List (Addr × AskT)) (l : List Rc50.Kept) (h : Hp), vs = [.ref o, iV (num nm), .int i] /\ (∃ lid, lid <= 90000 /\ Good lid s) /\ Rel s us l /\ Sb h H /\ stars [OneR A o s us l, TbN A] h /\
 OneL A o H h Q (does s (.near nm i)).1 (does s (.near nm i)).2 [TbN A]
theorem ok_z89 (T : Txt K mg A) (B : Bse K mg base) : FnOk P w K mg base CX0 4 A.a_z89 A.d_z89 ["self", "name", "k"] (sp_z89 A) := by
 refine T.F_z89.ok qjf ?_ ?_
 ·rintro _ _ _ _ ⟨o, nm, i, s, us, l, h, rfl, _⟩
  rfl
 ·rintro cdv Ar outer s H _ Q E hr ⟨o, nm, i, s0, us, l, h, rfl, ⟨lid, hlid, g⟩, hrel, sb, hst, k⟩
  have nd := qjf.nd
  refine ⟨_, (qab (qax (i := 3) nd rfl (Or.inl rfl) (qak (qae (pv 0) rfl) T.cl_Buckets T.me_z23 (qgK T B) hr.md T.b_z23 .nil pass0 (qaa (pv 1) qad)))
   (qab (qaC (qeC (qbC (qaw (qj7 T) hr.md rfl T.mg_z76 T.F_z76.kp T.b_z76 .nil pass0 (qaa (pv 3) (qaa (pv 2) qad))))) (qac (qag (qaB (qaa (qbX qbi qan) qad)))) qao)
   (qac (qag (qaK qbU (qaB (qaa (qav qah (by rfl) T.n_len PySem.boot_len (qaa (pv 3) qad)) qad)) (qaw (qgC T) hr.md rfl T.mg_z32 T.F_z32.kp T.b_z32 .nil pass0 (qaa (qcj qbp (pv 3) (pv 2) (fun _ _ => rfl)) qad))))))), ?_⟩
  obtain ⟨b, p, sh, qv, ov, c0⟩ := qaz ((Sl.init sb hst).open0 (k := [_, _]))
  obtain ⟨dx, hx⟩ := c0.ob 0 rfl
  obtain ⟨hB, pB, sbB, c1⟩ := ((((((((c0.pull 5 rfl).pull 5 rfl).pull 5 rfl).pull 5 rfl).pull 4 rfl).pull 6 rfl).pull 6 rfl)).name0
  obtain ⟨rl, hbo⟩ := qbk pB
  obtain ⟨db, hb⟩ := hbo.up sbB
  obtain ⟨h4, ky⟩ := (Sl.fold0 (k := [_, _]) c1).callX
  refine ⟨_, rfl, o, A.C_One, dx, _, _, rfl, hx, T.cl_One, T.na_y22, lz 2, b, db, _, rfl, hb, ln0, _, rfl, b, s0.own, num nm, s0.buckets, hB, h4, rfl, g.bucks, pB, ky.sb, ky.p, fun H5 h5 np ps sb5 p5 hnr hob fm5 => ?_⟩
  have c4 := (ky.ret p5 sb5 fm5).open0 (k := [_, _, _])
  have hpl : ps.length = (nearest s0.buckets (num nm)).length := by rw [<- hnr, List.length_map]
  have hp8 := qa0 s0.buckets (num nm)
  have hnp := c4.get 2 rfl
  have ends : ∀ {H6 : Hp} {r : Addr} {s' : Abs} {a : Ans}, s' = s0 -> OneL A o H h Q s' a [TbN A] -> Same H5 H6 -> H5 r = none -> H6 r = some (.lst (ansV a)) -> Q (.ref r) H6 := by
   intro H6 r s' a es kk sm n e
   subst es
   have c5 := c4.same sm n e
   have c6 := ((((((((((c5.pull 3 rfl).pull 3 rfl).pull 2 rfl).pull 8 rfl).pull 8 rfl).pull 8 rfl).pull 8 rfl).pull 8 rfl).pull 8 rfl)).unIs (P := BucksR A b s'.own s'.buckets) pB
   exact Sl.endsL (tb := [TbN A]) (qaA ((((((((((c6.pull 8 rfl).pull 8 rfl).pull 8 rfl).pull 8 rfl).pull 8 rfl).pull 8 rfl).pull 8 rfl).pull 7 rfl).pull 8 rfl))) hrel kk
  have e : does s0 (.near nm i) = match pick (nearest s0.buckets (num nm)) i with
   | none => (s0, refused)
   | some c => (s0, { value := ((nearest s0.buckets (num nm)).length : Nat), numbers := shown c }) := rfl
  rw [e] at k
  refine ⟨_, rfl, _, rfl, np, refs ps, i, rfl, hnp, _, rfl, ?_⟩
  rw [qaj, hpl]
  by_cases hk : 0 <= i /\ i < (((nearest s0.buckets (num nm)).length : Nat) : Int)
  ·rw [decide_eq_true hk]
   refine iteF ?_
   obtain ⟨j, rfl, c, hj, hpk⟩ := qf1 hk
   rw [hpk] at k
   obtain ⟨q, hq, hqc⟩ : ∃ q, ps[j]? = some q /\ q.2 = c := by
    rw [<- hnr, List.getElem?_map] at hj
    cases hq : ps[j]? with
    | none => rw [hq] at hj; cases hj
    | some q => rw [hq] at hj; cases hj; exact ⟨q, rfl, rfl⟩
   refine ⟨_, rfl, np, _, rfl, .inl (SqL.of hnp), (by show 1 <= sizeLine; decide), fun p1 hp1 => ?_⟩
   have s1 := qal (o := .lst [V.int ((refs ps).length : Int)]) hp1
   have hqo := (hob q (List.mem_of_getElem? hq)).up (c4.isb 0 rfl)
   refine ⟨_, rfl, _, rfl, np, _, _, _, rfl, rfl, SqL.of (s1 _ _ hnp), qbo (j := j) (v := V.ref q.1) (by unfold refs; rw [List.getElem?_map, hq]; rfl), q.1, q.2.name, q.2.at_, rfl, (someNA T hqo).same fun o z => s1 _ _ z, fun H2 p2 s2 m2 l2 => ?_⟩
   refine ⟨p1, p2, _, _, rfl, rfl, s2 _ _ qaf, l2, ?_, fun p3 hp3 => ?_⟩
   ·rw [List.length_map, List.length_append, qam, qam]
    show 1 + 26 <= sizeLine
    decide
   ·have s3 := (s1.trans s2).trans (qal (o := .lst ([V.int ((refs ps).length : Int)] ++ (be 20 q.2.name ++ be 6 q.2.at_).map iV)) hp3)
    refine ends rfl k s3 ((s1.trans s2).free hp3) ?_
    rw [qaf, qaj, hpl, hqc]
    rfl
  ·rw [decide_eq_false hk]
   rw [qgQ hk] at k
   refine iteT ⟨_, rfl, (by show 1 <= sizeLine; decide), fun p hp => ?_⟩
   exact ends rfl k (qal hp) hp qaf
def sp_z90 (A : Adr) : Sp := fun vs H Q _ => ∃ (o : Addr) (i : Int) (s : Abs) (us : List (Addr × AskT)) (l : List Rc50.Kept) (h : Hp), vs = [.ref o, .int i] /\ Sta A o H h s us l /\ OneL A o H h Q (does s (.send i)).1 (does s (.send i)).2 []
theorem ok_z90 (T : Txt K mg A) : FnOk P w K mg base CX0 4 A.a_z90 A.d_z90 ["self", "most"] (sp_z90 A) := by
 refine T.F_z90.ok qkc ?_ ?_
 ·rintro _ _ _ _ ⟨o, i, s, us, l, h, rfl, _⟩
  rfl
 ·rintro cdv Ar outer s H _ Q E hr ⟨o, i, s0, us, l, h, rfl, t, k⟩
  have nd := qkc.nd
  refine ⟨_, (qab (qax (i := 2) nd rfl (Or.inl rfl) (qas (qae (pv 0) rfl) T.cl_Post T.me_z0 (ok_z0 T) hr.md T.b_z0 .nil pass0))
   (qab (qaC (qbf (qcf (pv 2))) (qac (qag (qaB (qaa (qbX qbi qan) qad)))) qao)
   (qab (qaC (qar qeP (qav qah (by rfl) T.n_len PySem.boot_len (qaa (pv 2) qad)) (qaw (qjd T) hr.md rfl T.mg_z96 T.F_z96.kp T.b_z96 .nil pass0 (qaa (pv 1) qad)) (nomark _)) (qac (qag (qaB (qaa (qbX qbi qan) qad)))) qao)
   (qab (qap (qas (qae (pv 0) rfl) T.cl_Post T.me_z9 (ok_z9 T) hr.md T.b_z9 .nil pass0))
   (qac (qag (qaK qbU (qaB (qaa (qav qah (by rfl) T.n_len PySem.boot_len (qaa (pv 2) qad)) qad)) (pv 2)))))))), ?_⟩
  obtain ⟨b, p, sh, qv, ov, c0⟩ := qaz (Sl.init t.sb t.r)
  obtain ⟨dx, hx⟩ := c0.ob 0 rfl
  obtain ⟨h1, kx⟩ := (c0.pull 2 rfl).callX
  obtain ⟨ch, ol, ul, hpo, hul⟩ := qbm kx.p
  obtain ⟨dp, hp1⟩ := hpo.up kx.sb
  have hou := t.ou
  refine ⟨_, rfl, o, A.C_One, dx, _, _, rfl, hx, T.cl_One, T.na_y26, lz 3, p, dp, _, rfl, hp1, ln0, p, s0.own, s0.chance, s0.out, us, h1, rfl, fun x hx => (hou.ea x hx).2.1, kx.sb, kx.p, fun hno => ?_, fun x r hxr H2 p2 s2 m2 l2 => ?_⟩
  ·refine ⟨_, rfl, _, rfl, ?_⟩
   rw [decide_eq_true rfl]
   have e : does s0 (.send i) = (s0, nothing) := by dsimp only [does]; rw [hno]
   rw [e] at k
   refine iteT ⟨_, rfl, (by show 1 <= sizeLine; decide), fun p hp => ?_⟩
   exact t.list k (qal hp) hp qaf
  ·refine ⟨_, rfl, _, rfl, ?_⟩
   rw [decide_eq_false (by intro z; cases z)]
   refine iteF ?_
   have hlx : x.2.length <= 600 := (hou.ea x (by rw [hxr]; exact List.mem_cons_self)).2.1
   have hll : (be 6 x.1 ++ x.2).length = 6 + x.2.length := by rw [List.length_append, qam]
   have e : does s0 (.send i) = if room_ i < 6 + x.2.length then (s0, { value := -2 }) else ({ s0 with out := r }, { value := ((6 + x.2.length : Nat) : Int), numbers := be 6 x.1 ++ x.2 }) := by dsimp only [does]; rw [hxr]
   rw [e] at k
   refine ⟨_, rfl, p2, _, rfl, .inl (SqL.of l2), _, rfl, i, rfl, _, _, rfl, rfl, _, rfl, ?_⟩
   rw [lenI, hll]
   by_cases hr : room_ i < 6 + x.2.length
   ·rw [if_pos hr] at k
    rw [decide_eq_true (by show (_ : Int) > _; omega)]
    refine iteT ⟨_, rfl, (by show 1 <= sizeLine; decide), fun p hp => ?_⟩
    exact t.list k (s2.trans (qal hp)) (s2.free hp) qaf
   ·rw [if_neg hr] at k
    rw [decide_eq_false (by show ¬ (_ : Int) > _; omega)]
    refine iteF ?_
    rw [hxr] at c0
    have c1 := (c0.same s2 m2 l2).pull 3 rfl
    obtain ⟨h3, ky⟩ := c1.callX
    obtain ⟨ch3, ol3, ul3, hpo3, hul3⟩ := qbm ky.p
    obtain ⟨dp3, hp3⟩ := hpo3.up ky.sb
    obtain ⟨dx3, hx3⟩ := c1.ob 2 rfl
    refine ⟨_, rfl, o, A.C_One, dx3, _, _, rfl, hx3, T.cl_One, T.na_y26, lz 3, p, dp3, _, rfl, hp3, ln0, p, s0.own, s0.chance, x, r, us, h3, rfl, ky.sb, ky.p, fun H4 h4 sb4 p4 fm4 => ?_⟩
    have c2 := ky.ret p4 sb4 fm4
    have hp2 := c2.get 1 rfl
    refine ⟨_, rfl, p2, _, rfl, .inl (SqL.of hp2), (by show 1 <= sizeLine; decide), fun p5 hp5 => ?_⟩
    have c3 := c2.new (o := .lst [V.int (((be 6 x.1 ++ x.2).map iV).length : Int)]) hp5
    refine ⟨_, rfl, p5, p2, _, _, rfl, rfl, qaf, c3.get 2 rfl, ?_, fun p6 hp6 => ?_⟩
    ·rw [List.length_map, hll]
     exact small2 (by show 1 + _ <= _; omega)
    ·have c4 := c3.new (o := .lst ([V.int (((be 6 x.1 ++ x.2).map iV).length : Int)] ++ (be 6 x.1 ++ x.2).map iV)) hp6
     have ev : ([V.int (((be 6 x.1 ++ x.2).map iV).length : Int)] ++ (be 6 x.1 ++ x.2).map iV) = ansV { value := ((6 + x.2.length : Nat) : Int), numbers := be 6 x.1 ++ x.2 } := by
      rw [lenI, hll]
      rfl
     rw [ev] at c4 ⊢
     exact Sl.endsL (tb := []) (qaA (s := { s0 with out := r }) ((((((((((c4.pull 3 rfl).pull 2 rfl).pull 2 rfl).pull 8 rfl).pull 8 rfl).pull 8 rfl).pull 6 rfl).pull 8 rfl).pull 8 rfl))) ⟨t.rel.op, t.rel.ok, t.rel.kp⟩ k
end
abbrev nCalls : List Str := ["numbers", "place"]
theorem qgT (xs : List V) (a b : Nat) : cutV xs (some (a : Int)) (some (b : Int)) = (xs.drop a).take (b - a) := by
 unfold cutV
 rw [qcl, qcl]
 rcases Nat.le_total a xs.length with h | h
 ·rw [Nat.min_eq_left h]
  rcases Nat.le_total b xs.length with h2 | h2
  ·rw [Nat.min_eq_left h2]
  ·rw [Nat.min_eq_right h2, List.take_of_length_le (by rw [List.length_drop]; exact Nat.le_refl _), List.take_of_length_le (by rw [List.length_drop]; omega)]
 ·rw [Nat.min_eq_right h, List.drop_length, List.drop_of_length_le h, List.take_nil, List.take_nil]
theorem qkg (l : List Nat) : (intsOf l).map V.int = l.map iV := by unfold intsOf; rw [List.map_map]; rfl
def Req (K : PySem.W.Frag) (H h : Hp) (a : Addr) (ns : List Int) : Prop := (∃ o, H a = some o /\ h a = none /\ ∀ H' : Hp, H' a = some o -> SqL K H' a (ns.map V.int)) \/ ∀ H' : Hp, SqL K H' a (ns.map V.int)
section
variable {H0 h0 H : Hp} {l : List As} {K : PySem.W.Frag} {a : Addr} {ns : List Int}
theorem req_mk (q : SqL K H a (ns.map V.int)) (h : ∀ o, H a = some o -> (∀ ps, o ≠ .tbl ps) -> h0 a = none) : Req K H h0 a ns := by
 rcases q with (q | ⟨o, q⟩) | q
 ·exact .inl ⟨_, q, h _ q (by intro ps z; cases z), fun H' e => .inl (.inl e)⟩
 ·exact .inl ⟨_, q, h _ q (by intro ps z; cases z), fun H' e => .inl (.inr ⟨o, e⟩)⟩
 ·exact .inr fun H' => .inr q
theorem Req.sq {h : Hp} (r : Req K H h a ns) : SqL K H a (ns.map V.int) := by
 rcases r with ⟨o, h1, h2, h3⟩ | r
 ·exact h3 _ h1
 ·exact r _
theorem Req.at_ (r : Req K H0 h0 a ns) (c : Sl H0 h0 H l) : SqL K H a (ns.map V.int) := by
 rcases r with ⟨o, h1, h2, h3⟩ | r
 ·exact h3 _ (c.frame h1 h2)
 ·exact r _
theorem Req.part {h1 : Hp} {P : As} (r : Req K H0 h0 a ns) (c : Sl H0 h0 H (P :: l)) (k : CallX H0 h0 H l P h1) : Req K H h1 a ns := by
 rcases r with ⟨o, z1, z2, z3⟩ | r
 ·exact .inl ⟨o, c.frame z1 z2, k.old z1 z2, z3⟩
 ·exact .inr r
end
def At (ns : List Int) (p : Nat) (xs : List Int) : Prop := ∃ t, ns.drop p = xs ++ t
theorem At.tail {ns : List Int} {p : Nat} {x : Int} {xs : List Int} (h : At ns p (x :: xs)) : ns[p]? = some x /\ At ns (p + 1) xs := by
 obtain ⟨t, e⟩ := h
 constructor
 ·have : (ns.drop p)[0]? = some x := by rw [e]; rfl
  rw [List.getElem?_drop] at this
  exact this
 ·refine ⟨t, ?_⟩
  rw [<- List.drop_drop, e]
  rfl
theorem At.app {ns : List Int} {p : Nat} {xs ys : List Int} (h : At ns p (xs ++ ys)) : At ns p xs /\ At ns (p + xs.length) ys := by
 obtain ⟨t, e⟩ := h
 rw [List.append_assoc] at e
 refine ⟨⟨_, e⟩, t, ?_⟩
 rw [<- List.drop_drop, e, List.drop_left]
theorem At.row {ns : List Int} {p : Nat} {row : List Nat} (h : At ns p (rowI row)) : ns[p]? = some ((row.length : Nat) : Int) /\ (ns.drop (p + 1)).take row.length = intsOf row := by
 obtain ⟨h1, t, e⟩ := h.tail
 refine ⟨h1, ?_⟩
 rw [e]
 have : row.length = (intsOf row).length := by unfold intsOf; rw [List.length_map]
 rw [this, List.take_left]
section
variable {P : Program} {w : World} {K : PySem.W.Frag} {mg : Str -> Option Value} {base : Heap} {A : Adr}
abbrev CalR (A : Adr) (a c : Addr) (p : Nat) : As := Ob A.C_Calls nCalls [.ref a, iV p] c
def sp_z61 (A : Adr) : Sp := fun vs H Q _ => ∃ (x dx a : Addr), vs = [.ref x, .ref a] /\ H x = some (.ins A.C_Calls dx []) /\ ∀ H' h', Sb h' H' -> CalR A a x 0 h' -> Fm H (cel x (.ins A.C_Calls dx [])) H' h' -> Q .non H'
theorem ok_z61 (T : Txt K mg A) : FnOk P w K mg base CX0 1 A.a_z61 A.d_z61 ["self", "numbers"] (sp_z61 A) := by
 refine T.F_z61.ok qka ?_ ?_
 ·rintro _ _ _ _ ⟨x, dx, a, rfl, _⟩
  rfl
 ·rintro cdv Ar outer s H _ Q E hr ⟨x, dx, a, rfl, hx, k⟩
  have nd := qka.nd
  refine ⟨_, (qab (qau (pv 0) (pv 1) rfl)
   (qac (qau (pv 0) qan rfl))), ?_⟩
  refine ⟨_, rfl, _, rfl, x, A.C_Calls, dx, _, rfl, hx, T.cl_Calls, T.na_y10, (by show 0 < 1000; decide), ?_⟩
  rw [put1]
  refine ⟨_, rfl, x, A.C_Calls, dx, _, rfl, qaf, T.cl_Calls, T.na_y11, (by show 1 < 1000; decide), ?_⟩
  rw [qaV, qaG (by decide +kernel) rfl]
  have c1 := (init0 hx).set (o' := .ins A.C_Calls dx (nCalls.zip [.ref a, iV 0])) 0 rfl
  obtain ⟨h', p', sb, fm⟩ := c1.fin
  exact k _ h' sb ⟨dx, p'⟩ fm
def sp_z21 (A : Adr) (K : PySem.W.Frag) : Sp := fun vs H Q _ => ∃ (c a : Addr) (p : Nat) (ns : List Int), vs = [.ref c] /\ IsOb H A.C_Calls nCalls [.ref a, iV p] c /\ SqL K H a (ns.map V.int) /\ Q (.bl (decide (ns.length <= p))) H
theorem ok_z21 (T : Txt K mg A) : FnOk P w K mg base CX0 1 A.a_z21 A.d_z21 ["self"] (sp_z21 A K) := by
 refine T.F_z21.ok qku ?_ ?_
 ·rintro _ _ _ _ ⟨c, a, p, ns, rfl, _⟩
  rfl
 ·rintro cdv Ar outer s H _ Q E hr ⟨c, a, p, ns, rfl, ⟨dc, hc⟩, hs, k⟩
  have nd := qku.nd
  refine ⟨_, (qac (qag (qbs qea (qae (pv 0) rfl) (qav qah (by rfl) T.n_len PySem.boot_len (qaa (qae (pv 0) rfl) qad)) (nomark _)))), ?_⟩
  refine ⟨_, rfl, c, A.C_Calls, dc, _, _, rfl, hc, T.cl_Calls, T.na_y11, lz 1, _, rfl, c, A.C_Calls, dc, _, _, rfl, hc, T.cl_Calls, T.na_y10, lz 0, a, _, rfl, .inl hs, _, _, rfl, rfl, ?_⟩
  have e : decide (ns.length <= p) = decide ((p : Int) ≥ ((ns.map V.int).length : Int)) := by
   rw [List.length_map]
   by_cases z : ns.length <= p
   ·rw [decide_eq_true z, decide_eq_true (by omega)]
   ·rw [decide_eq_false z, decide_eq_false (by omega)]
  rw [e] at k
  exact k
def sp_z12 (A : Adr) (K : PySem.W.Frag) : Sp := fun vs H Q _ => ∃ (c a : Addr) (p : Nat) (ns : List Int) (z : Int) (h : Hp), vs = [.ref c] /\ SqL K H a (ns.map V.int) /\ ns[p]? = some z /\ Sb h H /\ CalR A a c p h /\ ∀ H' h', Sb h' H' -> CalR A a c (p + 1) h' -> Fm H h H' h' -> Q (.int z) H'
theorem qbY (T : Txt K mg A) : FnOk P w K mg base CX0 1 A.a_z12 A.d_z12 ["self"] (sp_z12 A K) := by
 refine T.F_z12.ok qjg ?_ ?_
 ·rintro _ _ _ _ ⟨c, a, p, ns, z, h, rfl, _⟩
  rfl
 ·rintro cdv Ar outer s H _ Q E hr ⟨c, a, p, ns, z, h, rfl, hs, hz, sb, hp, k⟩
  have nd := qjg.nd
  refine ⟨_, (qab (qax (i := 1) nd rfl (Or.inl rfl) (qcj qbp (qae (pv 0) rfl) (qae (pv 0) rfl) (fun _ _ => rfl)))
   (qab (qau (pv 0) (qaK qce (qae (pv 0) rfl) qan) rfl)
   (qac (qag (pv 1))))), ?_⟩
  have c0 := Sl.init sb hp
  obtain ⟨dc, hc⟩ := c0.ob 0 rfl
  refine ⟨_, rfl, c, A.C_Calls, dc, _, _, rfl, hc, T.cl_Calls, T.na_y10, lz 0, _, rfl, c, A.C_Calls, dc, _, _, rfl, hc, T.cl_Calls, T.na_y11, lz 1, a, _, _, _, rfl, rfl, hs, qbo (j := p) (v := V.int z) (by rw [List.getElem?_map, hz]; rfl), ?_⟩
  refine ⟨_, rfl, c, A.C_Calls, dc, _, _, rfl, hc, T.cl_Calls, T.na_y11, lz 1, _, _, rfl, rfl, _, rfl, c, A.C_Calls, dc, _, rfl, hc, T.cl_Calls, T.na_y11, (by show 2 < 1000; decide), ?_⟩
  have c1 := c0.obset (f := "place") (v := iV (p + 1)) (j := 1) 0 rfl hc (by decide +kernel) (by show 1 < 2; decide)
  obtain ⟨h', p', sb', fm⟩ := c1.fin
  exact ⟨_, rfl, k _ h' sb' p' fm⟩
def sp_z30 (A : Adr) (K : PySem.W.Frag) : Sp := fun vs H Q _ => ∃ (c a : Addr) (p : Nat) (ns : List Int) (row : List Nat) (h : Hp), vs = [.ref c] /\ Req K H h a ns /\ At ns p (rowI row) /\ Sb h H /\ CalR A a c p h /\
 ∀ H' h' r, Sb h' H' -> stars [CalR A a c (p + (rowI row).length), Pt r (.lst (row.map iV))] h' -> Fm H h H' h' -> Q (.ref r) H'
theorem qif (row : List Nat) : (rowI row).length = 1 + row.length := by unfold rowI intsOf; rw [List.length_cons, List.length_map, Nat.add_comm]
theorem qg8 (T : Txt K mg A) : FnOk P w K mg base CX0 2 A.a_z30 A.d_z30 ["self"] (sp_z30 A K) := by
 refine T.F_z30.ok qj3 ?_ ?_
 ·rintro _ _ _ _ ⟨c, a, p, ns, row, h, rfl, _⟩
  rfl
 ·rintro cdv Ar outer s H _ Q E hr ⟨c, a, p, ns, row, h, rfl, hs, hat, sb, hp, k⟩
  have nd := qj3.nd
  refine ⟨_, (qab (qax (i := 1) nd rfl (Or.inl rfl) (qas (pv 0) T.cl_Calls T.me_z12 (qbY T) hr.md T.b_z12 .nil pass0))
   (qab (qax (i := 2) nd rfl (Or.inl rfl) (qae (pv 0) rfl))
   (qab (qau (pv 0) (qaK qce (pv 2) (pv 1)) rfl)
   (qac (qag (qaZ qbj (qae (pv 0) rfl) (qaP (pv 2)) (qaP (qae (pv 0) rfl)))))))), ?_⟩
  have c0 := Sl.init sb hp
  obtain ⟨dc, hc⟩ := c0.ob 0 rfl
  obtain ⟨r1, r2⟩ := hat.row
  refine ⟨_, rfl, c, dc, _, rfl, hc, ln0, c, a, p, ns, _, h, rfl, hs.sq, r1, sb, hp, fun H1 h1 sb1 p1 fm1 => ?_⟩
  have c1 : Sl H h H1 [CalR A a c (p + 1)] := ⟨h1, sb1, qa5.mpr p1, fm1⟩
  obtain ⟨dc1, hc1⟩ := c1.ob 0 rfl
  refine ⟨_, rfl, c, A.C_Calls, dc1, _, _, rfl, hc1, T.cl_Calls, T.na_y11, lz 1, ?_⟩
  refine ⟨_, rfl, _, rfl, _, _, rfl, rfl, _, rfl, c, A.C_Calls, dc1, _, rfl, hc1, T.cl_Calls, T.na_y11, (by show 2 < 1000; decide), ?_⟩
  have ev : V.int (((p + 1 : Nat) : Int) + ((row.length : Nat) : Int)) = iV (p + 1 + row.length) := congrArg V.int (Int.natCast_add (p + 1) row.length).symm
  dsimp only
  rw [ev]
  have c2 := c1.obset (f := "place") (v := iV (p + 1 + row.length)) (j := 1) 0 rfl hc1 (by decide +kernel) (by show 1 < 2; decide)
  obtain ⟨dc2, hc2⟩ := c2.ob 0 rfl
  refine ⟨_, rfl, c, A.C_Calls, dc2, _, _, rfl, hc2, T.cl_Calls, T.na_y10, lz 0, _, rfl, _, rfl, _, rfl, c, A.C_Calls, dc2, _, _, rfl, hc2, T.cl_Calls, T.na_y11, lz 1, _, rfl, a, _, rfl, hs.at_ c2, fun r hr => ?_⟩
  rw [show cutV (ns.map V.int) (some ((p + 1 : Nat) : Int)) (some ((p + 1 + row.length : Nat) : Int)) = row.map iV by
   rw [qgT, Nat.add_sub_cancel_left, <- List.map_drop, <- List.map_take, r2, qkg]]
  have c3 := c2.new (o := .lst (row.map iV)) hr
  obtain ⟨h', p', sb', fm⟩ := (Sl.fold0 (k := [_, _]) (c3.pull 1 rfl)).fin
  refine k _ h' r sb' ?_ fm
  rw [qif, <- Nat.add_assoc]
  exact p'
def sp_z24 (A : Adr) (K : PySem.W.Frag) : Sp := fun vs H Q _ => ∃ (c a : Addr) (p : Nat) (ns : List Int) (row : List Nat) (h : Hp), vs = [.ref c] /\ Req K H h a ns /\ At ns p (rowI row) /\ Sb h H /\ CalR A a c p h /\
 ∀ H' h', Sb h' H' -> CalR A a c (p + (rowI row).length) h' -> Fm H h H' h' -> Q (iV (num row)) H'
theorem qdw (T : Txt K mg A) : FnOk P w K mg base CX0 3 A.a_z24 A.d_z24 ["self"] (sp_z24 A K) := by
 refine T.F_z24.ok qkl ?_ ?_
 ·rintro _ _ _ _ ⟨c, a, p, ns, row, h, rfl, _⟩
  rfl
 ·rintro cdv Ar outer s H _ Q E hr ⟨c, a, p, ns, row, h, rfl, hs, hat, sb, hp, k⟩
  have nd := qkl.nd
  refine ⟨_, (qac (qag (qaw (qcV T) hr.md rfl T.mg_z80 T.F_z80.kp T.b_z80 .nil pass0 (qaa (qas (pv 0) T.cl_Calls T.me_z30 (qg8 T) hr.md T.b_z30 .nil pass0) qad)))), ?_⟩
  have c0 := Sl.init sb hp
  obtain ⟨dc, hc⟩ := c0.ob 0 rfl
  refine ⟨_, rfl, c, dc, _, rfl, hc, ln0, c, a, p, ns, row, h, rfl, hs, hat, sb, hp, fun H1 h1 r sb1 p1 fm1 => ?_⟩
  have c1 : Sl H h H1 [CalR A a c (p + (rowI row).length), Pt r (.lst (row.map iV))] := ⟨h1, sb1, p1, fm1⟩
  obtain ⟨h', p', sb', fm⟩ := c1.fin
  exact ⟨r, row, rfl, SqL.of (c1.get 1 rfl), k _ h' sb' p' fm⟩
end
theorem qf3 {s : Abs} {C : Rc50.Call} (h : codeOf C <= 6 \/ codeOf C = 9) : (does s C).2.numbers = [] := by
 cases C with
 | init => rfl
 | own nm seed => rfl
 | know nm a => dsimp only [does]; split <;> rfl
 | come a b n =>
  dsimp only [does]
  split
  ·rfl
  ·split
   ·rfl
   ·split <;> rfl
 | time ms => dsimp only [does]; split <;> rfl
 | ping nm =>
  dsimp only [does]
  split
  ·rfl
  ·split <;> rfl
 | search nm v =>
  dsimp only [does]
  split
  ·rfl
  ·split <;> rfl
 | store nm key b n =>
  dsimp only [does]
  split
  ·rfl
  ·split
   ·rfl
   ·split <;> rfl
 | result i => simp [codeOf] at h
 | value i => simp [codeOf] at h
 | send i => simp [codeOf] at h
 | near nm i => simp [codeOf] at h
theorem qih {a : Ans} (h : a.numbers = []) : ansV a = [.int a.value] := by unfold ansV; rw [h]; rfl
section
variable {P : Program} {w : World} {K : PySem.W.Frag} {mg : Str -> Option Value} {base : Heap} {A : Adr}
theorem qbV {h : Hp} {o : Addr} {s : Abs} {us : List (Addr × AskT)} {l : List Rc50.Kept} (p : OneR A o s us l h) : ∃ b p sh qv ov, IsOb h A.C_One nOne (vOne s.own s.now b p sh qv ov) o := by
 obtain ⟨b, p, sh, qv, ov, c0⟩ := qaz (Sl.init (Sb.refl h) p)
 exact ⟨b, p, sh, qv, ov, c0.ob 0 rfl⟩
def CallTo (A : Adr) (o c a : Addr) (p : Nat) (H h : Hp) (Q : VK) (s : Abs) (C : Rc50.Call) : Prop := ∀ H' h' us' l' r, Sb h' H' -> stars [OneR A o (does s C).1 us' l', CalR A a c p, TbN A, TbS A, Pt r (.lst (ansV (does s C).2))] h' -> Rel (does s C).1 us' l' -> Fm H h H' h' -> Q (.ref r) H'
def qba (A : Adr) (K : PySem.W.Frag) (n : Nat) : Sp := fun vs H Q _ => ∃ (o c a : Addr) (p : Nat) (ns : List Int) (C : Rc50.Call) (s : Abs) (us : List (Addr × AskT)) (l : List Rc50.Kept) (h : Hp) (lid : Nat), vs = [.ref o, .ref c] /\ codeOf C = n /\ CallIn C /\ At ns p (enc C) /\ Req K H h a ns /\ lid <= 80000 /\ Good lid s /\ Rel s us l /\ Sb h H /\
 stars [OneR A o s us l, CalR A a c p, TbN A, TbS A] h /\ CallTo A o c a (p + (enc C).length) H h Q s C
theorem qbz {H h H' : Hp} {o c a r : Addr} {p : Nat} {Q : VK} {s : Abs} {C : Rc50.Call} {us' : List (Addr × AskT)} {l' : List Rc50.Kept} {x : List As} (c1 : Sl H h H' (OneR A o (does s C).1 us' l' :: CalR A a c p :: TbN A :: TbS A :: x)) (rel : Rel (does s C).1 us' l') (hr : H' r = none) (k : CallTo A o c a p H h Q s C) (hn : codeOf C <= 6 \/ codeOf C = 9) :
  Q (.ref r) (upd H' r (.lst [.int (does s C).2.value])) := by
 rw [<- qih (qf3 hn)]
 have c2 := c1.new (o := .lst (ansV (does s C).2)) hr
 have c3 := (((((c2.pull 0 rfl).pull 4 rfl).pull 4 rfl).pull 4 rfl).pull 4 rfl)
 obtain ⟨h', p', sb', fm⟩ := (Sl.fold0 (k := [_, _, _, _, _]) c3).fin
 exact k _ h' us' l' r sb' p' rel fm
theorem qcv {H h H' : Hp} {o c a r : Addr} {p : Nat} {Q : VK} {s : Abs} {C : Rc50.Call} {us' : List (Addr × AskT)} {l' : List Rc50.Kept} {x : List As} (c1 : Sl H h H' (OneR A o (does s C).1 us' l' :: Pt r (.lst (ansV (does s C).2)) :: CalR A a c p :: TbN A :: TbS A :: x)) (rel : Rel (does s C).1 us' l') (k : CallTo A o c a p H h Q s C) : Q (.ref r) H' := by
 have c3 := (((((c1.pull 1 rfl).pull 4 rfl).pull 4 rfl).pull 4 rfl).pull 4 rfl)
 obtain ⟨h', p', sb', fm⟩ := (Sl.fold0 (k := [_, _, _, _, _]) c3).fin
 exact k _ h' us' l' r sb' p' rel fm
theorem ok_z63 (T : Txt K mg A) : FnOk P w K mg base CX0 7 A.a_z63 A.d_z63 ["one", "calls"] (qba A K 0) := by
 refine T.F_z63.ok qkr ?_ ?_
 ·rintro _ _ _ _ ⟨o, c, a, p, ns, C, s, us, l, h, lid, rfl, _⟩
  rfl
 ·rintro cdv Ar outer s H _ Q E hr ⟨o, c, a, p, ns, C, s0, us, l, h, lid, rfl, hC, ok, hat, hreq, hlid, g, rel, sb, hst, k⟩
  have nd := qkr.nd
  refine ⟨_, (qac (qag (qaB (qaa (qas (pv 0) T.cl_One T.me_z79 (ok_z79 T) hr.md T.b_z79 .nil pass0) qad)))), ?_⟩
  obtain rfl : C = .init := by cases C <;> first | rfl | (simp [codeOf] at hC)
  have c0 := (Sl.init sb hst).open0 (k := [_, _, _, _])
  obtain ⟨hO, kO⟩ := c0.callX
  obtain ⟨bO, pO, shO, qO, uO, hoo⟩ := qbV kO.p
  obtain ⟨dx, hx⟩ := hoo.up kO.sb
  obtain ⟨hM, kz⟩ := c0.callX
  refine ⟨_, rfl, o, dx, _, rfl, hx, ln0, o, s0, us, l, hM, rfl, kz.sb, kz.p, fun H3 h3 us3 l3 sb3 p3 rel3 fm3 => ⟨(by show 1 <= sizeLine; decide), fun r hr => ?_⟩⟩
  have ep : p + (enc (.init )).length = p := by
   unfold enc
   simp only [List.length_cons, List.length_append, List.length_nil]
   try omega
  rw [ep] at k
  exact qbz (s := s0) (C := .init) (kz.ret p3 sb3 fm3) rel3 hr k (.inl (by show 0 <= 6; decide))
theorem ok_z88 (T : Txt K mg A) : FnOk P w K mg base CX0 7 A.a_z88 A.d_z88 ["one", "calls"] (qba A K 1) := by
 refine T.F_z88.ok qjW ?_ ?_
 ·rintro _ _ _ _ ⟨o, c, a, p, ns, C, s, us, l, h, lid, rfl, _⟩
  rfl
 ·rintro cdv Ar outer s H _ Q E hr ⟨o, c, a, p, ns, C, s0, us, l, h, lid, rfl, hC, ok, hat, hreq, hlid, g, rel, sb, hst, k⟩
  have nd := qjW.nd
  refine ⟨_, (qab (qax (i := 2) nd rfl (Or.inl rfl) (qas (pv 1) T.cl_Calls T.me_z12 (qbY T) hr.md T.b_z12 .nil pass0))
   (qac (qag (qaB (qaa (qak (pv 0) T.cl_One T.me_z97 (ok_z97 T) hr.md T.b_z97 .nil pass0 (qaa (qas (pv 1) T.cl_Calls T.me_z24 (qdw T) hr.md T.b_z24 .nil pass0) (qaa (pv 2) qad))) qad))))), ?_⟩
  obtain ⟨nm, seed, rfl⟩ : ∃ nm seed, C = .own nm seed := by cases C <;> first | exact ⟨_, _, rfl⟩ | (simp [codeOf] at hC)
  have c0 := (Sl.init sb hst).open0 (k := [_, _, _, _])
  have a0 := (At.tail (ns := ns) (p := p) hat).1
  have a1 := (At.tail (ns := ns) (p := p) hat).2
  obtain ⟨dc0, hc0⟩ := c0.ob 1 rfl
  obtain ⟨h10, kx0⟩ := (c0.pull 1 rfl).callX
  refine ⟨_, rfl, c, dc0, _, rfl, hc0, ln0, c, a, p, ns, _, h10, rfl, hreq.at_ c0, a0, kx0.sb, kx0.p, fun H10 h20 sb0 p0 fm0 => ?_⟩
  have c1 := (kx0.ret p0 sb0 fm0).pull 1 rfl
  obtain ⟨hO, kO⟩ := c1.callX
  obtain ⟨bO, pO, shO, qO, uO, hoo⟩ := qbV kO.p
  obtain ⟨dx, hx⟩ := hoo.up kO.sb
  obtain ⟨dc1, hc1⟩ := c1.ob 1 rfl
  obtain ⟨h11, kx1⟩ := (c1.pull 1 rfl).callX
  refine ⟨_, rfl, o, dx, _, rfl, hx, ln0, _, rfl, c, dc1, _, rfl, hc1, ln0, c, a, (p + 1), ns, nm, h11, rfl, hreq.part (c1.pull 1 rfl) kx1, a1, kx1.sb, kx1.p, fun H11 h21 sb1 p1 fm1 => ?_⟩
  have c2 := (kx1.ret p1 sb1 fm1).pull 1 rfl
  obtain ⟨hM, kz⟩ := c2.callX
  refine ⟨_, rfl, o, num nm, seed, s0, us, l, hM, rfl, kz.sb, kz.p, fun H3 h3 us3 l3 sb3 p3 rel3 fm3 => ⟨(by show 1 <= sizeLine; decide), fun r hr => ?_⟩⟩
  have ep : p + (enc (.own nm seed)).length = ((p + 1) + (rowI nm).length) := by
   unfold enc
   simp only [List.length_cons, List.length_append, List.length_nil]
   try omega
  rw [ep] at k
  exact qbz (s := s0) (C := .own nm seed) (kz.ret p3 sb3 fm3) rel3 hr k (.inl (by show 1 <= 6; decide))
theorem ok_z84 (T : Txt K mg A) : FnOk P w K mg base CX0 7 A.a_z84 A.d_z84 ["one", "calls"] (qba A K 2) := by
 refine T.F_z84.ok qi8 ?_ ?_
 ·rintro _ _ _ _ ⟨o, c, a, p, ns, C, s, us, l, h, lid, rfl, _⟩
  rfl
 ·rintro cdv Ar outer s H _ Q E hr ⟨o, c, a, p, ns, C, s0, us, l, h, lid, rfl, hC, ok, hat, hreq, hlid, g, rel, sb, hst, k⟩
  have nd := qi8.nd
  refine ⟨_, (qab (qax (i := 2) nd rfl (Or.inl rfl) (qas (pv 1) T.cl_Calls T.me_z12 (qbY T) hr.md T.b_z12 .nil pass0))
   (qac (qag (qaB (qaa (qak (pv 0) T.cl_One T.me_z95 (ok_z95 T) hr.md T.b_z95 .nil pass0 (qaa (qas (pv 1) T.cl_Calls T.me_z24 (qdw T) hr.md T.b_z24 .nil pass0) (qaa (pv 2) qad))) qad))))), ?_⟩
  obtain ⟨nm, ad, rfl⟩ : ∃ nm ad, C = .know nm ad := by cases C <;> first | exact ⟨_, _, rfl⟩ | (simp [codeOf] at hC)
  have c0 := (Sl.init sb hst).open0 (k := [_, _, _, _])
  have a0 := (At.tail (ns := ns) (p := p) hat).1
  have a1 := (At.tail (ns := ns) (p := p) hat).2
  obtain ⟨dc0, hc0⟩ := c0.ob 1 rfl
  obtain ⟨h10, kx0⟩ := (c0.pull 1 rfl).callX
  refine ⟨_, rfl, c, dc0, _, rfl, hc0, ln0, c, a, p, ns, _, h10, rfl, hreq.at_ c0, a0, kx0.sb, kx0.p, fun H10 h20 sb0 p0 fm0 => ?_⟩
  have c1 := (kx0.ret p0 sb0 fm0).pull 1 rfl
  obtain ⟨hO, kO⟩ := c1.callX
  obtain ⟨bO, pO, shO, qO, uO, hoo⟩ := qbV kO.p
  obtain ⟨dx, hx⟩ := hoo.up kO.sb
  obtain ⟨dc1, hc1⟩ := c1.ob 1 rfl
  obtain ⟨h11, kx1⟩ := (c1.pull 1 rfl).callX
  refine ⟨_, rfl, o, dx, _, rfl, hx, ln0, _, rfl, c, dc1, _, rfl, hc1, ln0, c, a, (p + 1), ns, nm, h11, rfl, hreq.part (c1.pull 1 rfl) kx1, a1, kx1.sb, kx1.p, fun H11 h21 sb1 p1 fm1 => ?_⟩
  have c2 := (kx1.ret p1 sb1 fm1).pull 1 rfl
  obtain ⟨hM, kz⟩ := c2.callX
  refine ⟨_, rfl, o, nm, ad, s0, us, l, hM, rfl, (num20 ok.1.1 (Nat.le_of_eq ok.1.2)), ⟨⟨lid, by omega, g⟩, rel, kz.sb, kz.p⟩, fun H3 h3 us3 l3 sb3 p3 rel3 fm3 => ⟨(by show 1 <= sizeLine; decide), fun r hr => ?_⟩⟩
  have ep : p + (enc (.know nm ad)).length = ((p + 1) + (rowI nm).length) := by
   unfold enc
   simp only [List.length_cons, List.length_append, List.length_nil]
   try omega
  rw [ep] at k
  exact qbz (kz.ret p3 sb3 fm3) rel3 hr k (.inl (by show 2 <= 6; decide))
theorem ok_z85 (T : Txt K mg A) (B : Bse K mg base) : FnOk P w K mg base CX0 9 A.a_z85 A.d_z85 ["one", "calls"] (qba A K 3) := by
 refine T.F_z85.ok qiY ?_ ?_
 ·rintro _ _ _ _ ⟨o, c, a, p, ns, C, s, us, l, h, lid, rfl, _⟩
  rfl
 ·rintro cdv Ar outer s H _ Q E hr ⟨o, c, a, p, ns, C, s0, us, l, h, lid, rfl, hC, ok, hat, hreq, hlid, g, rel, sb, hst, k⟩
  have nd := qiY.nd
  refine ⟨_, (qab (qax (i := 2) nd rfl (Or.inl rfl) (qas (pv 1) T.cl_Calls T.me_z12 (qbY T) hr.md T.b_z12 .nil pass0))
   (qac (qag (qaB (qaa (qak (pv 0) T.cl_One T.me_z91 (ok_z91 T B) hr.md T.b_z91 .nil pass0 (qaa (pv 2) (qaa (qas (pv 1) T.cl_Calls T.me_z30 (qg8 T) hr.md T.b_z30 .nil pass0) qad))) qad))))), ?_⟩
  obtain ⟨ad, bs, n, rfl⟩ : ∃ ad bs n, C = .come ad bs n := by cases C <;> first | exact ⟨_, _, _, rfl⟩ | (simp [codeOf] at hC)
  obtain rfl : n = (bs.length : Int) := ok.1.2
  have c0 := (Sl.init sb hst).open0 (k := [_, _, _, _])
  have a0 := (At.tail (ns := ns) (p := p) hat).1
  have a1 := (At.tail (ns := ns) (p := p) hat).2
  obtain ⟨dc0, hc0⟩ := c0.ob 1 rfl
  obtain ⟨h10, kx0⟩ := (c0.pull 1 rfl).callX
  refine ⟨_, rfl, c, dc0, _, rfl, hc0, ln0, c, a, p, ns, _, h10, rfl, hreq.at_ c0, a0, kx0.sb, kx0.p, fun H10 h20 sb0 p0 fm0 => ?_⟩
  have c1 := (kx0.ret p0 sb0 fm0).pull 1 rfl
  obtain ⟨hO, kO⟩ := c1.callX
  obtain ⟨bO, pO, shO, qO, uO, hoo⟩ := qbV kO.p
  obtain ⟨dx, hx⟩ := hoo.up kO.sb
  obtain ⟨dc1, hc1⟩ := c1.ob 1 rfl
  obtain ⟨h11, kx1⟩ := (c1.pull 1 rfl).callX
  refine ⟨_, rfl, o, dx, _, rfl, hx, ln0, _, rfl, _, rfl, c, dc1, _, rfl, hc1, ln0, c, a, (p + 1), ns, bs, h11, rfl, hreq.part (c1.pull 1 rfl) kx1, a1, kx1.sb, kx1.p, fun H11 h21 rr sb1 p1 fm1 => ?_⟩
  have c2 := ((kx1.ret p1 sb1 fm1).open0 (k := [_, _])).pull 2 rfl
  have c2 := (((((c2.pull 2 rfl).pull 4 rfl).pull 4 rfl).pull 4 rfl).pull 4 rfl)
  obtain ⟨hM, kz⟩ := (Sl.fold0 (k := [_, _, _]) (((((c2.pull 1 rfl).pull 3 rfl).pull 3 rfl).pull 3 rfl))).callX
  refine ⟨o, rr, ad, bs, s0, us, l, hM, rfl, c2.get 4 rfl, ok.1.1, ok.2, ⟨lid, by omega, g⟩, rel, kz.sb, kz.p, fun H3 h3 us3 l3 sb3 p3 rel3 fm3 => ⟨(by show 1 <= sizeLine; decide), fun r hr => ?_⟩⟩
  have ep : p + (enc (.come ad bs (bs.length : Int))).length = ((p + 1) + (rowI bs).length) := by
   unfold enc
   simp only [List.length_cons, List.length_append, List.length_nil]
   try omega
  rw [ep] at k
  have c9 := (kz.ret p3 sb3 fm3).open0 (k := [_, _, _])
  exact qbz (((((c9.pull 2 rfl).pull 2 rfl).pull 3 rfl).pull 3 rfl)) rel3 hr k (.inl (by show 3 <= 6; decide))
theorem ok_z77 (T : Txt K mg A) : FnOk P w K mg base CX0 8 A.a_z77 A.d_z77 ["one", "calls"] (qba A K 4) := by
 refine T.F_z77.ok qjj ?_ ?_
 ·rintro _ _ _ _ ⟨o, c, a, p, ns, C, s, us, l, h, lid, rfl, _⟩
  rfl
 ·rintro cdv Ar outer s H _ Q E hr ⟨o, c, a, p, ns, C, s0, us, l, h, lid, rfl, hC, ok, hat, hreq, hlid, g, rel, sb, hst, k⟩
  have nd := qjj.nd
  refine ⟨_, (qac (qag (qaB (qaa (qak (pv 0) T.cl_One T.me_z86 (ok_z86 T) hr.md T.b_z86 .nil pass0 (qaa (qas (pv 1) T.cl_Calls T.me_z12 (qbY T) hr.md T.b_z12 .nil pass0) qad)) qad)))), ?_⟩
  obtain ⟨ms, rfl⟩ : ∃ ms, C = .time ms := by cases C <;> first | exact ⟨_, rfl⟩ | (simp [codeOf] at hC)
  have c0 := (Sl.init sb hst).open0 (k := [_, _, _, _])
  have a0 := (At.tail (ns := ns) (p := p) hat).1
  obtain ⟨hO, kO⟩ := c0.callX
  obtain ⟨bO, pO, shO, qO, uO, hoo⟩ := qbV kO.p
  obtain ⟨dx, hx⟩ := hoo.up kO.sb
  obtain ⟨dc0, hc0⟩ := c0.ob 1 rfl
  obtain ⟨h10, kx0⟩ := (c0.pull 1 rfl).callX
  refine ⟨_, rfl, o, dx, _, rfl, hx, ln0, _, rfl, c, dc0, _, rfl, hc0, ln0, c, a, p, ns, _, h10, rfl, hreq.at_ c0, a0, kx0.sb, kx0.p, fun H10 h20 sb0 p0 fm0 => ?_⟩
  have c1 := (kx0.ret p0 sb0 fm0).pull 1 rfl
  obtain ⟨hM, kz⟩ := c1.callX
  refine ⟨o, ms, s0, us, l, hM, rfl, ⟨⟨lid, by omega, g⟩, rel, kz.sb, kz.p⟩, fun H3 h3 us3 l3 sb3 p3 rel3 fm3 => ⟨(by show 1 <= sizeLine; decide), fun r hr => ?_⟩⟩
  have ep : p + (enc (.time ms)).length = (p + 1) := by
   unfold enc
   simp only [List.length_cons, List.length_append, List.length_nil]
   try omega
  rw [ep] at k
  exact qbz (kz.ret p3 sb3 fm3) rel3 hr k (.inl (by show 4 <= 6; decide))
theorem ok_z83 (T : Txt K mg A) : FnOk P w K mg base CX0 6 A.a_z83 A.d_z83 ["one", "calls"] (qba A K 5) := by
 refine T.F_z83.ok qjB ?_ ?_
 ·rintro _ _ _ _ ⟨o, c, a, p, ns, C, s, us, l, h, lid, rfl, _⟩
  rfl
 ·rintro cdv Ar outer s H _ Q E hr ⟨o, c, a, p, ns, C, s0, us, l, h, lid, rfl, hC, ok, hat, hreq, hlid, g, rel, sb, hst, k⟩
  have nd := qjB.nd
  refine ⟨_, (qac (qag (qaB (qaa (qak (pv 0) T.cl_One T.me_z94 (ok_z94 T) hr.md T.b_z94 .nil pass0 (qaa (qas (pv 1) T.cl_Calls T.me_z24 (qdw T) hr.md T.b_z24 .nil pass0) qad)) qad)))), ?_⟩
  obtain ⟨nm, rfl⟩ : ∃ nm, C = .ping nm := by cases C <;> first | exact ⟨_, rfl⟩ | (simp [codeOf] at hC)
  have c0 := (Sl.init sb hst).open0 (k := [_, _, _, _])
  have a0 : At ns p (rowI nm) := hat
  obtain ⟨hO, kO⟩ := c0.callX
  obtain ⟨bO, pO, shO, qO, uO, hoo⟩ := qbV kO.p
  obtain ⟨dx, hx⟩ := hoo.up kO.sb
  obtain ⟨dc0, hc0⟩ := c0.ob 1 rfl
  obtain ⟨h10, kx0⟩ := (c0.pull 1 rfl).callX
  refine ⟨_, rfl, o, dx, _, rfl, hx, ln0, _, rfl, c, dc0, _, rfl, hc0, ln0, c, a, p, ns, nm, h10, rfl, hreq.part (c0.pull 1 rfl) kx0, a0, kx0.sb, kx0.p, fun H10 h20 sb0 p0 fm0 => ?_⟩
  have c1 := (kx0.ret p0 sb0 fm0).pull 1 rfl
  obtain ⟨hM, kz⟩ := c1.callX
  refine ⟨o, nm, s0, us, l, hM, rfl, (num20 ok.1.1 (Nat.le_of_eq ok.1.2)), ⟨⟨lid, by omega, g⟩, rel, kz.sb, kz.p⟩, fun H3 h3 us3 l3 sb3 p3 rel3 fm3 => ⟨(by show 1 <= sizeLine; decide), fun r hr => ?_⟩⟩
  have ep : p + (enc (.ping nm)).length = (p + (rowI nm).length) := by
   unfold enc
   simp only [List.length_cons, List.length_append, List.length_nil]
   try omega
  rw [ep] at k
  exact qbz (kz.ret p3 sb3 fm3) rel3 hr k (.inl (by show 5 <= 6; decide))
theorem ok_z51 (T : Txt K mg A) (B : Bse K mg base) : FnOk P w K mg base CX0 7 A.a_z51 A.d_z51 ["one", "calls"] (qba A K 6) := by
 refine T.F_z51.ok qkj ?_ ?_
 ·rintro _ _ _ _ ⟨o, c, a, p, ns, C, s, us, l, h, lid, rfl, _⟩
  rfl
 ·rintro cdv Ar outer s H _ Q E hr ⟨o, c, a, p, ns, C, s0, us, l, h, lid, rfl, hC, ok, hat, hreq, hlid, g, rel, sb, hst, k⟩
  have nd := qkj.nd
  refine ⟨_, (qab (qax (i := 2) nd rfl (Or.inl rfl) (qas (pv 1) T.cl_Calls T.me_z12 (qbY T) hr.md T.b_z12 .nil pass0))
   (qac (qag (qaB (qaa (qak (pv 0) T.cl_One T.me_z59 (ok_z59 T B) hr.md T.b_z59 .nil pass0 (qaa (qas (pv 1) T.cl_Calls T.me_z24 (qdw T) hr.md T.b_z24 .nil pass0) (qaa (pv 2) qad))) qad))))), ?_⟩
  obtain ⟨nm, v, rfl⟩ : ∃ nm v, C = .search nm v := by cases C <;> first | exact ⟨_, _, rfl⟩ | (simp [codeOf] at hC)
  have c0 := (Sl.init sb hst).open0 (k := [_, _, _, _])
  have a0 := (At.tail (ns := ns) (p := p) hat).1
  have a1 := (At.tail (ns := ns) (p := p) hat).2
  obtain ⟨dc0, hc0⟩ := c0.ob 1 rfl
  obtain ⟨h10, kx0⟩ := (c0.pull 1 rfl).callX
  refine ⟨_, rfl, c, dc0, _, rfl, hc0, ln0, c, a, p, ns, _, h10, rfl, hreq.at_ c0, a0, kx0.sb, kx0.p, fun H10 h20 sb0 p0 fm0 => ?_⟩
  have c1 := (kx0.ret p0 sb0 fm0).pull 1 rfl
  obtain ⟨hO, kO⟩ := c1.callX
  obtain ⟨bO, pO, shO, qO, uO, hoo⟩ := qbV kO.p
  obtain ⟨dx, hx⟩ := hoo.up kO.sb
  obtain ⟨dc1, hc1⟩ := c1.ob 1 rfl
  obtain ⟨h11, kx1⟩ := (c1.pull 1 rfl).callX
  refine ⟨_, rfl, o, dx, _, rfl, hx, ln0, _, rfl, c, dc1, _, rfl, hc1, ln0, c, a, (p + 1), ns, nm, h11, rfl, hreq.part (c1.pull 1 rfl) kx1, a1, kx1.sb, kx1.p, fun H11 h21 sb1 p1 fm1 => ?_⟩
  have c2 := (kx1.ret p1 sb1 fm1).pull 1 rfl
  obtain ⟨hM, kz⟩ := (Sl.fold0 (k := [_, _, _]) (((((c2.pull 1 rfl).pull 3 rfl).pull 3 rfl).pull 3 rfl))).callX
  refine ⟨_, rfl, o, nm, v, s0, us, l, hM, rfl, (num20 ok.1.1 (Nat.le_of_eq ok.1.2)), ⟨lid, by omega, g⟩, rel, kz.sb, kz.p, fun H3 h3 us3 l3 sb3 p3 rel3 fm3 => ⟨(by show 1 <= sizeLine; decide), fun r hr => ?_⟩⟩
  have ep : p + (enc (.search nm v)).length = ((p + 1) + (rowI nm).length) := by
   unfold enc
   simp only [List.length_cons, List.length_append, List.length_nil]
   try omega
  rw [ep] at k
  have c9 := (kz.ret p3 sb3 fm3).open0 (k := [_, _, _])
  exact qbz (((((c9.pull 2 rfl).pull 2 rfl).pull 3 rfl).pull 3 rfl)) rel3 hr k (.inl (by show 6 <= 6; decide))
theorem ok_z52 (T : Txt K mg A) : FnOk P w K mg base CX0 5 A.a_z52 A.d_z52 ["one", "calls"] (qba A K 7) := by
 refine T.F_z52.ok qiV ?_ ?_
 ·rintro _ _ _ _ ⟨o, c, a, p, ns, C, s, us, l, h, lid, rfl, _⟩
  rfl
 ·rintro cdv Ar outer s H _ Q E hr ⟨o, c, a, p, ns, C, s0, us, l, h, lid, rfl, hC, ok, hat, hreq, hlid, g, rel, sb, hst, k⟩
  have nd := qiV.nd
  refine ⟨_, (qac (qag (qak (pv 0) T.cl_One T.me_z66 (ok_z66 T) hr.md T.b_z66 .nil pass0 (qaa (qas (pv 1) T.cl_Calls T.me_z12 (qbY T) hr.md T.b_z12 .nil pass0) qad)))), ?_⟩
  obtain ⟨i, rfl⟩ : ∃ i, C = .result i := by cases C <;> first | exact ⟨_, rfl⟩ | (simp [codeOf] at hC)
  have c0 := (Sl.init sb hst).open0 (k := [_, _, _, _])
  have a0 := (At.tail (ns := ns) (p := p) hat).1
  obtain ⟨hO, kO⟩ := c0.callX
  obtain ⟨bO, pO, shO, qO, uO, hoo⟩ := qbV kO.p
  obtain ⟨dx, hx⟩ := hoo.up kO.sb
  obtain ⟨dc0, hc0⟩ := c0.ob 1 rfl
  obtain ⟨h10, kx0⟩ := (c0.pull 1 rfl).callX
  refine ⟨_, rfl, o, dx, _, rfl, hx, ln0, _, rfl, c, dc0, _, rfl, hc0, ln0, c, a, p, ns, _, h10, rfl, hreq.at_ c0, a0, kx0.sb, kx0.p, fun H10 h20 sb0 p0 fm0 => ?_⟩
  have c1 := (kx0.ret p0 sb0 fm0).pull 1 rfl
  obtain ⟨hM, kz⟩ := c1.callX
  refine ⟨o, i, s0, us, l, hM, rfl, ⟨⟨lid, by omega, g⟩, rel, kz.sb, kz.p⟩, fun H3 h3 us3 l3 r sb3 p3 rel3 fm3 => ?_⟩
  have ep : p + (enc (.result i)).length = (p + 1) := by
   unfold enc
   simp only [List.length_cons, List.length_append, List.length_nil]
   try omega
  rw [ep] at k
  have c9 := (kz.ret p3 sb3 fm3).open0 (k := [_, _])
  exact qcv c9 rel3 k
theorem ok_z69 (T : Txt K mg A) : FnOk P w K mg base CX0 3 A.a_z69 A.d_z69 ["one", "calls"] (qba A K 8) := by
 refine T.F_z69.ok qkq ?_ ?_
 ·rintro _ _ _ _ ⟨o, c, a, p, ns, C, s, us, l, h, lid, rfl, _⟩
  rfl
 ·rintro cdv Ar outer s H _ Q E hr ⟨o, c, a, p, ns, C, s0, us, l, h, lid, rfl, hC, ok, hat, hreq, hlid, g, rel, sb, hst, k⟩
  have nd := qkq.nd
  refine ⟨_, (qac (qag (qak (pv 0) T.cl_One T.me_z73 (ok_z73 T) hr.md T.b_z73 .nil pass0 (qaa (qas (pv 1) T.cl_Calls T.me_z12 (qbY T) hr.md T.b_z12 .nil pass0) qad)))), ?_⟩
  obtain ⟨i, rfl⟩ : ∃ i, C = .value i := by cases C <;> first | exact ⟨_, rfl⟩ | (simp [codeOf] at hC)
  have c0 := (Sl.init sb hst).open0 (k := [_, _, _, _])
  have a0 := (At.tail (ns := ns) (p := p) hat).1
  obtain ⟨hO, kO⟩ := c0.callX
  obtain ⟨bO, pO, shO, qO, uO, hoo⟩ := qbV kO.p
  obtain ⟨dx, hx⟩ := hoo.up kO.sb
  obtain ⟨dc0, hc0⟩ := c0.ob 1 rfl
  obtain ⟨h10, kx0⟩ := (c0.pull 1 rfl).callX
  refine ⟨_, rfl, o, dx, _, rfl, hx, ln0, _, rfl, c, dc0, _, rfl, hc0, ln0, c, a, p, ns, _, h10, rfl, hreq.at_ c0, a0, kx0.sb, kx0.p, fun H10 h20 sb0 p0 fm0 => ?_⟩
  have c1 := (kx0.ret p0 sb0 fm0).pull 1 rfl
  obtain ⟨hM, kz⟩ := c1.callX
  refine ⟨o, i, s0, us, l, hM, rfl, ⟨⟨lid, by omega, g⟩, rel, kz.sb, kz.p⟩, fun H3 h3 us3 l3 r sb3 p3 rel3 fm3 => ?_⟩
  have ep : p + (enc (.value i)).length = (p + 1) := by
   unfold enc
   simp only [List.length_cons, List.length_append, List.length_nil]
   try omega
  rw [ep] at k
  have c9 := (kz.ret p3 sb3 fm3).open0 (k := [_, _])
  exact qcv c9 rel3 k
theorem ok_z67 (T : Txt K mg A) : FnOk P w K mg base CX0 6 A.a_z67 A.d_z67 ["one", "calls"] (qba A K 9) := by
 refine T.F_z67.ok qjP ?_ ?_
 ·rintro _ _ _ _ ⟨o, c, a, p, ns, C, s, us, l, h, lid, rfl, _⟩
  rfl
 ·rintro cdv Ar outer s H _ Q E hr ⟨o, c, a, p, ns, C, s0, us, l, h, lid, rfl, hC, ok, hat, hreq, hlid, g, rel, sb, hst, k⟩
  have nd := qjP.nd
  refine ⟨_, (qab (qax (i := 2) nd rfl (Or.inl rfl) (qas (pv 1) T.cl_Calls T.me_z24 (qdw T) hr.md T.b_z24 .nil pass0))
   (qab (qax (i := 3) nd rfl (Or.inl rfl) (qas (pv 1) T.cl_Calls T.me_z24 (qdw T) hr.md T.b_z24 .nil pass0))
   (qac (qag (qaB (qaa (qak (pv 0) T.cl_One T.me_z74 (ok_z74 T) hr.md T.b_z74 .nil pass0 (qaa (pv 2) (qaa (pv 3) (qaa (qas (pv 1) T.cl_Calls T.me_z30 (qg8 T) hr.md T.b_z30 .nil pass0) qad)))) qad)))))), ?_⟩
  obtain ⟨nm, key, bs, n, rfl⟩ : ∃ nm key bs n, C = .store nm key bs n := by cases C <;> first | exact ⟨_, _, _, _, rfl⟩ | (simp [codeOf] at hC)
  obtain rfl : n = (bs.length : Int) := ok.1.2.2.2.2.2
  have c0 := (Sl.init sb hst).open0 (k := [_, _, _, _])
  have t0 : At ns p (rowI nm ++ (rowI key ++ rowI bs)) := hat
  have a0 := t0.app.1
  have t1 := t0.app.2
  have a1 := t1.app.1
  have a2 := t1.app.2
  obtain ⟨dc0, hc0⟩ := c0.ob 1 rfl
  obtain ⟨h10, kx0⟩ := (c0.pull 1 rfl).callX
  refine ⟨_, rfl, c, dc0, _, rfl, hc0, ln0, c, a, p, ns, nm, h10, rfl, hreq.part (c0.pull 1 rfl) kx0, a0, kx0.sb, kx0.p, fun H10 h20 sb0 p0 fm0 => ?_⟩
  have c1 := (kx0.ret p0 sb0 fm0).pull 1 rfl
  obtain ⟨dc1, hc1⟩ := c1.ob 1 rfl
  obtain ⟨h11, kx1⟩ := (c1.pull 1 rfl).callX
  refine ⟨_, rfl, c, dc1, _, rfl, hc1, ln0, c, a, (p + (rowI nm).length), ns, key, h11, rfl, hreq.part (c1.pull 1 rfl) kx1, a1, kx1.sb, kx1.p, fun H11 h21 sb1 p1 fm1 => ?_⟩
  have c2 := (kx1.ret p1 sb1 fm1).pull 1 rfl
  obtain ⟨hO, kO⟩ := c2.callX
  obtain ⟨bO, pO, shO, qO, uO, hoo⟩ := qbV kO.p
  obtain ⟨dx, hx⟩ := hoo.up kO.sb
  obtain ⟨dc2, hc2⟩ := c2.ob 1 rfl
  obtain ⟨h12, kx2⟩ := (c2.pull 1 rfl).callX
  refine ⟨_, rfl, o, dx, _, rfl, hx, ln0, _, rfl, _, rfl, _, rfl, c, dc2, _, rfl, hc2, ln0, c, a, ((p + (rowI nm).length) + (rowI key).length), ns, bs, h12, rfl, hreq.part (c2.pull 1 rfl) kx2, a2, kx2.sb, kx2.p, fun H12 h22 rr sb2 p2 fm2 => ?_⟩
  have c3 := ((kx2.ret p2 sb2 fm2).open0 (k := [_, _])).pull 2 rfl
  have c3 := (((((c3.pull 2 rfl).pull 4 rfl).pull 4 rfl).pull 4 rfl).pull 4 rfl)
  obtain ⟨hM, kz⟩ := c3.callX
  refine ⟨o, rr, nm, key, bs, s0, us, l, hM, rfl, (num20 ok.1.1 (Nat.le_of_eq ok.1.2.1)), c3.get 4 rfl, ok.2, ⟨⟨lid, by omega, g⟩, rel, kz.sb, kz.p⟩, fun H3 h3 us3 l3 sb3 p3 rel3 fm3 => ⟨(by show 1 <= sizeLine; decide), fun r hr => ?_⟩⟩
  have ep : p + (enc (.store nm key bs (bs.length : Int))).length = (((p + (rowI nm).length) + (rowI key).length) + (rowI bs).length) := by
   unfold enc
   simp only [List.length_cons, List.length_append, List.length_nil]
   try omega
  rw [ep] at k
  exact qbz (kz.ret p3 sb3 fm3) rel3 hr k (.inr rfl)
theorem ok_z72 (T : Txt K mg A) : FnOk P w K mg base CX0 5 A.a_z72 A.d_z72 ["one", "calls"] (qba A K 10) := by
 refine T.F_z72.ok qiB ?_ ?_
 ·rintro _ _ _ _ ⟨o, c, a, p, ns, C, s, us, l, h, lid, rfl, _⟩
  rfl
 ·rintro cdv Ar outer s H _ Q E hr ⟨o, c, a, p, ns, C, s0, us, l, h, lid, rfl, hC, ok, hat, hreq, hlid, g, rel, sb, hst, k⟩
  have nd := qiB.nd
  refine ⟨_, (qac (qag (qak (pv 0) T.cl_One T.me_z90 (ok_z90 T) hr.md T.b_z90 .nil pass0 (qaa (qas (pv 1) T.cl_Calls T.me_z12 (qbY T) hr.md T.b_z12 .nil pass0) qad)))), ?_⟩
  obtain ⟨i, rfl⟩ : ∃ i, C = .send i := by cases C <;> first | exact ⟨_, rfl⟩ | (simp [codeOf] at hC)
  have c0 := (Sl.init sb hst).open0 (k := [_, _, _, _])
  have a0 := (At.tail (ns := ns) (p := p) hat).1
  obtain ⟨hO, kO⟩ := c0.callX
  obtain ⟨bO, pO, shO, qO, uO, hoo⟩ := qbV kO.p
  obtain ⟨dx, hx⟩ := hoo.up kO.sb
  obtain ⟨dc0, hc0⟩ := c0.ob 1 rfl
  obtain ⟨h10, kx0⟩ := (c0.pull 1 rfl).callX
  refine ⟨_, rfl, o, dx, _, rfl, hx, ln0, _, rfl, c, dc0, _, rfl, hc0, ln0, c, a, p, ns, _, h10, rfl, hreq.at_ c0, a0, kx0.sb, kx0.p, fun H10 h20 sb0 p0 fm0 => ?_⟩
  have c1 := (kx0.ret p0 sb0 fm0).pull 1 rfl
  obtain ⟨hM, kz⟩ := c1.callX
  refine ⟨o, i, s0, us, l, hM, rfl, ⟨⟨lid, by omega, g⟩, rel, kz.sb, kz.p⟩, fun H3 h3 us3 l3 r sb3 p3 rel3 fm3 => ?_⟩
  have ep : p + (enc (.send i)).length = (p + 1) := by
   unfold enc
   simp only [List.length_cons, List.length_append, List.length_nil]
   try omega
  rw [ep] at k
  have c9 := (kz.ret p3 sb3 fm3).open0 (k := [_, _])
  exact qcv c9 rel3 k
theorem ok_z71 (T : Txt K mg A) (B : Bse K mg base) : FnOk P w K mg base CX0 5 A.a_z71 A.d_z71 ["one", "calls"] (qba A K 11) := by
 refine T.F_z71.ok qjA ?_ ?_
 ·rintro _ _ _ _ ⟨o, c, a, p, ns, C, s, us, l, h, lid, rfl, _⟩
  rfl
 ·rintro cdv Ar outer s H _ Q E hr ⟨o, c, a, p, ns, C, s0, us, l, h, lid, rfl, hC, ok, hat, hreq, hlid, g, rel, sb, hst, k⟩
  have nd := qjA.nd
  refine ⟨_, (qab (qax (i := 2) nd rfl (Or.inl rfl) (qas (pv 1) T.cl_Calls T.me_z12 (qbY T) hr.md T.b_z12 .nil pass0))
   (qac (qag (qak (pv 0) T.cl_One T.me_z89 (ok_z89 T B) hr.md T.b_z89 .nil pass0 (qaa (qas (pv 1) T.cl_Calls T.me_z24 (qdw T) hr.md T.b_z24 .nil pass0) (qaa (pv 2) qad)))))), ?_⟩
  obtain ⟨nm, i, rfl⟩ : ∃ nm i, C = .near nm i := by cases C <;> first | exact ⟨_, _, rfl⟩ | (simp [codeOf] at hC)
  have c0 := (Sl.init sb hst).open0 (k := [_, _, _, _])
  have a0 := (At.tail (ns := ns) (p := p) hat).1
  have a1 := (At.tail (ns := ns) (p := p) hat).2
  obtain ⟨dc0, hc0⟩ := c0.ob 1 rfl
  obtain ⟨h10, kx0⟩ := (c0.pull 1 rfl).callX
  refine ⟨_, rfl, c, dc0, _, rfl, hc0, ln0, c, a, p, ns, _, h10, rfl, hreq.at_ c0, a0, kx0.sb, kx0.p, fun H10 h20 sb0 p0 fm0 => ?_⟩
  have c1 := (kx0.ret p0 sb0 fm0).pull 1 rfl
  obtain ⟨hO, kO⟩ := c1.callX
  obtain ⟨bO, pO, shO, qO, uO, hoo⟩ := qbV kO.p
  obtain ⟨dx, hx⟩ := hoo.up kO.sb
  obtain ⟨dc1, hc1⟩ := c1.ob 1 rfl
  obtain ⟨h11, kx1⟩ := (c1.pull 1 rfl).callX
  refine ⟨_, rfl, o, dx, _, rfl, hx, ln0, _, rfl, c, dc1, _, rfl, hc1, ln0, c, a, (p + 1), ns, nm, h11, rfl, hreq.part (c1.pull 1 rfl) kx1, a1, kx1.sb, kx1.p, fun H11 h21 sb1 p1 fm1 => ?_⟩
  have c2 := (kx1.ret p1 sb1 fm1).pull 1 rfl
  obtain ⟨hM, kz⟩ := (Sl.fold0 (k := [_, _]) (((((c2.pull 3 rfl).pull 2 rfl).pull 3 rfl).pull 3 rfl))).callX
  refine ⟨_, rfl, o, nm, i, s0, us, l, hM, rfl, ⟨lid, by omega, g⟩, rel, kz.sb, kz.p, fun H3 h3 us3 l3 r sb3 p3 rel3 fm3 => ?_⟩
  have ep : p + (enc (.near nm i)).length = ((p + 1) + (rowI nm).length) := by
   unfold enc
   simp only [List.length_cons, List.length_append, List.length_nil]
   try omega
  rw [ep] at k
  have c9 := (kz.ret p3 sb3 fm3).open0 (k := [_, _, _])
  exact qcv ((((((c9.pull 4 rfl).pull 3 rfl).pull 4 rfl).pull 4 rfl).pull 4 rfl)) rel3 k
end
def callAt (A : Adr) : Nat -> Addr
 | 0 => A.a_z63
 | 1 => A.a_z88
 | 2 => A.a_z84
 | 3 => A.a_z85
 | 4 => A.a_z77
 | 5 => A.a_z83
 | 6 => A.a_z51
 | 7 => A.a_z52
 | 8 => A.a_z69
 | 9 => A.a_z67
 | 10 => A.a_z72
 | _ => A.a_z71
abbrev callsL (A : Adr) : List (Int × Addr) := [(0, A.a_z63), (1, A.a_z88), (2, A.a_z84), (3, A.a_z85), (4, A.a_z77), (5, A.a_z83), (6, A.a_z51), (7, A.a_z52), (8, A.a_z69), (9, A.a_z67), (10, A.a_z72), (11, A.a_z71)]
theorem qh2 (A : Adr) : ∀ n : Nat, n < 12 -> kAt (callsL A) (n : Int) = some (callAt A n)
 | 0, _ => rfl
 | 1, _ => rfl
 | 2, _ => rfl
 | 3, _ => rfl
 | 4, _ => rfl
 | 5, _ => rfl
 | 6, _ => rfl
 | 7, _ => rfl
 | 8, _ => rfl
 | 9, _ => rfl
 | 10, _ => rfl
 | 11, _ => rfl
 | n + 12, h => by omega
theorem qhN (C : Rc50.Call) : codeOf C < 12 := by cases C <;> simp [codeOf]
theorem qio {lid : Nat} {s : Abs} {C : Rc50.Call} (g : Good lid s) : (does s C).2.numbers.length <= 650 := by
 by_cases h : codeOf C <= 6 \/ codeOf C = 9
 ·rw [qf3 h]; exact Nat.zero_le _
 ·cases C with
  | result i =>
   dsimp only [does]
   split
   ·exact Nat.zero_le _
   ·split
    ·show (List.replicate 26 0).length <= 650
     rw [List.length_replicate]; decide
    ·split
     ·exact Nat.zero_le _
     ·show (shown _).length <= 650
      unfold shown
      rw [List.length_append, qam, qam]; decide
  | value i =>
   dsimp only [does]
   split
   ·rename_i b r hr
    split
    ·exact Nat.zero_le _
    ·have := ((g.re _ hr).by_ b rfl).1
     show b.length <= 650
     omega
   ·exact Nat.zero_le _
  | send i =>
   dsimp only [does]
   split
   ·exact Nat.zero_le _
   ·rename_i x r hx
    split
    ·exact Nat.zero_le _
    ·have := (g.ou.ea x (by rw [hx]; exact List.mem_cons_self)).2.1
     show (be 6 x.1 ++ x.2).length <= 650
     rw [List.length_append, qam]
     omega
  | near nm i =>
   dsimp only [does]
   split
   ·exact Nat.zero_le _
   ·show (shown _).length <= 650
    unfold shown
    rw [List.length_append, qam, qam]; decide
  | _ => exact absurd (by simp [codeOf]) h
theorem qmm {s : Abs} {c : List (List Int)} {C : Rc50.Call} (h : Rc50Neutral.callOf c = some C) : Rc50Neutral.step s c = ((does s C).1, (does s C).2.value :: intsOf (does s C).2.numbers) := by
 unfold Rc50Neutral.step
 rw [h]
 rfl
theorem qeF (a : Ans) : ansV a = (a.value :: intsOf a.numbers).map V.int := by
 unfold ansV
 rw [List.map_cons, qkg]
section
variable {P : Program} {w : World} {K : PySem.W.Frag} {mg : Str -> Option Value} {base : Heap} {A : Adr}
theorem qgB (T : Txt K mg A) (B : Bse K mg base) : FamOk P w K mg base CX0 9 (fun n => n < 12) (callAt A) (qba A K)
 | 0, _ => ⟨_, _, qbD (ok_z63 T) (by decide) fun vs H Q E h => h, T.b_z63, T.F_z63.kp⟩
 | 1, _ => ⟨_, _, qbD (ok_z88 T) (by decide) fun vs H Q E h => h, T.b_z88, T.F_z88.kp⟩
 | 2, _ => ⟨_, _, qbD (ok_z84 T) (by decide) fun vs H Q E h => h, T.b_z84, T.F_z84.kp⟩
 | 3, _ => ⟨_, _, qbD (ok_z85 T B) (by decide) fun vs H Q E h => h, T.b_z85, T.F_z85.kp⟩
 | 4, _ => ⟨_, _, qbD (ok_z77 T) (by decide) fun vs H Q E h => h, T.b_z77, T.F_z77.kp⟩
 | 5, _ => ⟨_, _, qbD (ok_z83 T) (by decide) fun vs H Q E h => h, T.b_z83, T.F_z83.kp⟩
 | 6, _ => ⟨_, _, qbD (ok_z51 T B) (by decide) fun vs H Q E h => h, T.b_z51, T.F_z51.kp⟩
 | 7, _ => ⟨_, _, qbD (ok_z52 T) (by decide) fun vs H Q E h => h, T.b_z52, T.F_z52.kp⟩
 | 8, _ => ⟨_, _, qbD (ok_z69 T) (by decide) fun vs H Q E h => h, T.b_z69, T.F_z69.kp⟩
 | 9, _ => ⟨_, _, qbD (ok_z67 T) (by decide) fun vs H Q E h => h, T.b_z67, T.F_z67.kp⟩
 | 10, _ => ⟨_, _, qbD (ok_z72 T) (by decide) fun vs H Q E h => h, T.b_z72, T.F_z72.kp⟩
 | 11, _ => ⟨_, _, qbD (ok_z71 T B) (by decide) fun vs H Q E h => h, T.b_z71, T.F_z71.kp⟩
 | n + 12, h => by omega
def sp_z70 (A : Adr) (K : PySem.W.Frag) : Sp := fun vs H Q _ => ∃ (o a : Addr) (ns : List Int) (h : Hp), vs = [.ref o, .ref a] /\ PyRc50.answers_asked ns = true /\ Req K H h a ns /\ Sb h H /\ stars [OneR A o (fresh0 0 0) [] [], TbN A, TbS A] h /\
 ∀ H' p, H' p = some (.lst ((PyRc50.answers ns).map V.int)) -> Q (.ref p) H'
structure AtCall (ns : List Int) (i p : Nat) (s : Abs) (cs : List (List (List Int))) (given : List Int) : Prop where
 cl : ∃ f, PyFlat.calls PyRc50.shape f (ns.drop p) = some cs
 ask : ∀ c ∈ cs, Rc50Neutral.asked1 (PyRc50.whole c) = true
 most : i + cs.length <= 300
 good : Good (65 * i) s
 ans : PyRc50.answers ns = given ++ PyFlat.told (PyFlat.played Rc50Neutral.step s (cs.map PyRc50.whole))
 len : given.length <= 700 * i
theorem ok_z70 (T : Txt K mg A) (B : Bse K mg base) : FnOk P w K mg base CX0 10 A.a_z70 A.d_z70 ["one", "calls"] (sp_z70 A K) := by
 refine T.F_z70.ok qiJ ?_ ?_
 ·rintro _ _ _ _ ⟨o, a, ns, h, rfl, _⟩
  rfl
 ·rintro cdv Ar outer s H _ Q E hr ⟨o, a, ns, h, rfl, hask, hreq, sb, hst, k⟩
  have nd := qiJ.nd
  refine ⟨_, (qab (qax (i := 2) nd rfl (Or.inl rfl) (qaB qad))
   (qab (qax (i := 3) nd rfl (Or.inl rfl) (qa8 T.mk_Calls (ok_z61 T) hr.md rfl T.mg_Calls T.b_z61 .nil pass0 (qaa (pv 1) qad)))
   (qab (qd3 PassesOwn.never (qeC (qbC (qas (pv 3) T.cl_Calls T.me_z21 (ok_z21 T) hr.md T.b_z21 .nil pass0))) (qab (qax (i := 4) nd rfl (Or.inl rfl) (qfq (qdm rfl T.g_CALLS) (qas (pv 3) T.cl_Calls T.me_z12 (qbY T) hr.md T.b_z12 .nil pass0) (fun _ _ => rfl)))
   (qab (qax (i := 5) nd rfl (Or.inl rfl) (qf5 (pv 4) (qgB T B) hr.md pass0 (qaa (pv 0) (qaa (pv 3) qad))))
   (qab (qap (qb4 PySem.F.plainAttrs_list PySem.F.slot_list_append PySem.F.type_list_append qa3 (pv 2) (qaa (qav qah (by rfl) T.n_len PySem.boot_len (qaa (pv 5) qad)) qad)))
   (qac (qap (qb4 PySem.F.plainAttrs_list PySem.F.slot_list_extend PySem.F.type_list_extend qdb (pv 2) (qaa (pv 5) qad))))))))
   (qac (qag (pv 2)))))), ?_⟩
  have c0 := (Sl.init sb hst).open0 (k := [_, _, _])
  refine ⟨by decide, fun g hg => ?_⟩
  have c1 := c0.new (o := .lst []) hg
  refine ⟨_, rfl, fun c dc nc ndc ne => ⟨c, dc, a, rfl, qaf, fun H1 h1 sb1 p1 fm1 => ⟨rfl, ?_⟩⟩⟩
  have c2 := c1.made nc ndc ne p1 sb1 fm1
  have c3 := (((((c2.pull 1 rfl).pull 4 rfl).pull 4 rfl).pull 3 rfl).pull 4 rfl)
  obtain ⟨cs, hcs, h300, hall⟩ : ∃ cs, PyFlat.calls PyRc50.shape ns.length ns = some cs /\ cs.length <= 300 /\ ∀ c ∈ cs, Rc50Neutral.asked1 (PyRc50.whole c) = true := by
   unfold PyRc50.answers_asked PyRc50.calls at hask
   cases z : PyFlat.calls PyRc50.shape ns.length ns with
   | none => rw [z] at hask; cases hask
   | some cs =>
    rw [z] at hask
    replace hask : (PyFlat.atMost 300 (cs.map PyRc50.whole) && Rc50Neutral.asked (cs.map PyRc50.whole)) = true := hask
    rw [Bool.and_eq_true_iff] at hask
    refine ⟨cs, rfl, ?_, fun c hc => ?_⟩
    ·have := of_decide_eq_true hask.1
     rwa [List.length_map] at this
    ·have := hask.2
     unfold Rc50Neutral.asked at this
     rw [Bool.and_eq_true_iff] at this
     exact List.all_eq_true.mp this.1 _ (List.mem_map.mpr ⟨c, hc, rfl⟩)
  have hans : PyRc50.answers ns = PyFlat.told (PyFlat.played Rc50Neutral.step (fresh0 0 0) (cs.map PyRc50.whole)) := by
   unfold PyRc50.answers PyRc50.calls
   rw [hcs]
   rfl
  refine qd7 300 (fun i σ H' => ∃ (p : Nat) (s : Abs) (cs : List (List (List Int))) (us : List (Addr × AskT)) (l : List Rc50.Kept) (given : List Int), (∃ v4 v5, σ = [some (.ref o), some (.ref a), some (.ref g), some (.ref c), v4, v5]) /\ AtCall ns i p s cs given /\ Rel s us l /\
   Sl H h H' [OneR A o s us l, CalR A a c p, TbN A, TbS A, Pt g (.lst (given.map V.int))]) ⟨0, fresh0 0 0, cs, [], [], [], ⟨none, none, rfl⟩, ⟨⟨ns.length, by rw [List.drop_zero]; exact hcs⟩, hall, by omega, qeh (by decide) (by decide) _, hans, Nat.zero_le _⟩, rel0 0 0, c3⟩ ?_
  rintro i σ H2 hi ⟨p, s0, cs, us, l, given, ⟨v4, v5, rfl⟩, at_, rel, c4⟩
  obtain ⟨dc4, hc4⟩ := c4.ob 1 rfl
  refine ⟨_, rfl, c, dc4, _, rfl, hc4, ln0, c, a, p, ns, rfl, ⟨dc4, hc4⟩, hreq.at_ c4, _, rfl, ?_⟩
  by_cases hend : ns.length <= p
  ·rw [decide_eq_true hend]
   refine iteF ?_
   obtain ⟨f, hf⟩ := at_.cl
   rw [List.drop_of_length_le hend] at hf
   have e := at_.ans
   rw [qhr hf] at e
   have e2 : PyRc50.answers ns = given := by rw [e]; show given ++ [] = given; rw [List.append_nil]
   refine ⟨_, rfl, k _ g ?_⟩
   rw [e2]
   exact c4.get 4 rfl
  ·rw [decide_eq_false hend]
   obtain ⟨f, hf⟩ := at_.cl
   obtain ⟨cc, ds, t, f', rfl, hcall, hrest⟩ := qgu hf (fun z => hend (List.drop_eq_nil_iff.mp z))
   obtain ⟨C, hC, hin, hco⟩ := qmc hcall (at_.ask cc List.mem_cons_self)
   have hi' : i < 300 := by
    have := at_.most
    rw [List.length_cons] at this
    omega
   have hat : At ns p (((codeOf C : Nat) : Int) :: enc C) := ⟨t, hC⟩
   refine iteT ⟨_, qkJ hi', ?_⟩
   obtain ⟨h5, kx⟩ := (c4.pull 1 rfl).callX
   refine ⟨_, rfl, c, dc4, _, rfl, hc4, ln0, c, a, p, ns, _, h5, rfl, hreq.at_ c4, hat.tail.1, kx.sb, kx.p, fun H5 h5' sb5 p5 fm5 => ⟨A.g_CALLS, _, _, callAt A (codeOf C), rfl, T.k_CALLS, rfl, qh2 A (codeOf C) (qhN C), ?_⟩⟩
   have c5 := (kx.ret p5 sb5 fm5).pull 1 rfl
   obtain ⟨h6, ky⟩ := (Sl.fold0 (k := [_, _, _, _]) c5).callX
   refine ⟨codeOf C, rfl, qhN C, _, rfl, _, rfl, o, c, a, p + 1, ns, C, s0, us, l, h6, 65 * i, rfl, rfl, hin, hat.tail.2, hreq.part (Sl.fold0 (k := [_, _, _, _]) c5) ky, by omega, at_.good, rel, ky.sb, ky.p, fun H7 h7 us7 l7 r sb7 p7 rel7 fm7 => ?_⟩
   have c6 := (ky.ret p7 sb7 fm7).open0 (k := [_, _, _, _, _])
   have hg6 := c6.get 5 rfl
   have hr6 := c6.get 4 rfl
   have hlg : given.length <= 210000 := by
    have := at_.len
    omega
   have hla : (ansV (does s0 C).2).length <= 651 := by
    unfold ansV
    rw [List.length_cons, List.length_map]
    have := qio (C := C) at_.good
    omega
   refine ⟨_, rfl, .inl ⟨rfl, _, SqL.of hg6⟩, _, rfl, r, _, rfl, .inl (SqL.of hr6), g, _, _, rfl, rfl, hg6, ?_, ?_⟩
   ·rw [List.length_map]
    exact Nat.lt_of_le_of_lt hlg (by decide)
   have c7 := c6.set (o' := .lst (given.map V.int ++ [V.int ((ansV (does s0 C).2).length : Int)])) 5 rfl
   have hg7 := c7.get 5 rfl
   have hr7 := c7.get 4 rfl
   refine ⟨_, rfl, .inl ⟨rfl, _, SqL.of hg7⟩, _, rfl, g, r, _, _, rfl, rfl, hg7, hr7, ?_, ?_⟩
   ·rw [List.length_append, List.length_map, List.length_singleton]
    exact Nat.le_trans (show _ <= 220000 by omega) (by decide)
   have c8 := c7.set (o' := .lst (given.map V.int ++ [V.int ((ansV (does s0 C).2).length : Int)] ++ ansV (does s0 C).2)) 5 rfl
   have el : (ansV (does s0 C).2).length = ((does s0 C).2.value :: intsOf (does s0 C).2.numbers).length := by rw [qeF, List.length_map]
   have ev : given.map V.int ++ [V.int ((ansV (does s0 C).2).length : Int)] ++ ansV (does s0 C).2 = (given ++ ((((does s0 C).2.value :: intsOf (does s0 C).2.numbers).length : Nat) : Int) :: ((does s0 C).2.value :: intsOf (does s0 C).2.numbers)).map V.int := by
    rw [el, qeF, List.map_append, List.map_cons, List.append_assoc]
    rfl
   rw [ev] at c8 ⊢
   have hdrop : ns.drop (p + 1 + (enc C).length) = t := by
    rw [<- List.drop_drop, <- List.drop_drop, hC]
    show List.drop (enc C).length (enc C ++ t) = t
    rw [List.drop_left]
   refine ⟨p + 1 + (enc C).length, (does s0 C).1, ds, us7, l7, given ++ ((((does s0 C).2.value :: intsOf (does s0 C).2.numbers).length : Nat) : Int) :: ((does s0 C).2.value :: intsOf (does s0 C).2.numbers), ⟨_, _, rfl⟩, ⟨⟨f', by rw [hdrop]; exact hrest⟩, fun c hc => at_.ask c (List.mem_cons_of_mem _ hc), ?_, ?_, ?_, ?_⟩, rel7, ?_⟩
   ·have := at_.most
    rw [List.length_cons] at this
    omega
   ·have := qgP at_.good hin.1
    rw [show 65 * (i + 1) = 65 * i + 65 by omega]
    exact this
   ·rw [at_.ans, List.map_cons]
    show given ++ PyFlat.told ((Rc50Neutral.step s0 (PyRc50.whole cc)).2 :: PyFlat.played Rc50Neutral.step (Rc50Neutral.step s0 (PyRc50.whole cc)).1 (ds.map PyRc50.whole)) = _
    rw [qmm hco, List.append_assoc]
    rfl
   ·have := at_.len
    rw [List.length_append, List.length_cons, <- el]
    omega
   ·exact Sl.drop0 (((((((c8.pull 5 rfl).pull 4 rfl).pull 4 rfl).pull 4 rfl).pull 4 rfl).pull 5 rfl))
def sp_z98 (A : Adr) (K : PySem.W.Frag) : Sp := fun vs H Q _ => ∃ (a : Addr) (ns : List Int) (h : Hp), vs = [.ref a] /\ PyRc50.answers_asked ns = true /\ Req K H h a ns /\ Sb h H /\ stars [TbN A, TbS A] h /\
 ∀ H' p, H' p = some (.lst ((PyRc50.answers ns).map V.int)) -> Q (.ref p) H'
theorem ok_z98 (T : Txt K mg A) (B : Bse K mg base) : FnOk P w K mg base CX0 11 A.a_z98 A.d_z98 ["calls"] (sp_z98 A K) := by
 refine T.F_z98.ok qjx ?_ ?_
 ·rintro _ _ _ _ ⟨a, ns, h, rfl, _⟩
  rfl
 ·rintro cdv Ar outer s H _ Q E hr ⟨a, ns, h, rfl, hask, hreq, sb, hst, k⟩
  have nd := qjx.nd
  refine ⟨_, (qac (qag (qaw (ok_z70 T B) hr.md rfl T.mg_z70 T.F_z70.kp T.b_z70 .nil pass0 (qaa (qeg T.mk_One (ok_z87 T) hr.md rfl T.mg_One T.b_z87 .nil pass0) (qaa (pv 0) qad))))), ?_⟩
  have c0 := (Sl.init sb hst).open0 (k := [_, _])
  refine fun o dx no ndo ne => ⟨o, dx, rfl, qaf, fun H1 h1 sb1 p1 fm1 => ⟨rfl, ?_⟩⟩
  have c1 := c0.made no ndo ne p1 sb1 fm1
  obtain ⟨h2, kx⟩ := (Sl.fold0 (k := [_, _, _]) c1).callX
  exact ⟨_, rfl, o, a, ns, h2, rfl, hask, hreq.part (Sl.fold0 (k := [_, _, _]) c1) kx, kx.sb, kx.p, k⟩
end
section
variable {K : PySem.W.Frag} {h : Heap} {mg : Str -> Option Value}
theorem qaD (X : K.In h) (x qual : Str) (st : Stmt) (f : Addr) {oc : Value} {od an : Option Addr} {osl : Array (Option Value)} {kV doc pm cdv ct : Value} (l : K.lookup f = some ⟨oc, od, .func (PySem.W.fnOf x qual (defArgs st) (defBody st) (defScope st) .none kV doc pm an cdv ct), osl⟩ := by k_is)
  (c : PySem.W.codeIn K cdv qual = true := by k_is) (k : PySem.W.keepIn K (.ref f) = true := by k_is) : ∃ fd, L2.Fun K x qual st f fd := ⟨_, qjN l c k⟩
theorem FC_of (X : K.In h) (x qual : Str) (st : Stmt) (f cc : Addr) {oc : Value} {od an : Option Addr} {osl : Array (Option Value)} {kV doc pm ct : Value} (l : K.lookup f = some ⟨oc, od, .func (PySem.W.fnOf x qual (defArgs st) (defBody st) (defScope st) .none kV doc pm an (.ref cc) ct), osl⟩ := by k_is)
  (c : PySem.W.codeIn K (.ref cc) qual = true := by k_is) (k : PySem.W.keepIn K (.ref f) = true := by k_is) : ∃ fd, L2.Fun K x qual st f fd /\ fd.code = .ref cc := ⟨_, qjN l c k, rfl⟩
theorem qbG (X : K.In h) (C : Addr) (a : PySem.W.plainGet K C Str.empty = true := by k_is) (b : PySem.W.hasDictIn K C = true := by k_is) (c : PySem.W.plainOver K C = true := by k_is) (d : PySem.W.findIn K (.ref C) "__setattr__" = some (some (.builtin "object.__setattr__")) := by k_is) : Cls K C := ⟨a, b, c, d⟩
theorem qaJ (X : K.In h) (C : Addr) (f : Str) (a : PySem.W.findIn K (.ref C) f = some none := by k_is) : NoAttr K C f := a
theorem qcJ (X : K.In h) (C f : Addr) (a : PySem.W.makesIn K C = true := by k_is) (b : PySem.W.findIn K (.ref C) "__init__" = some (some (.ref f)) := by k_is) (c : PySem.W.isFn K (.ref f) = true := by k_is) (d : PySem.W.keepIn K (.ref C) = true := by k_is) : Mk K C f := ⟨a, b, c, d⟩
theorem qay (X : K.In h) (C : Addr) (m : Str) (f : Addr) (a : PySem.W.findIn K (.ref C) m = some (some (.ref f)) := by k_is) (b : PySem.W.isFn K (.ref f) = true := by k_is) (c : PySem.W.keepIn K (.ref f) = true := by k_is) : Meth K C m f := ⟨a, b, c⟩
theorem qaL (X : K.In h) (G : h.Ns mainGlobals mg) (n : Str) (i : Int) {t : Tok} (a : PySem.W.nsIn K mainGlobals n = some (some (.int i t)) := by k_is) : ∃ t, mg n = some (.int i t) := ⟨t, PySem.W.mg_of X G a⟩
theorem qaE (X : K.In h) (G : h.Ns mainGlobals mg) (n : Str) (f : Addr) (a : PySem.W.nsIn K mainGlobals n = some (some (.ref f)) := by k_is) : mg n = some (.ref f) := PySem.W.mg_of X G a
theorem cm_of (X : K.In h) {C N : Addr} {nm q bs hdct sn sub ab col dd k0 k1 k2 k3 k5 newId oc od es n sl} (a : K.lookup C = some (excClassObj nm q C N bs [.type "object"] hdct sn sub ab col dd k0 k1 k2 k3 k5 newId)) (b : K.lookup N = some ⟨oc, od, .dict es n, sl⟩) (c : strKeysB es.toList = true)
  (d : PySem.W.nsIn K N "__eq__" = some none) (e : PySem.W.nsIn K N "__ne__" = some none) : CmpK K C := ⟨nm, q, N, bs, hdct, sn, sub, ab, col, dd, k0, k1, k2, k3, k5, newId, oc, od, es, n, sl, a, b, c, d, e⟩
theorem u_of (X : K.In h) {a : Addr} {l : List (Int × Tok)} {od : Option Addr} {n : Nat} {sl : Array (Option Value)} (e : K.lookup a = some ⟨.type "tuple", od, .seq (l.map fun q => Value.int q.1 q.2).toArray n, sl⟩) (hl : l.length <= sizeLine) : ∀ H : Hp, SqT K H a (l.map fun q => V.int q.1) := by
 intro H
 refine .inr ⟨_, _, _, e, rfl, rfl, by simpa using hl, ?_⟩
 clear e hl
 show Vals _ (l.map fun q => Value.int q.1 q.2)
 induction l with
 | nil => exact .nil
 | cons q l ih => exact .cons ⟨q.2, rfl⟩ ih
theorem qmb (X : K.In h) {a : Addr} {l : List (Int × Tok × Addr)} {ep : Nat} (e : K.lookup a = some ⟨.type "dict", none, .dict (l.map fun q => (⟨hashInt q.1, .int q.1 q.2.1, .ref q.2.2⟩ : DictEntry)).toArray ep, #[]⟩) (hs : (a == sysModules) = false) (nd : (l.map (·.1)).Nodup) : KDict K a (l.map fun q => (q.1, q.2.2)) := qh3 e hs nd
theorem hd_of (X : K.In h) {c t : Addr} (e : PySem.W.codeHdIn K c t = true) : PySem.W.codeHdIn K c t = true := e
theorem _root_.L2.Fun.b1 {x qual : Str} {st : Stmt} {f : Addr} {fd : FuncData} (F : L2.Fun K x qual st f fd) (p1 : Str) (h : ∀ (kV doc pm : Value) (an : Option Addr) (cdv ct u1 : Value), bindArgs (PySem.W.fnOf x qual (defArgs st) (defBody st) (defScope st) .none kV doc pm an cdv ct) ⟨[u1], []⟩ = pure ([p1].zip [u1]) := by intros; rfl) : Binds K fd [p1] [] :=
 F.binds fun a b c d e g us hl => match us, hl with | [u1], _ => h a b c d e g u1
theorem _root_.L2.Fun.b2 {x qual : Str} {st : Stmt} {f : Addr} {fd : FuncData} (F : L2.Fun K x qual st f fd) (p1 p2 : Str) (h : ∀ (kV doc pm : Value) (an : Option Addr) (cdv ct u1 u2 : Value), bindArgs (PySem.W.fnOf x qual (defArgs st) (defBody st) (defScope st) .none kV doc pm an cdv ct) ⟨[u1, u2], []⟩ = pure ([p1, p2].zip [u1, u2]) := by intros; rfl) : Binds K fd [p1, p2] [] :=
 F.binds fun a b c d e g us hl => match us, hl with | [u1, u2], _ => h a b c d e g u1 u2
theorem _root_.L2.Fun.b3 {x qual : Str} {st : Stmt} {f : Addr} {fd : FuncData} (F : L2.Fun K x qual st f fd) (p1 p2 p3 : Str) (h : ∀ (kV doc pm : Value) (an : Option Addr) (cdv ct u1 u2 u3 : Value), bindArgs (PySem.W.fnOf x qual (defArgs st) (defBody st) (defScope st) .none kV doc pm an cdv ct) ⟨[u1, u2, u3], []⟩ = pure ([p1, p2, p3].zip [u1, u2, u3]) := by intros; rfl) : Binds K fd [p1, p2, p3] [] :=
 F.binds fun a b c d e g us hl => match us, hl with | [u1, u2, u3], _ => h a b c d e g u1 u2 u3
theorem _root_.L2.Fun.b4 {x qual : Str} {st : Stmt} {f : Addr} {fd : FuncData} (F : L2.Fun K x qual st f fd) (p1 p2 p3 p4 : Str) (h : ∀ (kV doc pm : Value) (an : Option Addr) (cdv ct u1 u2 u3 u4 : Value), bindArgs (PySem.W.fnOf x qual (defArgs st) (defBody st) (defScope st) .none kV doc pm an cdv ct) ⟨[u1, u2, u3, u4], []⟩ = pure ([p1, p2, p3, p4].zip [u1, u2, u3, u4]) := by intros; rfl) : Binds K fd [p1, p2, p3, p4] [] :=
 F.binds fun a b c d e g us hl => match us, hl with | [u1, u2, u3, u4], _ => h a b c d e g u1 u2 u3 u4
theorem _root_.L2.Fun.b5 {x qual : Str} {st : Stmt} {f : Addr} {fd : FuncData} (F : L2.Fun K x qual st f fd) (p1 p2 p3 p4 p5 : Str) (h : ∀ (kV doc pm : Value) (an : Option Addr) (cdv ct u1 u2 u3 u4 u5 : Value), bindArgs (PySem.W.fnOf x qual (defArgs st) (defBody st) (defScope st) .none kV doc pm an cdv ct) ⟨[u1, u2, u3, u4, u5], []⟩ = pure ([p1, p2, p3, p4, p5].zip [u1, u2, u3, u4, u5]) := by intros; rfl) : Binds K fd [p1, p2, p3, p4, p5] [] :=
 F.binds fun a b c d e g us hl => match us, hl with | [u1, u2, u3, u4, u5], _ => h a b c d e g u1 u2 u3 u4 u5
theorem _root_.L2.Fun.b6 {x qual : Str} {st : Stmt} {f : Addr} {fd : FuncData} (F : L2.Fun K x qual st f fd) (p1 p2 p3 p4 p5 p6 : Str) (h : ∀ (kV doc pm : Value) (an : Option Addr) (cdv ct u1 u2 u3 u4 u5 u6 : Value), bindArgs (PySem.W.fnOf x qual (defArgs st) (defBody st) (defScope st) .none kV doc pm an cdv ct) ⟨[u1, u2, u3, u4, u5, u6], []⟩ = pure ([p1, p2, p3, p4, p5, p6].zip [u1, u2, u3, u4, u5, u6]) := by intros; rfl) : Binds K fd [p1, p2, p3, p4, p5, p6] [] :=
 F.binds fun a b c d e g us hl => match us, hl with | [u1, u2, u3, u4, u5, u6], _ => h a b c d e g u1 u2 u3 u4 u5 u6
theorem txtX (X : K.In h) (G : h.Ns mainGlobals mg) {A : Adr} (T : Txt K mg A) : Txt K mg A := T
end
def sp0 (t1 t2 : Addr) (K : PySem.W.Frag) : Sp := fun vs H Q _ => ∃ (a : Addr) (ns : List Int) (h : Hp), vs = [.ref a] /\ PyRc50.answers_asked ns = true /\ Req K H h a ns /\ Sb h H /\ stars [TbA t1 qi6 ((("Buckets.nearest" : Str) ++ ".<locals>.") ++ "<lambda>"), TbA t2 qj5 ((("Search.find_one" : Str) ++ ".<locals>.") ++ "<lambda>")] h /\
 ∀ H' p, H' p = some (.lst ((PyRc50.answers ns).map V.int)) -> Q (.ref p) H'
theorem ans_ok {P : Program} {w : World} {K : PySem.W.Frag} {h : Heap} {mg : Str -> Option Value} {A : Adr} {fa : Addr} (X : K.In h) (T : Txt K mg A) (hm : mg "answers" = some (.ref fa)) : ∃ fd : FuncData, (∀ (s : Shared) (u : Value), BindsTo s fd ⟨[u], []⟩ [("calls", u)]) /\
  ∀ base : Heap, K.In base -> base.Ns mainGlobals mg -> BmAt mg base -> FnOk P w K mg base CX0 60 fa fd ["calls"] (sp0 A.t_z23 A.t_z17 K) := by
 have e := T.mg_z98
 rw [hm] at e
 cases e
 refine ⟨A.d_z98, fun s u => ?_, fun base hK hN hB => qbD (ok_z98 T ⟨hK, hB⟩) (by decide) fun vs H Q E z => z⟩
 obtain ⟨oc, od, kV, doc, pm, an, cdv, ct, osl, e, _⟩ := T.F_z98.ex
 rw [e]
 exact .of_eq rfl
theorem tb0 {P : Addr} {pos : Pos} {qual : Str} : TbA P pos qual (cel P (.tbl #[])) := .inl ⟨#[], ⟨trivial, rfl⟩, rfl⟩
theorem ans_sp {K : PySem.W.Frag} {H : Hp} {a t1 t2 : Addr} {ns : List Int} {E : XK} (ne : t1 ≠ t2) (ha : PyRc50.answers_asked ns = true) (h1 : H t1 = some (.tbl #[])) (h2 : H t2 = some (.tbl #[])) (hS : SqL K H a (ns.map V.int)) :
  sp0 t1 t2 K [.ref a] H (fun v H' => ∃ p, v = .ref p /\ H' p = some (.lst ((PyRc50.answers ns).map V.int))) E := by
 refine ⟨a, ns, uni (cel t1 (.tbl #[])) (cel t2 (.tbl #[])), rfl, ha, req_mk hS ?_, ?_, ⟨_, _, ?_, rfl, tb0, qa5.mpr tb0⟩, fun H' p e => ⟨p, rfl, e⟩⟩
 ·intro o ho hn
  refine qaT.mpr ⟨?_, ?_⟩ <;> (unfold cel; rw [if_neg])
  ·rintro rfl; rw [h1] at ho; cases ho; exact hn _ rfl
  ·rintro rfl; rw [h2] at ho; cases ho; exact hn _ rfl
 ·intro b o e
  unfold uni cel at e
  by_cases z : b = t1
  ·subst z; rw [if_pos rfl] at e; cases e; exact h1
  ·rw [if_neg z] at e
   by_cases y : b = t2
   ·subst y; rw [if_pos rfl] at e; cases e; exact h2
   ·rw [if_neg y] at e; cases e
 ·intro b
  unfold cel
  by_cases z : b = t1
  ·subst z; rw [if_neg ne]; exact .inr rfl
  ·rw [if_neg z]; exact .inl rfl
end NM
namespace PySem.W.Fast
def tw4869931375036198125:=0
def tw239013257607127660:=0
def tw16363526810574783904:=0
def tw8611767148850093741:=0
def tw16463865899806404415:=0
def tw16933525443280017863:=0
def tw4820145378815833911:=0
def tw6584254317357611732:=0
def tw16983977129501081179:=0
def tw17402112902351472607:=0
def tw18401539016329532221:=0
def tw10176792554806154068:=0
def tw8471579557263611997:=0
def tw14667747148708607898:=0
def tw14778311204485249985:=0
def tw15566922305985326988:=0
def tw14847913697091547163:=0
def tw18389965954801310360:=0
def tw9907413392604043511:=0
def tw5836022677421614035:=0
def tw2227013157673198896:=0
def tw17014740603402898475:=0
def tw18387942139042181293:=0
def tw8124638135895879669:=0
def tw1172637448277690627:=0
def tw15925270723576165580:=0
def tw8176471622755541456:=0
def tw151362835337496873:=0
def tw3027531096014511398:=0
def tw3482645800046206898:=0
def tw11382542482357888899:=0
def tw14509170003909954962:=0
def tw1877781152442893451:=0
def tw2579337703027215116:=0
def tw4798636649825760442:=0
def tw11818109108225657641:=0
def tw17903846832739919325:=0
def tw5308967871042520659:=0
def tw3957505037662530833:=0
def tw13482610777098735143:=0
def tw70349118764506560:=0
def tw6561205514632387822:=0
def tw18002294547344441565:=0
def tw2746188429371030179:=0
def tw3872361780813263809:=0
def tw13064774524401649292:=0
def tw15845062945810548836:=0
def tw13665558852046922522:=0
def tw6212041872083999289:=0
def tw6411081443751007178:=0
def tw17401435337807922118:=0
def tw8177027011435663000:=0
def tw16471300601083244769:=0
def tw17557193869560996231:=0
def tw18277290308025286678:=0
def tw10693378034149505675:=0
def tw15906600300866181676:=0
def tw1425042208915311874:=0
def tw9216689320253028600:=0
def tw8048902554504662376:=0
def tw15099992857952694701:=0
def tw6133878447632864385:=0
def tw17018962378350585886:=0
def tw4792964834923035743:=0
def tw1393673006365723558:=0
def tw11464476031680869302:=0
def tw17046014303959419965:=0
def tw17986117082178433622:=0
def tw12031930477942594097:=0
def tw4711115484066590394:=0
def tw15876664029079393106:=0
def tw10920944841831478883:=0
def tw14492970115325050206:=0
def tw8218567652050417911:=0
def tw6361110257006291635:=0
def tw2724328623189095050:=0
def tw8454043889209270894:=0
def tw9833140902143203051:=0
def tw12981300810034601313:=0
def tw18373098915252400301:=0
def tw11808945074606770899:=0
def tw8805272652265936516:=0
def tw1966396074082933996:=0
def tw4354221135957146760:=0
def tw5660199369367235538:=0
def tw6190009151681339776:=0
def tw13208922657206681513:=0
def tw16038553278075507723:=0
def tw5748260340792349078:=0
def tw6804111105939933564:=0
def tw18004567906848784276:=0
def tw13777897623029207293:=0
def tw12168505986623678292:=0
def tw3600831672480571723:=0
def tw11399211774557085297:=0
def tw16355676670046212:=0
def tw9959520474390696245:=0
def tw5007621652358590597:=0
def tw11648962918036917348:=0
def tw13506847239081900199:=0
def tw8532500962373869419:=0
def tw122598314723405510:=0
def tw15800873460767687304:=0
def tw1455858472207525331:=0
def tw1678884501649491031:=0
def tw681852570832073207:=0
def tw6354569694712782397:=0
def tw2277289749178637507:=0
def tw5580308782309007987:=0
def tw1755433440213602969:=0
def tw4285787744160828309:=0
def tw18304034210316725083:=0
def tw10942861198738852640:=0
def tw17520874909114769990:=0
def tw1044284527562382145:=0
def tw7649429995581969271:=0
def tw14263373833128149637:=0
def tw518418836416652266:=0
def tw2855604653470971389:=0
def tw2746898507749160901:=0
def tw425741488108872619:=0
def tw16696789480511799040:=0
def tw276781251124386707:=0
def tw10354916499974740645:=0
def tw3433611779843503445:=0
def tw14876947014662732850:=0
def tw63493894563080211:=0
def tw9519578116216384151:=0
def tw7779449671513490178:=0
def tw10054283182172994776:=0
def tw15942097713979488833:=0
def tw8448429228568353372:=0
def tw10800958070926894190:=0
def tw13050780577188788778:=0
def tw1495619861644006719:=0
def tw5603573922752558290:=0
def tw16489491879249099126:=0
def tw9586890202504644433:=0
def tw3297784095126268406:=0
def tw9578277660343038095:=0
def tw7226851001300269590:=0
def tw16933042352432237540:=0
def tw2916294698114081491:=0
def tw17526629021056397325:=0
def tw8787337455602901090:=0
def tw15651765568630461820:=0
def tw4994416870526637927:=0
def tw6815677974969645151:=0
def tw9109202952441916886:=0
def tw12041116569593184808:=0
def tw6223998771851919771:=0
def tw10592894320240095942:=0
def tw12909233582005713006:=0
def tw15933650258312101655:=0
def tw8417783288499125015:=0
def tw693996333331841256:=0
def tw16445521133448363030:=0
def tw17907091909122703070:=0
def tw16105491146019666228:=0
def tw7744786759287832052:=0
def tw3365978582143753408:=0
def tw13414155578504384044:=0
def tw2763109536538505369:=0
def tw9236564277829688677:=0
def tw845309490635397731:=0
def tw11479488662654971095:=0
def tw9845372806356345886:=0
def tw2550177222697625204:=0
def tw14046737832863574189:=0
def tw9018730605269298924:=0
def tw6918128497625333445:=0
def tw2323502421409337392:=0
def tw9114404918017106639:=0
def tw2904535936369225835:=0
def tw16868450574352311608:=0
def tw14989172361775274836:=0
def tw1043244010377813845:=0
def tw7292145298630487595:=0
def tw12603418097603455913:=0
def tw844798987891640044:=0
def tw15262235560404057829:=0
def tw4804903844161673419:=0
def tw6635817330858439098:=0
def tw11943300893677403316:=0
def tw1078082642087013244:=0
def tw6406725870315069712:=0
def tw3225390202065746104:=0
def tw17639086647933028386:=0
def tw3649273972601659078:=0
def tw9346577749000370550:=0
def tw2124260786658264723:=0
def tw11219216580876600483:=0
def tw15402787631390437259:=0
def tw14195658922321504438:=0
def tw14469574381909284173:=0
def tw1454245094289404925:=0
def tw5894618665628298843:=0
def tw18106965786173694239:=0
def tw3998859302956635333:=0
def tw10536982515916562108:=0
def tw3064601880665575875:=0
def tw14574850917239431870:=0
def tw4171010458568556987:=0
def tw14442622194251575659:=0
def tw15737183741276639277:=0
def tw5974802096934547944:=0
def tw1381476553863912735:=0
def tw2996525565714945589:=0
def tw1283220913714208243:=0
def tw3814864738061665334:=0
def tw13666660919203053131:=0
def tw14834726086938721943:=0
def tw1605245963359381364:=0
def tw10050195717501727676:=0
def tw13673386940951296827:=0
def tw12556825123908918025:=0
def tw13987216705447836512:=0
def tw11758860466923614383:=0
def tw1559074415297359245:=0
def tw16839681790390753416:=0
def tw1444617057032461330:=0
def tw8734774792071663605:=0
def tw18266195837302821145:=0
def tw11725055815608372696:=0
def tw6429287315917771733:=0
def tw15240041303689616592:=0
def tw8844170773100055596:=0
def tw4783526691588850976:=0
def tw18328181222156060496:=0
def tw11390340345033383729:=0
def tw15693437604563562639:=0
def tw2573891519695887473:=0
def tw9934068440319851445:=0
def tw15724682548350239541:=0
def tw751460553074900842:=0
def tw5168024752501148170:=0
def tw13998904419387404948:=0
def tw16293833358258858389:=0
def tw7232192149261530881:=0
def tw1970381917998460072:=0
end PySem.W.Fast
open PySem PySem.W PyProof.Rows
local macro_rules | `(tactic| o_headS ($f:ident $k $a $e)) => if f.getId.eraseMacroScopes == `kHook then `(tactic| o_headS (PySem.W.kmHook $k $a $e [138, 462])) else Lean.Macro.throwUnsupported
set_option maxRecDepth 100000 in
set_option maxHeartbeats 0 in
theorem PySem.Challenge.cw_nearmany_s01_answers_holds : PySem.Challenge.rw_nearmany_s01_answers.Holds := by
 w_on; k_headS; (case hw => exact ⟨[.list []], by decide +kernel, by decide +kernel⟩)
 k_fillS
 refine NM.qiv (P := PySem.Challenge.pw_nearmany_s01_answers) (asked := PyRc50.answers_asked) (f := PyRc50.answers) (k := 60) (tabs := [(142, 138), (466, 462)]) (x := "calls") (CX := L2.CX0) (sp := NM.sp0 138 462) (by decide +kernel) (by decide) rfl ⟨rfl, by decide, by decide⟩ (fun w h Y => km_in_of Y) ?T ?TK ?F ?S ?C
 case T =>
  intro w h Y q hq
  refine km_tabs_of Y q.2 ?_
  rcases List.mem_cons.mp hq with rfl | hq
  ·exact List.mem_cons_self
  ·rcases List.mem_cons.mp hq with rfl | hq
   ·exact List.mem_cons_of_mem _ List.mem_cons_self
   ·cases hq
 case TK =>
  intro P q hq
  rcases List.mem_cons.mp hq with rfl | hq
  ·exact ⟨by kernel_rfl, by kernel_rfl⟩
  ·rcases List.mem_cons.mp hq with rfl | hq
   ·exact ⟨by kernel_rfl, by kernel_rfl⟩
   ·cases hq
 case S =>
  intro K H a ns _ _ hask ht _ hS
  exact NM.ans_sp (by decide) hask (ht (142, 138) List.mem_cons_self) (ht (466, 462) (List.mem_cons_of_mem _ List.mem_cons_self)) hS
 case C => exact fun _ _ _ _ z => z
 case F =>
  intro w mg fa h KX G hmg
  obtain ⟨d_z80, F_z80⟩ := NM.qaD KX "number_of" "number_of" NM.qmi 21
  obtain ⟨d_z82, F_z82⟩ := NM.qaD KX "octets_of" "octets_of" NM.qkY 28
  obtain ⟨d_z41, F_z41⟩ := NM.qaD KX "__init__" "Someone.__init__" NM.qlO 42
  obtain ⟨d_z57, F_z57⟩ := NM.qaD KX "__init__" "Bucket.__init__" NM.qll 63
  obtain ⟨d_z20, F_z20⟩ := NM.qaD KX "known_by" "Bucket.known_by" NM.qlt 70
  obtain ⟨d_z46, F_z46⟩ := NM.qaD KX "heard" "Bucket.heard" NM.qmw 77
  obtain ⟨d_z5, F_z5⟩ := NM.qaD KX "heard_unknown" "Bucket.heard_unknown" NM.s_z5 82
  obtain ⟨d_z36, F_z36⟩ := NM.qaD KX "silent" "Bucket.silent" NM.qlo 89
  obtain ⟨d_z40, F_z40⟩ := NM.qaD KX "__init__" "Buckets.__init__" NM.qmp 108
  obtain ⟨d_z10, F_z10⟩ := NM.qaD KX "bucket_of" "Buckets.bucket_of" NM.qlv 115
  obtain ⟨d_z16, F_z16⟩ := NM.qaD KX "known_by" "Buckets.known_by" NM.ql4 122
  obtain ⟨d_z38, F_z38⟩ := NM.qaD KX "heard" "Buckets.heard" NM.qlH 129
  obtain ⟨d_z25, F_z25⟩ := NM.qaD KX "silent" "Buckets.silent" NM.qkF 136
  obtain ⟨d_z23, F_z23, l_z23⟩ := NM.FC_of KX "nearest" "Buckets.nearest" NM.qlu 143 142
  obtain ⟨d_z54, F_z54⟩ := NM.qaD KX "__init__" "Letter.__init__" NM.qlF 164
  obtain ⟨d_z43, F_z43⟩ := NM.qaD KX "read_nothing" "read_nothing" NM.qmf 178
  obtain ⟨d_z78, F_z78⟩ := NM.qaD KX "read_name" "read_name" NM.qlP 185
  obtain ⟨d_z50, F_z50⟩ := NM.qaD KX "read_people" "read_people" NM.qky 190
  obtain ⟨d_z45, F_z45⟩ := NM.qaD KX "read_someone" "read_someone" NM.ql3 197
  obtain ⟨d_z42, F_z42⟩ := NM.qaD KX "read_content" "read_content" NM.qls 204
  obtain ⟨d_z4, F_z4⟩ := NM.qaD KX "read_name_and_content" "read_name_and_content" NM.s_z4 211
  obtain ⟨d_z53, F_z53⟩ := NM.qaD KX "read_letter" "read_letter" NM.qkZ 219
  obtain ⟨d_z35, F_z35⟩ := NM.qaD KX "letter_octets" "letter_octets" NM.qlc 226
  obtain ⟨d_z56, F_z56⟩ := NM.qaD KX "name_octets" "name_octets" NM.qmn 233
  obtain ⟨d_z31, F_z31⟩ := NM.qaD KX "address_octets" "address_octets" NM.qlX 240
  obtain ⟨d_z37, F_z37⟩ := NM.qaD KX "people_octets" "people_octets" NM.qmd 247
  obtain ⟨d_z32, F_z32⟩ := NM.qaD KX "someone_octets" "someone_octets" NM.ql6 254
  obtain ⟨d_z27, F_z27⟩ := NM.qaD KX "content_octets" "content_octets" NM.qk0 261
  obtain ⟨d_z48, F_z48⟩ := NM.qaD KX "__init__" "Chance.__init__" NM.qmh 275
  obtain ⟨d_z49, F_z49⟩ := NM.qaD KX "draw" "Chance.draw" NM.qlW 282
  obtain ⟨d_z62, F_z62⟩ := NM.qaD KX "__init__" "Asked.__init__" NM.qlR 308
  obtain ⟨d_z6, F_z6⟩ := NM.qaD KX "is_answered_by" "Asked.is_answered_by" NM.s_z6 315
  obtain ⟨d_z39, F_z39⟩ := NM.qaD KX "is_late" "Asked.is_late" NM.qlk 322
  obtain ⟨d_z81, F_z81⟩ := NM.qaD KX "__init__" "Post.__init__" NM.qmg 343
  obtain ⟨d_z93, F_z93⟩ := NM.qaD KX "put" "Post.put" NM.qlM 350
  obtain ⟨d_z0, F_z0⟩ := NM.qaD KX "first_with_address" "Post.first_with_address" NM.s_z0 357
  obtain ⟨d_z9, F_z9⟩ := NM.qaD KX "first_is_sent" "Post.first_is_sent" NM.s_z9 364
  obtain ⟨d_z92, F_z92⟩ := NM.qaD KX "ask" "Post.ask" NM.qlD 371
  obtain ⟨d_z7, F_z7⟩ := NM.qaD KX "close_answered" "Post.close_answered" NM.s_z7 378
  obtain ⟨d_z60, F_z60⟩ := NM.qaD KX "close" "Post.close" NM.qkz 385
  obtain ⟨d_z33, F_z33⟩ := NM.qaD KX "late_ones" "Post.late_ones" NM.qk7 390
  obtain ⟨d_z11, F_z11⟩ := NM.qaD KX "leave_search" "Post.leave_search" NM.qms 397
  obtain ⟨d_z58, F_z58⟩ := NM.qaD KX "__init__" "Found.__init__" NM.qld 418
  obtain ⟨d_z44, F_z44⟩ := NM.qaD KX "__init__" "Outcome.__init__" NM.qlh 439
  obtain ⟨d_z47, F_z47⟩ := NM.qaD KX "__init__" "Search.__init__" NM.qlj 460
  obtain ⟨d_z17, F_z17, l_z17⟩ := NM.FC_of KX "find_one" "Search.find_one" NM.ql7 467 466
  obtain ⟨d_z19, F_z19⟩ := NM.qaD KX "found_by" "Search.found_by" NM.qmr 474
  obtain ⟨d_z26, F_z26⟩ := NM.qaD KX "counted" "Search.counted" NM.qma 479
  obtain ⟨d_z3, F_z3⟩ := NM.qaD KX "how_many_asked" "Search.how_many_asked" NM.s_z3 484
  obtain ⟨d_z1, F_z1⟩ := NM.qaD KX "take_one_to_ask" "Search.take_one_to_ask" NM.s_z1 491
  obtain ⟨d_z8, F_z8⟩ := NM.qaD KX "has_answered" "Search.has_answered" NM.s_z8 498
  obtain ⟨d_z2, F_z2⟩ := NM.qaD KX "has_been_silent" "Search.has_been_silent" NM.s_z2 505
  obtain ⟨d_z64, F_z64⟩ := NM.qaD KX "__init__" "Shelf.__init__" NM.qkD 526
  obtain ⟨d_z68, F_z68⟩ := NM.qaD KX "keep" "Shelf.keep" NM.qlK 533
  obtain ⟨d_z15, F_z15⟩ := NM.qaD KX "content_of" "Shelf.content_of" NM.qk8 540
  obtain ⟨d_z28, F_z28⟩ := NM.qaD KX "drop_old" "Shelf.drop_old" NM.qly 547
  obtain ⟨d_z96, F_z96⟩ := NM.qaD KX "room_of" "room_of" NM.qle 562
  obtain ⟨d_z76, F_z76⟩ := NM.qaD KX "has_place" "has_place" NM.qkw 569
  obtain ⟨d_z87, F_z87⟩ := NM.qaD KX "__init__" "One.__init__" NM.qlq 583
  obtain ⟨d_z65, F_z65⟩ := NM.qaD KX "become" "One.become" NM.qk3 590
  obtain ⟨d_z79, F_z79⟩ := NM.qaD KX "begin" "One.begin" NM.qme 597
  obtain ⟨d_z97, F_z97⟩ := NM.qaD KX "own" "One.own" NM.qmj 604
  obtain ⟨d_z95, F_z95⟩ := NM.qaD KX "know" "One.know" NM.qkB 611
  obtain ⟨d_z91, F_z91⟩ := NM.qaD KX "come" "One.come" NM.qlf 618
  obtain ⟨d_z86, F_z86⟩ := NM.qaD KX "time" "One.time" NM.qlJ 625
  obtain ⟨d_z94, F_z94⟩ := NM.qaD KX "ping" "One.ping" NM.qlg 632
  obtain ⟨d_z59, F_z59⟩ := NM.qaD KX "search" "One.search" NM.ql8 639
  obtain ⟨d_z66, F_z66⟩ := NM.qaD KX "result" "One.result" NM.qmk 646
  obtain ⟨d_z73, F_z73⟩ := NM.qaD KX "value" "One.value" NM.qlx 653
  obtain ⟨d_z74, F_z74⟩ := NM.qaD KX "store" "One.store" NM.qk9 660
  obtain ⟨d_z90, F_z90⟩ := NM.qaD KX "send" "One.send" NM.qkE 667
  obtain ⟨d_z89, F_z89⟩ := NM.qaD KX "near" "One.near" NM.qlY 674
  obtain ⟨d_z14, F_z14⟩ := NM.qaD KX "has_most_open" "One.has_most_open" NM.qkA 681
  obtain ⟨d_z13, F_z13⟩ := NM.qaD KX "answer_letter" "One.answer_letter" NM.qlT 688
  obtain ⟨d_z34, F_z34⟩ := NM.qaD KX "answer_to" "One.answer_to" NM.qlr 695
  obtain ⟨d_z18, F_z18⟩ := NM.qaD KX "take_answer" "One.take_answer" NM.qkH 702
  obtain ⟨d_z55, F_z55⟩ := NM.qaD KX "give_up" "One.give_up" NM.qlw 709
  obtain ⟨d_z22, F_z22⟩ := NM.qaD KX "search_with" "One.search_with" NM.qmq 716
  obtain ⟨d_z75, F_z75⟩ := NM.qaD KX "go_on" "One.go_on" NM.qlB 723
  obtain ⟨d_z29, F_z29⟩ := NM.qaD KX "end_search" "One.end_search" NM.qmv 730
  obtain ⟨d_z61, F_z61⟩ := NM.qaD KX "__init__" "Calls.__init__" NM.qmo 751
  obtain ⟨d_z21, F_z21⟩ := NM.qaD KX "is_at_end" "Calls.is_at_end" NM.ql0 758
  obtain ⟨d_z12, F_z12⟩ := NM.qaD KX "take_number" "Calls.take_number" NM.qlp 765
  obtain ⟨d_z30, F_z30⟩ := NM.qaD KX "take_row" "Calls.take_row" NM.qlS 772
  obtain ⟨d_z24, F_z24⟩ := NM.qaD KX "take_name" "Calls.take_name" NM.qli 779
  obtain ⟨d_z63, F_z63⟩ := NM.qaD KX "call_begin" "call_begin" NM.qmt 793
  obtain ⟨d_z88, F_z88⟩ := NM.qaD KX "call_own" "call_own" NM.qk2 800
  obtain ⟨d_z84, F_z84⟩ := NM.qaD KX "call_know" "call_know" NM.qkL 807
  obtain ⟨d_z85, F_z85⟩ := NM.qaD KX "call_come" "call_come" NM.qkG 814
  obtain ⟨d_z77, F_z77⟩ := NM.qaD KX "call_time" "call_time" NM.qlZ 821
  obtain ⟨d_z83, F_z83⟩ := NM.qaD KX "call_ping" "call_ping" NM.qla 828
  obtain ⟨d_z51, F_z51⟩ := NM.qaD KX "call_search" "call_search" NM.qlG 835
  obtain ⟨d_z52, F_z52⟩ := NM.qaD KX "call_result" "call_result" NM.qkW 842
  obtain ⟨d_z69, F_z69⟩ := NM.qaD KX "call_value" "call_value" NM.ql9 849
  obtain ⟨d_z67, F_z67⟩ := NM.qaD KX "call_store" "call_store" NM.qkR 856
  obtain ⟨d_z72, F_z72⟩ := NM.qaD KX "call_send" "call_send" NM.qlQ 863
  obtain ⟨d_z71, F_z71⟩ := NM.qaD KX "call_near" "call_near" NM.qkN 870
  obtain ⟨d_z98, F_z98⟩ := NM.qaD KX "answers" "answers" NM.qlU 878
  obtain ⟨d_z70, F_z70⟩ := NM.qaD KX "answers_of" "answers_of" NM.ql1 885
  have e1 := NM.qbG KX 45
  have e2 := NM.qaJ KX 45 "name"
  have e3 := NM.qaJ KX 45 "address"
  have e4 := NM.qaJ KX 45 "was_silent"
  have e5 := NM.qaE KX G "Someone" 45
  have e6 := NM.qcJ KX 45 42
  have e7 := NM.cm_of (C := 45) KX (by k_is) (by k_is) (by kernel_rfl) (by k_is) (by k_is)
  have e8 := NM.qbG KX 92
  have e9 := NM.qaJ KX 92 "known"
  have e10 := NM.qaJ KX 92 "waiting"
  have e11 := NM.qaE KX G "Bucket" 92
  have e12 := NM.qcJ KX 92 63
  have e13 := NM.qbG KX 146
  have e14 := NM.qaJ KX 146 "own_name"
  have e15 := NM.qaJ KX 146 "rows"
  have e16 := NM.qaE KX G "Buckets" 146
  have e17 := NM.qcJ KX 146 108
  have e18 := NM.qbG KX 167
  have e19 := NM.qaJ KX 167 "kind"
  have e20 := NM.qaJ KX 167 "mark"
  have e21 := NM.qaJ KX 167 "sender"
  have e22 := NM.qaJ KX 167 "name"
  have e23 := NM.qaJ KX 167 "people"
  have e24 := NM.qaJ KX 167 "content"
  have e25 := NM.qaE KX G "Letter" 167
  have e26 := NM.qcJ KX 167 164
  have e27 := NM.qbG KX 285
  have e28 := NM.qaJ KX 285 "state"
  have e29 := NM.qaE KX G "Chance" 285
  have e30 := NM.qcJ KX 285 275
  have e31 := NM.qbG KX 325
  have e32 := NM.qaJ KX 325 "kind"
  have e33 := NM.qaJ KX 325 "mark"
  have e34 := NM.qaJ KX 325 "name"
  have e35 := NM.qaJ KX 325 "address"
  have e36 := NM.qaJ KX 325 "since"
  have e37 := NM.qaJ KX 325 "of_search"
  have e38 := NM.qaE KX G "Asked" 325
  have e39 := NM.qcJ KX 325 308
  have e40 := NM.cm_of (C := 325) KX (by k_is) (by k_is) (by kernel_rfl) (by k_is) (by k_is)
  have e41 := NM.qbG KX 400
  have e42 := NM.qaJ KX 400 "own_name"
  have e43 := NM.qaJ KX 400 "chance"
  have e44 := NM.qaJ KX 400 "outgoing"
  have e45 := NM.qaJ KX 400 "unanswered"
  have e46 := NM.qaE KX G "Post" 400
  have e47 := NM.qcJ KX 400 343
  have e48 := NM.qbG KX 421
  have e49 := NM.qaJ KX 421 "name"
  have e50 := NM.qaJ KX 421 "address"
  have e51 := NM.qaJ KX 421 "state"
  have e52 := NM.qaE KX G "Found" 421
  have e53 := NM.qcJ KX 421 418
  have e54 := NM.qbG KX 442
  have e55 := NM.qaJ KX 442 "people"
  have e56 := NM.qaJ KX 442 "content"
  have e57 := NM.qaE KX G "Outcome" 442
  have e58 := NM.qcJ KX 442 439
  have e59 := NM.qbG KX 508
  have e60 := NM.qaJ KX 508 "name"
  have e61 := NM.qaJ KX 508 "for_value"
  have e62 := NM.qaJ KX 508 "found"
  have e63 := NM.qaE KX G "Search" 508
  have e64 := NM.qcJ KX 508 460
  have e65 := NM.qbG KX 550
  have e66 := NM.qaJ KX 550 "kept"
  have e67 := NM.qaE KX G "Shelf" 550
  have e68 := NM.qcJ KX 550 526
  have e69 := NM.qbG KX 733
  have e70 := NM.qaJ KX 733 "own_name"
  have e71 := NM.qaJ KX 733 "now"
  have e72 := NM.qaJ KX 733 "buckets"
  have e73 := NM.qaJ KX 733 "post"
  have e74 := NM.qaJ KX 733 "shelf"
  have e75 := NM.qaJ KX 733 "quest"
  have e76 := NM.qaJ KX 733 "outcome"
  have e77 := NM.qaE KX G "One" 733
  have e78 := NM.qcJ KX 733 583
  have e79 := NM.qbG KX 782
  have e80 := NM.qaJ KX 782 "numbers"
  have e81 := NM.qaJ KX 782 "place"
  have e82 := NM.qaE KX G "Calls" 782
  have e83 := NM.qcJ KX 782 751
  have e84 := F_z80.b1 "octets"
  have e85 := NM.qaE KX G "number_of" 21
  have e86 := F_z82.b2 "number" "how_many"
  have e87 := NM.qaE KX G "octets_of" 28
  have e88 := F_z41.b3 "self" "name" "address"
  have e89 := NM.qay KX 45 "__init__" 42
  have e90 := F_z57.b1 "self"
  have e91 := NM.qay KX 92 "__init__" 63
  have e92 := F_z20.b2 "self" "name"
  have e93 := NM.qay KX 92 "known_by" 70
  have e94 := F_z46.b3 "self" "name" "address"
  have e95 := NM.qay KX 92 "heard" 77
  have e96 := F_z5.b3 "self" "name" "address"
  have e97 := NM.qay KX 92 "heard_unknown" 82
  have e98 := F_z36.b3 "self" "name" "address"
  have e99 := NM.qay KX 92 "silent" 89
  have e100 := F_z40.b2 "self" "own_name"
  have e101 := NM.qay KX 146 "__init__" 108
  have e102 := F_z10.b2 "self" "name"
  have e103 := NM.qay KX 146 "bucket_of" 115
  have e104 := F_z16.b2 "self" "name"
  have e105 := NM.qay KX 146 "known_by" 122
  have e106 := F_z38.b3 "self" "name" "address"
  have e107 := NM.qay KX 146 "heard" 129
  have e108 := F_z25.b3 "self" "name" "address"
  have e109 := NM.qay KX 146 "silent" 136
  have e110 := F_z23.b2 "self" "name"
  have e111 := NM.qay KX 146 "nearest" 143
  have e112 := NM.hd_of (c := 142) (t := 138) KX (by kernel_rfl)
  have e113 := F_z54.b4 "self" "kind" "mark" "sender"
  have e114 := NM.qay KX 167 "__init__" 164
  have e115 := F_z43.b2 "letter" "rest"
  have e116 := NM.qaE KX G "read_nothing" 178
  have e117 := F_z78.b2 "letter" "rest"
  have e118 := NM.qaE KX G "read_name" 185
  have e119 := F_z50.b2 "letter" "rest"
  have e120 := NM.qaE KX G "read_people" 190
  have e121 := F_z45.b2 "octets" "start"
  have e122 := NM.qaE KX G "read_someone" 197
  have e123 := F_z42.b2 "letter" "rest"
  have e124 := NM.qaE KX G "read_content" 204
  have e125 := F_z4.b2 "letter" "rest"
  have e126 := NM.qaE KX G "read_name_and_content" 211
  have e127 := F_z53.b1 "octets"
  have e128 := NM.qaE KX G "read_letter" 219
  have e129 := F_z35.b4 "kind" "mark" "sender" "rest"
  have e130 := NM.qaE KX G "letter_octets" 226
  have e131 := F_z56.b1 "name"
  have e132 := NM.qaE KX G "name_octets" 233
  have e133 := F_z31.b1 "address"
  have e134 := NM.qaE KX G "address_octets" 240
  have e135 := F_z37.b1 "people"
  have e136 := NM.qaE KX G "people_octets" 247
  have e137 := F_z32.b1 "someone"
  have e138 := NM.qaE KX G "someone_octets" 254
  have e139 := F_z27.b1 "content"
  have e140 := NM.qaE KX G "content_octets" 261
  have e141 := F_z48.b2 "self" "seed"
  have e142 := NM.qay KX 285 "__init__" 275
  have e143 := F_z49.b1 "self"
  have e144 := NM.qay KX 285 "draw" 282
  have e145 := F_z62.b6 "self" "kind" "mark" "someone" "since" "of_search"
  have e146 := NM.qay KX 325 "__init__" 308
  have e147 := F_z6.b3 "self" "letter" "address"
  have e148 := NM.qay KX 325 "is_answered_by" 315
  have e149 := F_z39.b2 "self" "now"
  have e150 := NM.qay KX 325 "is_late" 322
  have e151 := F_z81.b3 "self" "own_name" "seed"
  have e152 := NM.qay KX 400 "__init__" 343
  have e153 := F_z93.b3 "self" "address" "octets"
  have e154 := NM.qay KX 400 "put" 350
  have e155 := F_z0.b1 "self"
  have e156 := NM.qay KX 400 "first_with_address" 357
  have e157 := F_z9.b1 "self"
  have e158 := NM.qay KX 400 "first_is_sent" 364
  have e159 := F_z92.b6 "self" "someone" "kind" "rest" "now" "of_search"
  have e160 := NM.qay KX 400 "ask" 371
  have e161 := F_z7.b3 "self" "letter" "address"
  have e162 := NM.qay KX 400 "close_answered" 378
  have e163 := F_z60.b2 "self" "asked"
  have e164 := NM.qay KX 400 "close" 385
  have e165 := F_z33.b2 "self" "now"
  have e166 := NM.qay KX 400 "late_ones" 390
  have e167 := F_z11.b1 "self"
  have e168 := NM.qay KX 400 "leave_search" 397
  have e169 := F_z58.b3 "self" "name" "address"
  have e170 := NM.qay KX 421 "__init__" 418
  have e171 := F_z44.b3 "self" "people" "content"
  have e172 := NM.qay KX 442 "__init__" 439
  have e173 := F_z47.b4 "self" "name" "for_value" "nearest"
  have e174 := NM.qay KX 508 "__init__" 460
  have e175 := F_z17.b2 "self" "someone"
  have e176 := NM.qay KX 508 "find_one" 467
  have e177 := NM.hd_of (c := 466) (t := 462) KX (by kernel_rfl)
  have e178 := F_z19.b2 "self" "name"
  have e179 := NM.qay KX 508 "found_by" 474
  have e180 := F_z26.b1 "self"
  have e181 := NM.qay KX 508 "counted" 479
  have e182 := F_z3.b1 "self"
  have e183 := NM.qay KX 508 "how_many_asked" 484
  have e184 := F_z1.b1 "self"
  have e185 := NM.qay KX 508 "take_one_to_ask" 491
  have e186 := F_z8.b2 "self" "name"
  have e187 := NM.qay KX 508 "has_answered" 498
  have e188 := F_z2.b2 "self" "name"
  have e189 := NM.qay KX 508 "has_been_silent" 505
  have e190 := F_z64.b1 "self"
  have e191 := NM.qay KX 550 "__init__" 526
  have e192 := F_z68.b4 "self" "name" "content" "now"
  have e193 := NM.qay KX 550 "keep" 533
  have e194 := F_z15.b2 "self" "name"
  have e195 := NM.qay KX 550 "content_of" 540
  have e196 := F_z28.b2 "self" "now"
  have e197 := NM.qay KX 550 "drop_old" 547
  have e198 := F_z96.b1 "most"
  have e199 := NM.qaE KX G "room_of" 562
  have e200 := F_z76.b2 "people" "k"
  have e201 := NM.qaE KX G "has_place" 569
  have e202 := F_z87.b1 "self"
  have e203 := NM.qay KX 733 "__init__" 583
  have e204 := F_z65.b3 "self" "name" "seed"
  have e205 := NM.qay KX 733 "become" 590
  have e206 := F_z79.b1 "self"
  have e207 := NM.qay KX 733 "begin" 597
  have e208 := F_z97.b3 "self" "name" "seed"
  have e209 := NM.qay KX 733 "own" 604
  have e210 := F_z95.b3 "self" "name" "address"
  have e211 := NM.qay KX 733 "know" 611
  have e212 := F_z91.b3 "self" "address" "octets"
  have e213 := NM.qay KX 733 "come" 618
  have e214 := F_z86.b2 "self" "milliseconds"
  have e215 := NM.qay KX 733 "time" 625
  have e216 := F_z94.b2 "self" "name"
  have e217 := NM.qay KX 733 "ping" 632
  have e218 := F_z59.b3 "self" "name" "value"
  have e219 := NM.qay KX 733 "search" 639
  have e220 := F_z66.b2 "self" "k"
  have e221 := NM.qay KX 733 "result" 646
  have e222 := F_z73.b2 "self" "most"
  have e223 := NM.qay KX 733 "value" 653
  have e224 := F_z74.b4 "self" "name" "key" "content"
  have e225 := NM.qay KX 733 "store" 660
  have e226 := F_z90.b2 "self" "most"
  have e227 := NM.qay KX 733 "send" 667
  have e228 := F_z89.b3 "self" "name" "k"
  have e229 := NM.qay KX 733 "near" 674
  have e230 := F_z14.b1 "self"
  have e231 := NM.qay KX 733 "has_most_open" 681
  have e232 := F_z13.b3 "self" "letter" "address"
  have e233 := NM.qay KX 733 "answer_letter" 688
  have e234 := F_z34.b2 "self" "letter"
  have e235 := NM.qay KX 733 "answer_to" 695
  have e236 := F_z18.b3 "self" "letter" "address"
  have e237 := NM.qay KX 733 "take_answer" 702
  have e238 := F_z55.b2 "self" "asked"
  have e239 := NM.qay KX 733 "give_up" 709
  have e240 := F_z22.b2 "self" "letter"
  have e241 := NM.qay KX 733 "search_with" 716
  have e242 := F_z75.b1 "self"
  have e243 := NM.qay KX 733 "go_on" 723
  have e244 := F_z29.b2 "self" "outcome"
  have e245 := NM.qay KX 733 "end_search" 730
  have e246 := F_z61.b2 "self" "numbers"
  have e247 := NM.qay KX 782 "__init__" 751
  have e248 := F_z21.b1 "self"
  have e249 := NM.qay KX 782 "is_at_end" 758
  have e250 := F_z12.b1 "self"
  have e251 := NM.qay KX 782 "take_number" 765
  have e252 := F_z30.b1 "self"
  have e253 := NM.qay KX 782 "take_row" 772
  have e254 := F_z24.b1 "self"
  have e255 := NM.qay KX 782 "take_name" 779
  have e256 := F_z63.b2 "one" "calls"
  have e257 := NM.qaE KX G "call_begin" 793
  have e258 := F_z88.b2 "one" "calls"
  have e259 := NM.qaE KX G "call_own" 800
  have e260 := F_z84.b2 "one" "calls"
  have e261 := NM.qaE KX G "call_know" 807
  have e262 := F_z85.b2 "one" "calls"
  have e263 := NM.qaE KX G "call_come" 814
  have e264 := F_z77.b2 "one" "calls"
  have e265 := NM.qaE KX G "call_time" 821
  have e266 := F_z83.b2 "one" "calls"
  have e267 := NM.qaE KX G "call_ping" 828
  have e268 := F_z51.b2 "one" "calls"
  have e269 := NM.qaE KX G "call_search" 835
  have e270 := F_z52.b2 "one" "calls"
  have e271 := NM.qaE KX G "call_result" 842
  have e272 := F_z69.b2 "one" "calls"
  have e273 := NM.qaE KX G "call_value" 849
  have e274 := F_z67.b2 "one" "calls"
  have e275 := NM.qaE KX G "call_store" 856
  have e276 := F_z72.b2 "one" "calls"
  have e277 := NM.qaE KX G "call_send" 863
  have e278 := F_z71.b2 "one" "calls"
  have e279 := NM.qaE KX G "call_near" 870
  have e280 := F_z98.b1 "calls"
  have e281 := NM.qaE KX G "answers" 878
  have e282 := F_z70.b2 "one" "calls"
  have e283 := NM.qaE KX G "answers_of" 885
  have e284 := NM.qaL KX G "BUCKETS" 160
  have e285 := NM.qaL KX G "MOST_KNOWN" 8
  have e286 := NM.qaL KX G "MOST_WAITING" 8
  have e287 := NM.qaL KX G "MOST_NEAREST" 8
  have e288 := NM.qaL KX G "ARE_YOU_THERE" 0
  have e289 := NM.qaL KX G "I_AM_HERE" 1
  have e290 := NM.qaL KX G "WHO_IS_NEAR" 2
  have e291 := NM.qaL KX G "THESE_ARE" 3
  have e292 := NM.qaL KX G "VALUE_WANTED" 4
  have e293 := NM.qaL KX G "THE_VALUE" 5
  have e294 := NM.qaL KX G "KEEP_THIS" 6
  have e295 := NM.qaL KX G "IT_IS_KEPT" 7
  have e296 := NM.qaL KX G "MARK_OCTETS" 8
  have e297 := NM.qaL KX G "NAME_OCTETS" 20
  have e298 := NM.qaL KX G "ADDRESS_OCTETS" 6
  have e299 := NM.qaL KX G "LENGTH_OCTETS" 2
  have e300 := NM.qaL KX G "MARK_END" 9
  have e301 := NM.qaL KX G "HEAD_OCTETS" 29
  have e302 := NM.qaL KX G "SOMEONE_OCTETS" 26
  have e303 := NM.qaL KX G "MOST_PEOPLE" 8
  have e304 := NM.qaL KX G "LONGEST_CONTENT" 512
  have e305 := NM.qaL KX G "STATES" 18446744073709551616
  have e306 := NM.qaL KX G "STEP" 11400714819323198485
  have e307 := NM.qaL KX G "FIRST_FACTOR" 13787848793156543929
  have e308 := NM.qaL KX G "SECOND_FACTOR" 10723151780598845931
  have e309 := NM.qaL KX G "MOST_OUTGOING" 256
  have e310 := NM.qaL KX G "LATE_AFTER" 1000
  have e311 := NM.qaL KX G "NOT_ASKED" 0
  have e312 := NM.qaL KX G "ASKED" 1
  have e313 := NM.qaL KX G "ANSWERED" 2
  have e314 := NM.qaL KX G "SILENT" 3
  have e315 := NM.qaL KX G "MOST_COUNTED" 8
  have e316 := NM.qaL KX G "MOST_ASKED" 3
  have e317 := NM.qaL KX G "MOST_FOUND" 64
  have e318 := NM.qaL KX G "MOST_KEPT" 128
  have e319 := NM.qaL KX G "KEPT_FOR" 3600000
  have e320 := NM.qaL KX G "ADDRESSES" 281474976710656
  have e321 := NM.qaL KX G "LONGEST_LETTER" 1024
  have e322 := NM.qaL KX G "LONGEST_TIME" 10000000
  have e323 := NM.qaL KX G "MOST_OPEN" 64
  have e324 := NM.qaL KX G "MOST_ROOM" 4096
  have e325 := NM.qaE KX G "READERS" 212
  have e326 := NM.qaE KX G "ANSWERING_KINDS" 290
  have e327 := NM.qaE KX G "CALLS" 871
  have e328 := NM.qaE KX G "ASKING_KINDS" 555
  have e329 := NM.qmb (a := 212) (l := [(0, _, 178), (1, _, 178), (2, _, 185), (3, _, 190), (4, _, 185), (5, _, 204), (6, _, 211), (7, _, 178)]) KX (by k_is) rfl (by decide)
  have e330 := NM.qmb (a := 290) (l := [(0, _, 291), (2, _, 292), (4, _, 293), (6, _, 294)]) KX (by k_is) rfl (by decide)
  have e331 := NM.u_of (a := 291) (l := [(1, _)]) KX (by k_is) (by decide)
  have e332 := NM.u_of (a := 292) (l := [(3, _), (5, _)]) KX (by k_is) (by decide)
  have e333 := NM.u_of (a := 293) (l := [(3, _), (5, _)]) KX (by k_is) (by decide)
  have e334 := NM.u_of (a := 294) (l := [(7, _)]) KX (by k_is) (by decide)
  have e335 := NM.qmb (a := 871) (l := [(0, _, 793), (1, _, 800), (2, _, 807), (3, _, 814), (4, _, 821), (5, _, 828), (6, _, 835), (7, _, 842), (8, _, 849), (9, _, 856), (10, _, 863), (11, _, 870)]) KX (by k_is) rfl (by decide)
  have e336 := NM.u_of (a := 555) (l := [(0, _), (2, _), (4, _), (6, _)]) KX (by k_is) (by decide)
  have e337 := PySem.W.mg_none_of (n := "len") KX G (by k_is)
  have e338 := PySem.W.mg_none_of (n := "list") KX G (by k_is)
  have e339 := PySem.W.mg_none_of (n := "sorted") KX G (by k_is)
  have e340 := PySem.W.mg_none_of (n := "range") KX G (by k_is)
  have T := NM.txtX KX G (A := ⟨45, 92, 146, 167, 285, 325, 400, 421, 442, 508, 550, 733, 782, 21, d_z80, 28, d_z82, 42, d_z41, 63, d_z57, 70, d_z20, 77, d_z46, 82, d_z5, 89, d_z36, 108, d_z40, 115, d_z10, 122, d_z16, 129, d_z38, 136, d_z25, 143, d_z23, 164, d_z54, 178, d_z43, 185, d_z78, 190, d_z50, 197, d_z45, 204, d_z42, 211, d_z4, 219, d_z53, 226, d_z35, 233, d_z56, 240, d_z31, 247, d_z37, 254, d_z32, 261, d_z27, 275, d_z48, 282, d_z49, 308, d_z62, 315, d_z6, 322, d_z39, 343, d_z81, 350, d_z93, 357, d_z0, 364, d_z9, 371, d_z92, 378, d_z7, 385, d_z60, 390, d_z33, 397, d_z11, 418, d_z58, 439, d_z44, 460, d_z47, 467, d_z17, 474, d_z19, 479, d_z26, 484, d_z3, 491, d_z1, 498, d_z8, 505, d_z2, 526, d_z64, 533, d_z68, 540, d_z15, 547, d_z28, 562, d_z96, 569, d_z76, 583, d_z87, 590, d_z65, 597, d_z79, 604, d_z97, 611, d_z95, 618, d_z91, 625, d_z86, 632, d_z94, 639, d_z59, 646, d_z66, 653, d_z73, 660, d_z74, 667, d_z90, 674, d_z89, 681, d_z14, 688, d_z13, 695, d_z34, 702, d_z18, 709, d_z55, 716, d_z22, 723, d_z75, 730, d_z29, 751, d_z61, 758, d_z21, 765, d_z12, 772, d_z30, 779, d_z24, 793, d_z63, 800, d_z88, 807, d_z84, 814, d_z85, 821, d_z77, 828, d_z83, 835, d_z51, 842, d_z52, 849, d_z69, 856, d_z67, 863, d_z72, 870, d_z71, 878, d_z98, 885, d_z70, 142, 138, 466, 462, 212, 290, 871, 555, 291, 292, 293, 294⟩) ⟨e1, e2, e3, e4, e5, e6, e7, e8, e9, e10, e11, e12, e13, e14, e15, e16, e17, e18, e19, e20, e21, e22, e23, e24, e25, e26, e27, e28, e29, e30, e31, e32, e33, e34, e35, e36, e37, e38, e39, e40, e41, e42, e43, e44, e45, e46, e47, e48, e49, e50, e51, e52, e53, e54, e55, e56, e57, e58, e59, e60, e61, e62, e63, e64, e65, e66, e67, e68, e69, e70, e71, e72, e73, e74, e75, e76, e77, e78, e79, e80, e81, e82, e83, F_z80, e84, e85, F_z82, e86, e87, F_z41, e88, e89, F_z57, e90, e91, F_z20, e92, e93, F_z46, e94, e95, F_z5, e96, e97, F_z36, e98, e99, F_z40, e100, e101, F_z10, e102, e103, F_z16, e104, e105, F_z38, e106, e107, F_z25, e108, e109, F_z23, e110, e111, l_z23, e112, F_z54, e113, e114, F_z43, e115, e116, F_z78, e117, e118, F_z50, e119, e120, F_z45, e121, e122, F_z42, e123, e124, F_z4, e125, e126, F_z53, e127, e128, F_z35, e129, e130, F_z56, e131, e132, F_z31, e133, e134, F_z37, e135, e136, F_z32, e137, e138, F_z27, e139, e140, F_z48, e141, e142, F_z49, e143, e144, F_z62, e145, e146, F_z6, e147, e148, F_z39, e149, e150, F_z81, e151, e152, F_z93, e153, e154, F_z0, e155, e156, F_z9, e157, e158, F_z92, e159, e160, F_z7, e161, e162, F_z60, e163, e164, F_z33, e165, e166, F_z11, e167, e168, F_z58, e169, e170, F_z44, e171, e172, F_z47, e173, e174, F_z17, e175, e176, l_z17, e177, F_z19, e178, e179, F_z26, e180, e181, F_z3, e182, e183, F_z1, e184, e185, F_z8, e186, e187, F_z2, e188, e189, F_z64, e190, e191, F_z68, e192, e193, F_z15, e194, e195, F_z28, e196, e197, F_z96, e198, e199, F_z76, e200, e201, F_z87, e202, e203, F_z65, e204, e205, F_z79, e206, e207, F_z97, e208, e209, F_z95, e210, e211, F_z91, e212, e213, F_z86, e214, e215, F_z94, e216, e217, F_z59, e218, e219, F_z66, e220, e221, F_z73, e222, e223, F_z74, e224, e225, F_z90, e226, e227, F_z89, e228, e229, F_z14, e230, e231, F_z13, e232, e233, F_z34, e234, e235, F_z18, e236, e237, F_z55, e238, e239, F_z22, e240, e241, F_z75, e242, e243, F_z29, e244, e245, F_z61, e246, e247, F_z21, e248, e249, F_z12, e250, e251, F_z30, e252, e253, F_z24, e254, e255, F_z63, e256, e257, F_z88, e258, e259, F_z84, e260, e261, F_z85, e262, e263, F_z77, e264, e265, F_z83, e266, e267, F_z51, e268, e269, F_z52, e270, e271, F_z69, e272, e273, F_z67, e274, e275, F_z72, e276, e277, F_z71, e278, e279, F_z98, e280, e281, F_z70, e282, e283, e284, e285, e286, e287, e288, e289, e290, e291, e292, e293, e294, e295, e296, e297, e298, e299, e300, e301, e302, e303, e304, e305, e306, e307, e308, e309, e310, e311, e312, e313, e314, e315, e316, e317, e318, e319, e320, e321, e322, e323, e324, e325, e326, e327, e328, e329, e330, e331, e332, e333, e334, e335, e336, e337, e338, e339, e340⟩
  exact NM.ans_ok KX T hmg
