import PyProof.Rows.All
import Wide.All
import OpenK.AllK
import Wide.FinOn
import PyProof.EqAt
import PyProof.EqKinds
import PyProof.TupleCall
import KE.BitLaws
import Open.SpecLaws
import KE.OsHead
import KE.OsGo
import PyProof.ExcInit
import PyProof.NsDelKeeps
import PyProof.InstStoreFacts
import PyProof.ExcAttrAll.Exception
import PyProof.Rows.SortShellAny
import PyProof.SetScanFacts
import PyProof.Rows.SetFrom
import PyProof.FactsAll.set_2
import PyProof.CollectWalk
import PyProof.FactsAll.set_1
import PyProof.ForAny
import PySem.Challenge.RW_punchhall_s01_answers
set_option Elab.async false
set_option linter.all false
set_option maxRecDepth 100000
set_option maxHeartbeats 2100000
abbrev Fg := PySem.W.Frag
section
open PySem PySem.Spec PyProof.Rows
abbrev CP := @List.length_map
abbrev CQ := @wpAny_bind
abbrev CT := @wpAny_pure
abbrev CU := @List.length_cons
abbrev CV := @List.length_append
abbrev CW := @Heap.get?_push_of_some
abbrev CY := @List.getElem?_eq_some_iff
abbrev CZ := @PySem.W.mg_of
abbrev C0 := @decide_eq_true
abbrev C1 := @List.getElem?_map
abbrev C2 := @List.mem_cons_of_mem
abbrev C3 := @List.mem_cons_self
abbrev C4 := @Bool.and_eq_true
abbrev C5 := @List.mem_cons
abbrev C6 := @decide_eq_false
abbrev C7 := @Nat.le_refl
abbrev C8 := @Option.some.inj
abbrev C9 := @decide_eq_true_eq
abbrev Da := @Array.length_toList
abbrev Db := @List.mem_singleton
abbrev Dc := @of_decide_eq_true
abbrev Dd := @PySem.boot_len
abbrev De := @Nat.zero_le
abbrev Df := @Heap.lt_size
abbrev Dg := @List.getElem?_eq_getElem
abbrev Dh := @List.mem_append
abbrev Di := @Heap.get?_push_size
abbrev Dj := @List.map_append
abbrev Dk := @List.size_toArray
abbrev Dl := @Nat.lt_of_lt_of_le
abbrev Dm := @Bool.false_ne_true
abbrev Dn := @List.length_take
abbrev Dq := @List.append_nil
abbrev Dr := @List.append_assoc
abbrev Ds := @Nat.ne_of_lt
end
section
namespace L2
open PySem PySem.Spec PyProof.Rows
abbrev Key := Sum Int Str
def qO : Key -> Value -> Bool
 | .inl k, v => Value.isInt k v
 | .inr x, v => Value.isStrOf x v
def CA (w : World) : Key -> Int
 | .inl k => hashInt k
 | .inr x => hashStr w x
theorem bg : ∀ {k : Key} {v : Value}, qO k v = true -> (∃ i t, k = Sum.inl i /\ v = Value.int i t) ∨ (∃ x t, k = Sum.inr x /\ v = Value.str x t)
 | .inl i, v, h => by
  obtain ⟨t, e⟩ := Value.isInt_shape (k := i) (v := v) h
  exact .inl ⟨i, t, rfl, e⟩
 | .inr x, v, h => by
  obtain ⟨t, e⟩ := Value.isStrOf_shape (x := x) (v := v) h
  exact .inr ⟨x, t, rfl, e⟩
theorem uy (i : Int) (t : Tok) : qO (.inl i) (.int i t) = true := by simp [qO, Value.isInt]
theorem ux (x : Str) (t : Tok) : qO (.inr x) (.str x t) = true := by simp [qO, Value.isStrOf]
theorem AM (a b : Int) : decide ((Sum.inl a : Key) = Sum.inl b) = (a == b) := by
 by_cases e : a = b
 ·subst e; simp
 ·have h : ¬ (Sum.inl a : Key) = Sum.inl b := fun q => e (Sum.inl.inj q)
  rw [C6 h]
  exact (beq_eq_false_iff_ne.mpr e).symm
theorem AJ (a b : Str) : decide ((Sum.inr a : Key) = Sum.inr b) = decide (a = b) := by
 by_cases e : a = b
 ·subst e; simp
 ·have h : ¬ (Sum.inr a : Key) = Sum.inr b := fun q => e (Sum.inr.inj q)
  rw [C6 h, C6 e]
theorem AL (a : Int) (b : Str) : decide ((Sum.inl a : Key) = Sum.inr b) = false := C6 (fun q => nomatch q)
theorem AK (a : Str) (b : Int) : decide ((Sum.inr a : Key) = Sum.inl b) = false := C6 (fun q => nomatch q)
def bN (prog : Program) (w : World) : PySem.KeyKind prog w Key where
 is := qO
 hash := CA w
 inj := fun v a b ha hb => by
  rcases bg ha with ⟨i, t, rfl, rfl⟩ | ⟨x, t, rfl, rfl⟩
  ·rcases bg hb with ⟨j, u, rfl, e⟩ | ⟨y, u, rfl, e⟩
   ·injection e with e1 _; rw [e1]
   ·exact nomatch e
  ·rcases bg hb with ⟨j, u, rfl, e⟩ | ⟨y, u, rfl, e⟩
   ·exact nomatch e
   ·injection e with e1 _; rw [e1]
 byValue := fun k v h => by
  rcases bg h with ⟨i, t, rfl, rfl⟩ | ⟨x, t, rfl, rfl⟩ <;> rfl
 pyHash := fun hv h => by
  rcases bg hv with ⟨i, t, rfl, rfl⟩ | ⟨x, t, rfl, rfl⟩
  ·exact wpAny_pyHash_int h
  ·exact wpAny_pyHash_str h
 eqBool := fun hu hv h => by
  rcases bg hu with ⟨i, t, rfl, rfl⟩ | ⟨x, t, rfl, rfl⟩
  ·rcases bg hv with ⟨j, u, rfl, rfl⟩ | ⟨y, u, rfl, rfl⟩
   ·rw [AM] at h; exact wpAny_eqBool_int h
   ·rw [AL] at h; exact SeqAt.EqAt.int_str i t y u _ _ _ _ h
  ·rcases bg hv with ⟨j, u, rfl, rfl⟩ | ⟨y, u, rfl, rfl⟩
   ·rw [AK] at h; exact SeqAt.EqAt.str_int x t j u _ _ _ _ h
   ·rw [AJ] at h; exact wpAny_eqBool_str h
 «strs» := fun k x t v h => by
  rcases bg h with ⟨i, u, rfl, e⟩ | ⟨y, u, rfl, e⟩
  ·exact nomatch e
  ·injection e with e1 _
   subst e1
   cases v <;> rfl
theorem oS (prog : Program) (w : World) (i : Int) (t : Tok) : (bN prog w).is (.inl i) (.int i t) = true := uy i t
theorem oQ (prog : Program) (w : World) (x : Str) (t : Tok) : (bN prog w).is (.inr x) (.str x t) = true := ux x t
end L2
namespace L2
open PySem PySem.Spec PyProof.Rows
inductive V where
 | non | bl (b : Bool) | int (i : Int) | str (x : Str) | byt (b : Array UInt8) | flt (b : UInt64) | ref (a : Addr) | ty (n : String)
 deriving DecidableEq
def bm : V -> Value -> Prop
 | .non, u => u = Value.none
 | .bl b, u => u = Value.bool b
 | .int i, u => ∃ t, u = Value.int i t
 | .str x, u => ∃ t, u = Value.str x t
 | .byt b, u => ∃ t, u = Value.bytes b t
 | .flt b, u => ∃ t, u = Value.float b t
 | .ref a, u => u = Value.ref a
 | .ty n, u => u = Value.type n
abbrev aV : List V -> List Value -> Prop := Paired bm
theorem aV.length {xs : List V} {us : List Value} (r : aV xs us) : xs.length = us.length := Paired.length r
theorem aV.get : ∀ {xs : List V} {us : List Value} {i : Nat} {x : V}, aV xs us -> xs[i]? = some x -> ∃ u, us[i]? = some u /\ bm x u
 | _, _, _, _, .nil, e => by simp at e
 | _, _, 0, _, .cons r _, e => by simp at e; subst e; exact ⟨_, rfl, r⟩
 | _, _, i + 1, x, .cons _ t, e => by
  obtain ⟨u, h1, h2⟩ := aV.get (i := i) (x := x) t (by simpa using e)
  exact ⟨u, by simpa using h1, h2⟩
theorem aV.set {x : V} {u : Value} (r : bm x u) : ∀ {xs : List V} {us : List Value} (i : Nat), aV xs us -> aV (xs.set i x) (us.set i u)
 | _, _, _, .nil => .nil
 | _, _, 0, .cons _ t => .cons r t
 | _, _, i + 1, .cons q t => .cons q (aV.set r i t)
theorem aV.append : ∀ {xs ys : List V} {us ws : List Value}, aV xs us -> aV ys ws -> aV (xs ++ ys) (us ++ ws)
 | _, _, _, _, .nil, s => s
 | _, _, _, _, .cons r t, s => .cons r (aV.append t s)
theorem aV.take : ∀ {xs : List V} {us : List Value} (n : Nat), aV xs us -> aV (xs.take n) (us.take n)
 | _, _, 0, _ => .nil
 | _, _, _ + 1, .nil => .nil
 | _, _, n + 1, .cons r t => .cons r (aV.take n t)
theorem aV.drop : ∀ {xs : List V} {us : List Value} (n : Nat), aV xs us -> aV (xs.drop n) (us.drop n)
 | _, _, 0, r => r
 | _, _, _ + 1, .nil => .nil
 | _, _, n + 1, .cons _ t => aV.drop n t
def lQ : Option V -> Option Value -> Prop
 | some v, some u => bm v u
 | none, none => True
 | _, _ => False
def KV {κ : Type} : List (κ × V) -> List (κ × Value) -> Prop := Paired fun (p : κ × V) (q : κ × Value) => p.1 = q.1 /\ bm p.2 q.2
def kV : Key -> V
 | .inl i => .int i
 | .inr x => .str x
inductive HO where
 /-- a list -/
 | lst (xs : List V)
 /-- a tuple (never changes) -/
 | tup (xs : List V)
 /-- a dict whose keys are ints and texts; one whose keys are tuples of ints and texts (the empty one is both) -/
 | dK (kvs : List (Key × V)) | dT (kvs : List (List Key × V))
 /-- a set of ints: its members, its size -/
 | set (S : Int -> Bool) (n : Nat)
 /-- an instance of the class at C, its dict at dx, its attributes -/
 | ins (C dx : Addr) (fs : List (Str × V))
 /-- the dict of the instance at x -/
 | own (x : Addr)
 /-- the dict of an exception -/
 | xd (fs : List (Str × V))
 /-- a bound method, f of x -/
 | met (f x : Addr)
 /-- a range object lo, lo + 1, .. below hi -/
 | rng (lo hi : Int)
 /-- a thing that is known to the object (the script; a dict while a loop walks it): read, never written while it is so -/
 | frz (o : Obj) (u : HO)
 /-- a code object's table -/
 | tbl (ps : Array Value)
 /-- any other thing, by what is true of its one object (a def of one's own: de a S n := HO.ext fun h => ..) -/
 | ext (φ : Heap -> Prop)
abbrev Hp := Addr -> Option HO
def upd (H : Hp) (a : Addr) (o : HO) : Hp := fun b => if b = a then some o else H b
theorem upd_same {H : Hp} {a : Addr} {o : HO} : upd H a o a = some o := by unfold upd; rw [if_pos rfl]
theorem ag {H : Hp} {a b : Addr} {o : HO} (h : b ≠ a) : upd H a o b = H b := by unfold upd; rw [if_neg h]
theorem rq {H : Hp} {a : Addr} {o u : HO} : upd (upd H a o) a u = upd H a u := by
 funext b; unfold upd; split <;> rfl
theorem wD {H : Hp} {a b : Addr} {o u : HO} (h : H a = some o) (h' : H b = some u) (d : o ≠ u) : a ≠ b := by
 intro e; subst e; rw [h] at h'; exact d (C8 h')
theorem ah {H : Hp} {a b : Addr} {o : HO} (h : H a = some o) (h' : H b = none) : a ≠ b := by
 intro e; subst e; rw [h] at h'; cases h'
section
variable (P : Program) (w : World)
def bu (H : Hp) (h : Heap) (a : Addr) : HO -> Prop
 | .lst xs => xs.length <= sizeLine /\ ∃ (its : List Value) (n : Nat), aV xs its /\ h.get? a = some { cls := .type "list", data := .seq its.toArray n }
 | .tup xs => xs.length <= sizeLine /\ ∃ its : List Value, aV xs its /\ IsTup h a its.toArray
 | .dK kvs => kvs.length <= sizeLine /\ (a == sysModules) = false /\ ∃ vs, KV kvs vs /\ h.DictOf (bN P w) a vs
 | .dT kvs => kvs.length <= sizeLine /\ (a == sysModules) = false /\ ∃ xs : List (List Key × Addr × Value),
   Paired (fun (p : List Key × V) (q : List Key × Addr × Value) => p.1 = q.1 /\ H q.2.1 = some (.tup (p.1.map kV)) /\ bm p.2 q.2.2) kvs xs /\
   ∃ o es ep, h.get? a = some o /\ o.ExactDict /\ o.data = .dict es ep /\ es.toList = xs.map (entryOfKey (tupleKind (bN P w))) /\ (xs.map (·.1)).Nodup
 | .set S n => h.SetOf (intKind P w) a S n
 | .ins C dx fs => H dx = some (.own a) /\ fs.length <= 1000 /\ dx ≠ a /\ h.get? a = some (PySem.W.instObj C dx) /\
   ∃ mA, h.Ns1 dx mA /\ (∀ f, lQ (fs.lookup f) (mA f)) /\ PySem.Within mA (fs.map (·.1))
 | .own _ => ∃ o, h.get? a = some o
 | .xd fs => ∃ mA, h.Ns1 a mA /\ ∀ f, lQ (fs.lookup f) (mA f)
 | .rng lo hi => ∃ t u v, h.get? a = some { cls := .type "range", data := .fields #[.int lo t, .int hi u, .int 1 v] }
 | .frz o u => h.get? a = some o /\ bu H h a u
 | .tbl ps => h.get? a = some { cls := .none, data := .fields ps }
 | .met f x => h.get? a = some (PySem.W.methodObj (.ref f) (.ref x))
 | .ext φ => φ h /\ (∃ o, h.get? a = some o) /\ ∀ h1 h2 : Heap, φ h1 -> (∀ o, h1.get? a = some o -> h2.get? a = some o) -> φ h2
def HOk (H : Hp) (h : Heap) : Prop := ∀ a o, H a = some o -> bu P w H h a o
end
section
variable {P : Program} {w : World} {H H' : Hp} {h h' : Heap} {a : Addr} {o : HO}
theorem bu.lt (x : bu P w H h a o) : a < h.objs.size := by
 cases o with
 | lst xs => obtain ⟨_, _, _, _, e⟩ := x; exact Df e
 | tup xs => obtain ⟨_, _, _, p⟩ := x; exact p.lt
 | dK kvs => obtain ⟨_, _, _, _, o, _, _, e, _⟩ := x; exact Df e
 | dT kvs => obtain ⟨_, _, _, _, o, _, _, e, _⟩ := x; exact Df e
 | set S n => obtain ⟨o, _, _, _, e, _⟩ := x; exact Df e
 | ins C dx fs => obtain ⟨_, _, _, e, _⟩ := x; exact Df e
 | own y => obtain ⟨_, e⟩ := x; exact Df e
 | xd fs => obtain ⟨_, ⟨_, _, _, e, _⟩, _⟩ := x; exact Df e
 | rng lo hi => obtain ⟨_, _, _, e⟩ := x; exact Df e
 | frz ob u => obtain ⟨e, _⟩ := x; exact Df e
 | tbl ps => exact Df (show h.get? a = some _ from x)
 | met f y => exact Df (show h.get? a = some _ from x)
 | ext φ => obtain ⟨_, ⟨_, e⟩, _⟩ := x; exact Df e
theorem Paired.mapP {α β : Type} {F G : α -> β -> Prop} : ∀ {l₁ : List α} {l₂ : List β}, Paired F l₁ l₂ -> (∀ a b, F a b -> G a b) -> Paired G l₁ l₂
 | _, _, .nil, _ => .nil
 | _, _, .cons r t, f => .cons (f _ _ r) (Paired.mapP t f)
theorem bu.stay (x : bu P w H h a o) (k : ∀ b u, (b = a ∨ H b = some (.own a)) -> h.get? b = some u -> h'.get? b = some u)
  (ho : ∀ b, H b = some (.own a) -> H' b = some (.own a)) (ht : ∀ b xs, H b = some (.tup xs) -> H' b = some (.tup xs)) : bu P w H' h' a o := by
 induction o with
 | lst xs => obtain ⟨z, its, n, r, e⟩ := x; exact ⟨z, its, n, r, k _ _ (.inl rfl) e⟩
 | tup xs => obtain ⟨z, its, r, ob, e, c⟩ := x; exact ⟨z, its, r, ob, k _ _ (.inl rfl) e, c⟩
 | dK kvs => obtain ⟨z, y, vs, r, ob, es, ep, e, c⟩ := x; exact ⟨z, y, vs, r, ob, es, ep, k _ _ (.inl rfl) e, c⟩
 | dT kvs =>
  obtain ⟨z, y, xs, r, ob, es, ep, e, c⟩ := x
  exact ⟨z, y, xs, Paired.mapP r fun p q z => ⟨z.1, ht _ _ z.2.1, z.2.2⟩, ob, es, ep, k _ _ (.inl rfl) e, c⟩
 | set S n => obtain ⟨ob, es, ep, t, e, c⟩ := x; exact ⟨ob, es, ep, t, k _ _ (.inl rfl) e, c⟩
 | ins C dx fs =>
  obtain ⟨d, z, ne, e, mA, ⟨od, es, ep, e2, c⟩, r⟩ := x
  exact ⟨ho _ d, z, ne, k _ _ (.inl rfl) e, mA, ⟨od, es, ep, k _ _ (.inr d) e2, c⟩, r⟩
 | own y => obtain ⟨ob, e⟩ := x; exact ⟨ob, k _ _ (.inl rfl) e⟩
 | xd fs => obtain ⟨mA, ⟨od, es, ep, e, c⟩, r⟩ := x; exact ⟨mA, ⟨od, es, ep, k _ _ (.inl rfl) e, c⟩, r⟩
 | rng lo hi => obtain ⟨t, u, v, e⟩ := x; exact ⟨t, u, v, k _ _ (.inl rfl) e⟩
 | frz ob u ih => obtain ⟨e, q⟩ := x; exact ⟨k _ _ (.inl rfl) e, ih q⟩
 | tbl ps =>
  have e : h.get? a = some { cls := .none, data := .fields ps } := x
  show h'.get? a = some { cls := .none, data := .fields ps }
  exact k a _ (.inl rfl) e
 | met f y =>
  have e : h.get? a = some (PySem.W.methodObj (.ref f) (.ref y)) := x
  show h'.get? a = some (PySem.W.methodObj (.ref f) (.ref y))
  exact k a _ (.inl rfl) e
 | ext φ => obtain ⟨p, ⟨o, e⟩, st⟩ := x; exact ⟨st _ _ p fun o q => k _ _ (.inl rfl) q, ⟨o, k _ _ (.inl rfl) e⟩, st⟩
theorem HOk.lt (x : HOk P w H h) (e : H a = some o) : a < h.objs.size := (x a o e).lt
theorem HOk.fresh (x : HOk P w H h) (e : h.objs.size <= a) : H a = none := by
 cases q : H a with
 | none => rfl
 | some u => exact absurd (Dl (x.lt q) e) (Nat.lt_irrefl _)
theorem HOk.kept (x : HOk P w H h) (k : ∀ b u, h.get? b = some u -> h'.get? b = some u) : HOk P w H h' := fun a o e =>
 (x a o e).stay (fun b u _ q => k b u q) (fun _ q => q) fun _ _ q => q
theorem HOk.laid (x : HOk P w H h) (k : ∀ b u, h.get? b = some u -> h'.get? b = some u) (hp : h.objs.size <= a) (new : bu P w (upd H a o) h' a o) : HOk P w (upd H a o) h' := fun b u e => by
 have hn := x.fresh hp
 by_cases hb : b = a
 ·subst hb; rw [upd_same] at e; cases e; exact new
 ·rw [ag hb] at e
  exact (x b u e).stay (fun c v _ q => k c v q) (fun c q => by rw [ag (ah q hn)]; exact q) fun c xs q => by rw [ag (ah q hn)]; exact q
end
def Rd (H : Hp) (a : Addr) (u : HO) : Prop := H a = some u ∨ ∃ o, H a = some (.frz o u)
theorem Rd.ok {P : Program} {w : World} {H : Hp} {h : Heap} {a : Addr} {u : HO} (r : Rd H a u) (x : HOk P w H h) : bu P w H h a u := by
 rcases r with r | ⟨o, r⟩
 ·exact x a u r
 ·obtain ⟨_, q⟩ := x a _ r
  exact q
def Mut : Option HO -> Prop
 | some (.lst _) => True
 | some (.dK _) => True
 | some (.dT _) => True
 | some (.set _ _) => True
 | some (.ins _ _ _) => True
 | some (.ext _) => True
 | _ => False
section
variable {P : Program} {w : World} {H : Hp} {h h' : Heap} {x e : Addr} {o' : HO}
theorem HOk.write (ok : HOk P w H h) (mu : Mut (H x)) (he : e = x ∨ H e = some (.own x)) (k : ∀ b u, b ≠ e -> h.get? b = some u -> h'.get? b = some u) (heo : ∃ u, h'.get? e = some u)
  (new : bu P w (upd H x o') h' x o') : HOk P w (upd H x o') h' := fun b u q => by
 have nown : ∀ c y, H c = some (.own y) -> c ≠ x := fun c y r z => by subst z; rw [r] at mu; exact mu
 have ntup : ∀ c xs, H c = some (.tup xs) -> c ≠ x := fun c xs r z => by subst z; rw [r] at mu; exact mu
 by_cases hb : b = x
 ·subst hb; rw [upd_same] at q; cases q; exact new
 ·rw [ag hb] at q
  by_cases hbe : b = e
  ·have q' : H b = some (.own x) := by
    rcases he with z | z
    ·exact absurd (hbe.trans z) hb
    ·rw [hbe]; exact z
   rw [q] at q'; cases q'
   obtain ⟨v, hv⟩ := heo
   exact ⟨v, by rw [hbe]; exact hv⟩
  ·refine (ok b u q).stay (fun c v hc r => k c v ?_ r) (fun c r => by rw [ag (nown c b r)]; exact r) fun c xs r => by rw [ag (ntup c xs r)]; exact r
   rcases hc with rfl | hc
   ·exact hbe
   ·rintro rfl
    rcases he with z | z
    ·exact nown c b hc z
    ·rw [hc] at z; cases z; exact hb rfl
end
structure Un (fs ex : List Addr) (H H' : Hp) (h h' : Heap) : Prop where
 keep : ∀ b o, h.get? b = some o -> H b = none -> b ∉ fs -> b ∉ ex -> h'.get? b = some o
 slot : ∀ b o, h.get? b = some o -> H b = none -> b ∈ fs -> b ∉ ex -> ∃ sl, h'.get? b = some { o with slots := sl }
 free : ∀ b o, h.get? b = some o -> H b = none -> b ∉ ex -> H' b = none
 there : ∀ b o, h.get? b = some o -> b ∉ ex -> ∃ o', h'.get? b = some o'
 tups : ∀ b xs, H b = some (.tup xs) -> H' b = some (.tup xs)
 frzs : ∀ b o u, H b = some (.frz o u) -> H' b = some (.frz o u)
 tbls : ∀ b ps, H b = some (.tbl ps) -> ∃ more, H' b = some (.tbl (ps ++ more))
section
variable {fs fs' ex ex' : List Addr} {H H1 H2 : Hp} {h h1 h2 h' : Heap} {a x e : Addr} {o : HO}
theorem Un.any (u : Un fs ex H H1 h h1) {b : Addr} {ob : Obj} (q : h.get? b = some ob) (n : H b = none) (hx : b ∉ ex) : ∃ sl, h1.get? b = some { ob with slots := sl } := by
 by_cases hb : b ∈ fs
 ·exact u.slot b ob q n hb hx
 ·exact ⟨ob.slots, u.keep b ob q n hb hx⟩
theorem Un.kept (k : ∀ b u, h.get? b = some u -> h'.get? b = some u) : Un fs ex H H h h' :=
 ⟨fun b ob q _ _ _ => k b ob q, fun b ob q _ _ _ => ⟨ob.slots, k b ob q⟩, fun _ _ _ n _ => n, fun b ob q _ => ⟨ob, k b ob q⟩, fun _ _ q => q, fun _ _ _ q => q, fun _ ps q => ⟨#[], by rw [q]; simp⟩⟩
theorem Un.refl : Un fs ex H H h h := Un.kept fun _ _ q => q
theorem Un.laid (k : ∀ b u, h.get? b = some u -> h'.get? b = some u) (hp : h.objs.size <= a) (hn : H a = none) : Un fs ex H (upd H a o) h h' where
 keep := fun b u q _ _ _ => k b u q
 slot := fun b u q _ _ _ => ⟨u.slots, k b u q⟩
 free := fun b u q n _ => by rw [ag (Ds (Dl (Df q) hp))]; exact n
 there := fun b u q _ => ⟨u, k b u q⟩
 tups := fun b xs q => by rw [ag (ah q hn)]; exact q
 frzs := fun b u xs q => by rw [ag (ah q hn)]; exact q
 tbls := fun b ps q => ⟨#[], by rw [ag (ah q hn), q]; simp⟩
theorem Un.write (mu : Mut (H x)) (he : e = x ∨ H e = some (.own x)) (k : ∀ b u, b ≠ e -> h.get? b = some u -> h'.get? b = some u) (heo : ∃ u, h'.get? e = some u) : Un fs ex H (upd H x o) h h' := by
 have hx : ∀ b, H b = none -> b ≠ x := fun b n z => by subst z; rw [n] at mu; exact mu
 have hb : ∀ b, H b = none -> b ≠ e := fun b n z => by
  subst z
  rcases he with r | r
  ·exact hx b n r
  ·rw [n] at r; cases r
 have hm : ∀ b u, H b = some u -> ¬ Mut (some u) -> b ≠ x := fun b u q nm z => by subst z; rw [q] at mu; exact nm mu
 refine ⟨fun b u q n _ _ => k b u (hb b n) q, fun b u q n _ _ => ⟨u.slots, k b u (hb b n) q⟩, fun b u q n _ => by rw [ag (hx b n)]; exact n, fun b u q _ => ?_,
  fun b xs q => by rw [ag (hm b _ q fun z => z)]; exact q, fun b u xs q => by rw [ag (hm b _ q fun z => z)]; exact q, fun b ps q => ⟨#[], by rw [ag (hm b _ q fun z => z), q]; simp⟩⟩
 by_cases hbe : b = e
 ·subst hbe; exact heo
 ·exact ⟨u, k b u hbe q⟩
end
def trk (h : Heap) (H : Hp) : List Addr := (List.range h.objs.size).filter fun a => (H a).isSome
def wM (h : Heap) (H : Hp) : Heap := PySem.W.hideAll h (trk h H)
theorem uE (h : Heap) (H : Hp) : (wM h H).objs.size = h.objs.size := PySem.W.hideAll_size _ _
theorem wL {h : Heap} {H : Hp} {b : Addr} {o : Obj} (e : h.get? b = some o) (n : H b = none) : (wM h H).get? b = some o :=
 PySem.W.hideAll_get _ e fun hm => by
  have q : (H b).isSome = true := (List.mem_filter.mp hm).2
  rw [n] at q; simp at q
theorem yQ {h : Heap} {H : Hp} {b : Addr} {o : Obj} (e : (wM h H).get? b = some o) : h.get? b = some o /\ H b = none := by
 have e' : h.get? b = some o := PySem.W.of_hideAll (trk h H) e
 refine ⟨e', ?_⟩
 cases q : H b with
 | none => rfl
 | some x =>
  have hm : b ∈ trk h H := List.mem_filter.mpr ⟨List.mem_range.mpr (Df e'), by simp [q]⟩
  have z : (wM h H).get? b = none := PySem.W.hideAll_none (trk h H) hm
  rw [z] at e; cases e
end L2
namespace L2
open PySem PySem.Spec PyProof.Rows
structure Mod (K : Fg) (mg : Str -> Option Value) (base : Heap) : Prop where
 kin : K.In base
 glob : base.Ns mainGlobals mg
 blt : ∃ mb, base.Ns builtinsNs mb /\ ∀ x : Str, x ≠ "__name__" -> mb x = bootBuiltins x
 nolimit : base.NoLimit
structure Cx where
 prog : Program
 w : World
 K : Fg
 mg : Str -> Option Value
 base : Heap
 A : Around
 N : List Str
 s_0 : Shared
 H_0 : Hp
 env : Env
 outer : List Env
 stack : List Env
 ex : List Addr
 fn : Str -> Bool
 calm : Bool
 pn : List (Addr × Obj)
 xe : Value -> Shared -> Prop
def frs (l : List Env) : List Addr := l.filterMap (·.frame)
abbrev Cx.fs (X : Cx) : List Addr := frs X.outer
def Vis (sc : Scope) (x : Str) : Prop := sc.names.lookup x = some .local ∨ sc.names.lookup x = some .cell ∨ sc.names.lookup x = some .free
def Loc (sc : Scope) (x : Str) : Prop := sc.names.lookup x = some .local ∨ sc.names.lookup x = some .cell
def CM (env : Env) (h : Heap) (m : Str -> Option Value) (x : Str) (u : Value) : Prop :=
 (env.kindOf x = some .local /\ m x = some u) ∨ ((env.kindOf x = some .cell ∨ env.kindOf x = some .free) /\ ∃ c, env.cells.lookup x = some c /\ h.IsCell c (some u))
structure Cx.Ok (X : Cx) : Prop where
 mod : Mod X.K X.mg X.base
 kind : X.env.scope.kind = .function
 glob : X.env.globals = mainGlobals
 blt : X.env.builtins = builtinsNs
 above : X.s_0.heap.objs.size <= X.env.locals
 inj : ∀ x y c, X.env.cells.lookup x = some c -> X.env.cells.lookup y = some c -> x = y
 has : ∀ x, (X.env.kindOf x = some .cell ∨ X.env.kindOf x = some .free) -> ∃ c, X.env.cells.lookup x = some c
 cab : ∀ x c, X.fn x = true -> X.env.cells.lookup x = some c -> X.s_0.heap.objs.size <= c
 hd : X.calm = true -> X.A.handled = none
 frames : X.A.frames = some X.stack
 stk : X.stack = X.outer ∨ (X.stack = X.env :: X.outer /\ X.env.frame = some X.env.locals)
 exf : ∀ b ∈ X.ex, b ≠ X.env.locals /\ ∀ x c, X.env.cells.lookup x = some c -> c ≠ b
 bs : ∀ b o, X.base.get? b = some o -> X.s_0.heap.get? b = some o /\ X.H_0 b = none
 bsz : X.base.objs.size <= X.s_0.heap.objs.size
 noex : ∀ b o, X.base.get? b = some o -> b ∉ X.ex
 exfs : ∀ b ∈ X.ex, b ∉ X.fs
 funs : X.s_0.heap.FunFrames X.base X.outer
 frf : ∀ b ∈ X.fs, X.H_0 b = none
structure Inv (X : Cx) (pins : List (Addr × Obj)) (σ : List (Option V)) (H : Hp) (s : Shared) : Prop where
 ok : X.Ok
 os : s.os = X.s_0.os
 bare : AllBare s.gens
 base : Un X.fs X.ex X.H_0 H X.s_0.heap s.heap
 loc : ∃ m, s.heap.Ns X.env.locals m /\ ∀ (i : Nat) (x : Str) (v : V), X.N[i]? = some x -> σ[i]? = some (some v) -> Vis X.env.scope x -> ∃ u, bm v u /\ CM X.env s.heap m x u
 cell : ∀ x c, X.env.cells.lookup x = some c -> ∃ v, s.heap.IsCell c v
 free : H X.env.locals = none
 freeC : ∀ x c, X.env.cells.lookup x = some c -> H c = none
 pin : ∀ p ∈ X.pn ++ pins, s.heap.get? p.1 = some p.2 /\ H p.1 = none /\ p.1 ≠ X.env.locals /\ p.1 ∉ X.fs /\ ∀ v, p.2.data ≠ .cell v
 hok : HOk X.prog X.w H s.heap
 len : σ.length = X.N.length
section
variable {X : Cx} {pins : List (Addr × Obj)} {σ : List (Option V)} {H H' : Hp} {s : Shared} {h' : Heap}
theorem Cx.Ok.nofr (ok : X.Ok) {b : Addr} {o : Obj} (e : X.base.get? b = some o) : b ∉ X.fs := fun hb => by
 have := (ok.funs.mem hb).1
 rw [e] at this; cases this
theorem Inv.bs (I : Inv X pins σ H s) : ∀ b o, X.base.get? b = some o -> s.heap.get? b = some o /\ H b = none := fun b o e =>
 ⟨I.base.keep b o (I.ok.bs b o e).1 (I.ok.bs b o e).2 (I.ok.nofr e) (I.ok.noex b o e), I.base.free b o (I.ok.bs b o e).1 (I.ok.bs b o e).2 (I.ok.noex b o e)⟩
theorem Inv.bk (I : Inv X pins σ H s) : ∀ b o, X.base.get? b = some o -> s.heap.get? b = some o := fun b o e => (I.bs b o e).1
theorem Inv.mod (I : Inv X pins σ H s) : Mod X.K X.mg X.base := I.ok.mod
theorem Inv.kIn (I : Inv X pins σ H s) : X.K.In s.heap := I.ok.mod.kin.keeps I.bk
theorem Inv.fr (I : Inv X pins σ H s) : ∃ m, Fr X.base X.env.locals s.heap m :=
 let ⟨m, hn, _⟩ := I.loc
 ⟨m, hn, I.bk, Nat.le_trans I.ok.bsz I.ok.above⟩
theorem Inv.lt (I : Inv X pins σ H s) : X.env.locals < s.heap.objs.size := let ⟨_, hn, _⟩ := I.loc; hn.lt
theorem Inv.sz (I : Inv X pins σ H s) : X.s_0.heap.objs.size <= s.heap.objs.size := Nat.le_trans I.ok.above (Nat.le_of_lt I.lt)
theorem Inv.nofs (I : Inv X pins σ H s) {a : Addr} (h : s.heap.objs.size <= a) : a ∉ X.fs := fun hb => by
 obtain ⟨_, o, ho, _⟩ := I.ok.funs.mem hb
 exact absurd (Dl (Df ho) (Nat.le_trans I.sz h)) (Nat.lt_irrefl _)
theorem Inv.cne (I : Inv X pins σ H s) : ∀ x c, X.env.cells.lookup x = some c -> c ≠ X.env.locals := fun x c e z => by
 obtain ⟨v, o, ho, hd⟩ := I.cell x c e
 obtain ⟨m, ⟨o', es, ep, ho', hd', _⟩, _⟩ := I.loc
 rw [z, ho'] at ho; cases ho; rw [hd'] at hd; cases hd
theorem Inv.funs (I : Inv X pins σ H s) : s.heap.FunFrames X.base X.outer := by
 have all : ∀ (l : List Env), (∀ b ∈ frs l, b ∈ X.fs) -> X.s_0.heap.FunFrames X.base l -> s.heap.FunFrames X.base l := by
  intro l
  induction l with
  | nil => intro _ _; trivial
  | cons env r ih =>
   intro hs hl
   obtain ⟨hk, ⟨L, o, hf, hn, ho, hd⟩, hr⟩ := hl
   have hL : L ∈ X.fs := hs L (by unfold frs; rw [List.filterMap_cons, hf]; exact C3)
   obtain ⟨sl, e⟩ := I.base.slot L o ho (I.ok.frf L hL) hL fun z => I.ok.exfs L z hL
   exact ⟨hk, ⟨L, _, hf, hn, e, hd⟩, ih (fun b hb => hs b (by unfold frs; rw [List.filterMap_cons, hf]; exact C2 _ hb)) hr⟩
 exact all X.outer (fun _ hb => hb) I.ok.funs
theorem Inv.stack (I : Inv X pins σ H s) : s.heap.FunFrames X.base X.stack := by
 rcases I.ok.stk with e | ⟨e, hf⟩
 ·rw [e]; exact I.funs
 ·rw [e]
  obtain ⟨m, hn, _⟩ := I.loc
  refine .cons (by rw [I.ok.kind]; decide) hf hn ?_ I.funs
  exact Heap.get?_none_of_le (Nat.le_trans I.ok.bsz I.ok.above)
theorem Inv.stkSub (I : Inv X pins σ H s) : ∀ b ∈ frs X.stack, b ∈ X.env.locals :: X.fs := fun b hb => by
 rcases I.ok.stk with e | ⟨e, hf⟩
 ·rw [e] at hb; exact C2 _ hb
 ·rw [e] at hb
  unfold frs at hb
  rw [List.filterMap_cons, hf] at hb
  exact hb
theorem Inv.stkFree (I : Inv X pins σ H s) : ∀ b ∈ frs X.stack, H b = none := fun b hb => by
 rcases C5.mp (I.stkSub b hb) with e | hb
 ·rw [e]; exact I.free
 ·obtain ⟨_, o, ho, _⟩ := I.ok.funs.mem hb
  exact I.base.free b o ho (I.ok.frf b hb) fun z => I.ok.exfs b z hb
theorem Inv.step {g' : Array GenState} {t' : Nat} {d' : Drawn} {ch : List Addr} (I : Inv X pins σ H s)
  (hch : ∀ b ∈ ch, (b ∈ X.ex ∨ X.s_0.heap.objs.size <= b) /\ b ≠ X.env.locals /\ (∀ x c, X.env.cells.lookup x = some c -> c ≠ b) /\ ∀ p ∈ X.pn ++ pins, p.1 ≠ b)
  (keep : ∀ b o, b ≠ X.env.locals -> b ∉ X.fs -> b ∉ ch -> s.heap.get? b = some o -> H b = none -> h'.get? b = some o)
  (slot : ∀ b o, b ≠ X.env.locals -> b ∈ X.fs -> b ∉ ch -> s.heap.get? b = some o -> H b = none -> ∃ sl, h'.get? b = some { o with slots := sl }) (free : ∀ b o, b ∉ ch -> s.heap.get? b = some o -> H b = none -> H' b = none)
  (there : ∀ b o, b ∉ ch -> s.heap.get? b = some o -> ∃ o', h'.get? b = some o')
  (tups : ∀ b xs, H b = some (.tup xs) -> H' b = some (.tup xs)) (frzs : ∀ b o u, H b = some (.frz o u) -> H' b = some (.frz o u)) (tbls : ∀ b ps, H b = some (.tbl ps) -> ∃ more, H' b = some (.tbl (ps ++ more)))
  (ns : ∀ m, s.heap.Ns X.env.locals m -> h'.Ns X.env.locals m) (hok : HOk X.prog X.w H' h') (hg : AllBare g') :
  Inv X pins σ H' { s with heap := h', gens := g', drawn := d', toks := t' } := by
 have neL : ∀ b o, X.s_0.heap.get? b = some o -> b ≠ X.env.locals := fun b o e => Ds (Dl (Df e) I.ok.above)
 have neC : ∀ b o, X.s_0.heap.get? b = some o -> b ∉ X.ex -> b ∉ ch := fun b o e hx hb => by
  rcases (hch b hb).1 with z | z
  ·exact hx z
  ·exact absurd (Dl (Df e) z) (Nat.lt_irrefl _)
 have cellK : ∀ x c, X.env.cells.lookup x = some c -> ∀ v, s.heap.IsCell c v -> h'.IsCell c v := fun x c e v ⟨o, ho, hd⟩ => by
  have nch : c ∉ ch := fun z => (hch c z).2.2.1 x c e rfl
  by_cases hc : c ∈ X.fs
  ·obtain ⟨sl, q⟩ := slot c o (I.cne x c e) hc nch ho (I.freeC x c e)
   exact ⟨_, q, hd⟩
  ·exact ⟨o, keep c o (I.cne x c e) hc nch ho (I.freeC x c e), hd⟩
 refine ⟨I.ok, I.os, hg, ⟨fun b o e n hb hx => ?_, fun b o e n hb hx => ?_, fun b o e n hx => ?_, fun b o e hx => ?_, fun b xs e => tups b xs (I.base.tups b xs e), fun b o xs e => frzs b o xs (I.base.frzs b o xs e), fun b ps e => ?_⟩, ?_, fun x c e => ?_, ?_, fun x c e => ?_, fun p hp => ?_, hok, I.len⟩
 ·exact keep b o (neL b o e) hb (neC b o e hx) (I.base.keep b o e n hb hx) (I.base.free b o e n hx)
 ·obtain ⟨sl, e1⟩ := I.base.slot b o e n hb hx
  obtain ⟨sl', e2⟩ := slot b _ (neL b o e) hb (neC b o e hx) e1 (I.base.free b o e n hx)
  exact ⟨sl', e2⟩
 ·obtain ⟨o', e1⟩ := I.base.there b o e hx
  exact free b o' (neC b o e hx) e1 (I.base.free b o e n hx)
 ·obtain ⟨o', e1⟩ := I.base.there b o e hx
  exact there b o' (neC b o e hx) e1
 ·obtain ⟨m1, e1⟩ := I.base.tbls b ps e
  obtain ⟨m2, e2⟩ := tbls b _ e1
  exact ⟨m1 ++ m2, by rw [e2, Array.append_assoc]⟩
 ·obtain ⟨m, hn, hl⟩ := I.loc
  refine ⟨m, ns m hn, fun i x v e1 e2 e3 => ?_⟩
  obtain ⟨u, r, l⟩ := hl i x v e1 e2 e3
  refine ⟨u, r, ?_⟩
  rcases l with l | ⟨k, c, e, z⟩
  ·exact .inl l
  ·exact .inr ⟨k, c, e, cellK x c e _ z⟩
 ·obtain ⟨v, z⟩ := I.cell x c e
  exact ⟨v, cellK x c e v z⟩
 ·obtain ⟨m, ⟨o, _, _, ho, _⟩, _⟩ := I.loc
  exact free _ o (fun z => (hch _ z).2.1 rfl) ho I.free
 ·obtain ⟨v, o, ho, hd⟩ := I.cell x c e
  exact free c o (fun z => (hch c z).2.2.1 x c e rfl) ho (I.freeC x c e)
 ·obtain ⟨e, n, ne, nf, d⟩ := I.pin p hp
  have nch : p.1 ∉ ch := fun z => (hch p.1 z).2.2.2 p hp rfl
  exact ⟨keep p.1 p.2 ne nf nch e n, free p.1 p.2 nch e n, ne, nf, d⟩
theorem Inv.un {t' : Nat} (I : Inv X pins σ H s) (u : Un X.fs [] H H' s.heap h') (hok : HOk X.prog X.w H' h') : Inv X pins σ H' { s with heap := h', toks := t' } := by
 obtain ⟨m, ⟨o, es, ep, ho, r⟩, _⟩ := id I.loc
 obtain ⟨sl, hL⟩ := u.any ho I.free (by simp)
 exact I.step (g' := s.gens) (d' := s.drawn) (ch := []) (fun _ z => nomatch z) (fun b o _ hb _ e n => u.keep b o e n hb (by simp)) (fun b o _ hb _ e n => u.slot b o e n hb (by simp)) (fun b o _ e n => u.free b o e n (by simp)) (fun b o _ e => u.there b o e (by simp)) u.tups u.frzs u.tbls (fun m' hm => by
  obtain ⟨o', es', ep', ho', r'⟩ := hm
  rw [ho] at ho'; cases ho'
  exact ⟨_, es', ep', hL, r'⟩) hok I.bare
theorem Inv.call {g' : Array GenState} {t' : Nat} {d' : Drawn} {ch : List Addr} (I : Inv X pins σ H s) (u : Un (frs X.stack) ch H H' s.heap h') (hok : HOk X.prog X.w H' h') (hg : AllBare g')
  (hch : ∀ b ∈ ch, (b ∈ X.ex ∨ X.s_0.heap.objs.size <= b) /\ b ≠ X.env.locals /\ (∀ x c, X.env.cells.lookup x = some c -> c ≠ b) /\ ∀ p ∈ X.pn ++ pins, p.1 ≠ b) :
  Inv X pins σ H' { s with heap := h', gens := g', drawn := d', toks := t' } := by
 obtain ⟨m, ⟨o, es, ep, ho, r⟩, _⟩ := id I.loc
 obtain ⟨sl, hL⟩ := u.any ho I.free fun z => (hch _ z).2.1 rfl
 exact I.step (ch := ch) hch (fun b o hL hb hc e n => u.keep b o e n (fun z => (C5.mp (I.stkSub b z)).elim hL hb) hc) (fun b o _ _ hc e n => u.any e n hc) (fun b o hc e n => u.free b o e n hc) (fun b o hc e => u.there b o e hc) u.tups u.frzs u.tbls (fun m' hm => by
  obtain ⟨o', es', ep', ho', r'⟩ := hm
  rw [ho] at ho'; cases ho'
  exact ⟨_, es', ep', hL, r'⟩) hok hg
theorem Inv.turned {t' : Nat} {it : Addr} (I : Inv X pins σ H s) (k : ∀ b o, b ≠ it -> s.heap.get? b = some o -> h'.get? b = some o) (hn : H it = none) (hL : it ≠ X.env.locals)
  (h1 : it ∈ X.ex ∨ X.s_0.heap.objs.size <= it) (h2 : ∀ x c, X.env.cells.lookup x = some c -> c ≠ it) (h3 : ∀ p ∈ X.pn ++ pins, p.1 ≠ it) : Inv X pins σ H { s with heap := h', toks := t' } := by
 have nit : ∀ b u, H b = some u -> b ≠ it := fun b u e z => by rw [z, hn] at e; cases e
 refine I.step (g' := s.gens) (d' := s.drawn) (ch := [it]) (fun b hb => ?_) (fun b o _ _ hc e _ => k b o (fun z => hc (by simp [z])) e) (fun b o _ _ hc e _ => ⟨o.slots, k b o (fun z => hc (by simp [z])) e⟩) (fun _ _ _ _ n => n)
  (fun b o hc e => ⟨o, k b o (fun z => hc (by simp [z])) e⟩) (fun _ _ e => e) (fun _ _ _ e => e) (fun b ps e => ⟨#[], by rw [e]; simp⟩) (fun m hm => ?_) (fun b u e => ?_) I.bare
 ·have e : b = it := by simpa using hb
  subst e
  exact ⟨h1, hL, h2, h3⟩
 ·obtain ⟨o, es, ep, ho, r⟩ := hm
  exact ⟨o, es, ep, k _ o (Ne.symm hL) ho, r⟩
 ·refine (I.hok b u e).stay (fun c v hc q => k c v ?_ q) (fun _ q => q) fun _ _ q => q
  rcases hc with z | z
  ·rw [z]; exact nit b u e
  ·exact nit c _ z
theorem Inv.tok (I : Inv X pins σ H s) (t : Nat) : Inv X pins σ H { s with toks := t } := I.un (h' := s.heap) (t' := t) Un.refl I.hok
theorem Inv.kept {t' : Nat} (I : Inv X pins σ H s) (k : ∀ b u, s.heap.get? b = some u -> h'.get? b = some u) : Inv X pins σ H { s with heap := h', toks := t' } := I.un (Un.kept k) (I.hok.kept k)
theorem Inv.laid {a : Addr} {o : HO} {t' : Nat} (I : Inv X pins σ H s) (k : ∀ b u, s.heap.get? b = some u -> h'.get? b = some u) (hp : s.heap.objs.size <= a) (new : bu X.prog X.w (upd H a o) h' a o) :
  Inv X pins σ (upd H a o) { s with heap := h', toks := t' } := I.un (Un.laid k hp (I.hok.fresh hp)) (I.hok.laid k hp new)
theorem Inv.write {x e : Addr} {o : HO} {t' : Nat} (I : Inv X pins σ H s) (mu : Mut (H x)) (he : e = x ∨ H e = some (.own x)) (k : ∀ b u, b ≠ e -> s.heap.get? b = some u -> h'.get? b = some u) (heo : ∃ u, h'.get? e = some u)
  (new : bu X.prog X.w (upd H x o) h' x o) : Inv X pins σ (upd H x o) { s with heap := h', toks := t' } := I.un (Un.write mu he k heo) (I.hok.write mu he k heo new)
theorem Inv.weak {σ' : List (Option V)} (I : Inv X pins σ H s) (hl : σ'.length = σ.length) (w : ∀ (i : Nat) v, σ'[i]? = some (some v) -> σ[i]? = some (some v)) : Inv X pins σ' H s :=
 ⟨I.ok, I.os, I.bare, I.base, let ⟨m, hn, hl'⟩ := I.loc; ⟨m, hn, fun i x v e1 e2 e3 => hl' i x v e1 (w i v e2) e3⟩, I.cell, I.free, I.freeC, I.pin, I.hok, hl.trans I.len⟩
theorem Inv.pins_of {pins' : List (Addr × Obj)} (I : Inv X pins σ H s) (h : ∀ p ∈ pins', s.heap.get? p.1 = some p.2 /\ H p.1 = none /\ p.1 ≠ X.env.locals /\ p.1 ∉ X.fs /\ ∀ v, p.2.data ≠ .cell v) : Inv X pins' σ H s :=
 ⟨I.ok, I.os, I.bare, I.base, I.loc, I.cell, I.free, I.freeC, fun p hp => (Dh.mp hp).elim (fun z => I.pin p (List.mem_append_left _ z)) (h p), I.hok, I.len⟩
theorem iy {N : List Str} (hN : N.Nodup) {i j : Nat} {x : Str} (a : N[i]? = some x) (b : N[j]? = some x) : i = j := by
 obtain ⟨h1, e1⟩ := CY.mp a
 obtain ⟨h2, e2⟩ := CY.mp b
 exact (List.getElem_inj hN).mp (e1.trans e2.symm)
theorem l8 {M : Model} {A : Around} {E : Value -> Shared -> Prop} {i : Nat} {x : Str} {v : V} {u : Value} {Q : Unit -> Shared -> Prop} (I : Inv X pins σ H s) (hN : X.N.Nodup) (hi : X.N[i]? = some x) (hx : Loc X.env.scope x) (r : bm v u)
  (h : ∀ s', Inv X pins (σ.set i (some v)) H s' -> (∃ a, Heap.SameBut a s.heap s'.heap /\ (a = X.env.locals ∨ X.env.cells.lookup x = some a)) -> Q () s') (hf : X.fn x = true ∨ X.env.scope.names.lookup x = some .local := by first | exact .inl rfl | exact .inr rfl | assumption) : wpAny M A (storeName X.env x u) Q E s := by
 obtain ⟨m, hn, hl⟩ := id I.loc
 have hcls : (X.env.scope.kind == .class || (X.env.scope.kind == .module && X.env.locals != X.env.globals)) = false := by rw [I.ok.kind]; rfl
 have hiσ : i < σ.length := by rw [I.len]; exact (CY.mp hi).1
 have cne := I.cne
 have tracked : ∀ {a : Addr} {h' : Heap}, (∃ o, s.heap.get? a = some o /\ H a = none) -> Heap.SameBut a s.heap h' -> HOk X.prog X.w H h' := fun {a h'} ha hs b ob e => by
  obtain ⟨_, _, hfree⟩ := ha
  refine (I.hok b ob e).stay (fun c w' hc q => (hs.2 c ?_).trans q) (fun _ q => q) fun _ _ q => q
  rintro rfl
  rcases hc with rfl | hc
  ·rw [hfree] at e; cases e
  ·rw [hfree] at hc; cases hc
 rcases hx with hk | hk
 ·refine wpAny_storeName_local hk hn (fun h' hn' hs => ?_) hcls
  obtain ⟨oL, _, _, hoL, _⟩ := id hn
  refine h _ ⟨I.ok, I.os, I.bare, ⟨fun b o e n hb hx => ?_, fun b o e n hb hx => ?_, I.base.free, fun b o e hx => ?_, I.base.tups, I.base.frzs, I.base.tbls⟩, ⟨_, hn', fun j y v' e1 e2 e3 => ?_⟩, fun y c e => ?_, I.free, I.freeC, fun p hp => ?_, tracked ⟨oL, hoL, I.free⟩ hs, by simpa using I.len⟩ ⟨_, hs, .inl rfl⟩
  ·exact (hs.2 b (Ds (Dl (Df e) I.ok.above))).trans (I.base.keep b o e n hb hx)
  ·obtain ⟨sl, e1⟩ := I.base.slot b o e n hb hx
   exact ⟨sl, (hs.2 b (Ds (Dl (Df e) I.ok.above))).trans e1⟩
  ·obtain ⟨o', e1⟩ := I.base.there b o e hx
   exact ⟨o', (hs.2 b (Ds (Dl (Df e) I.ok.above))).trans e1⟩
  ·by_cases hj : j = i
   ·subst hj
    rw [hi] at e1; cases e1
    rw [List.getElem?_set_self hiσ] at e2
    cases e2
    exact ⟨u, r, .inl ⟨hk, by simp⟩⟩
   ·rw [List.getElem?_set_ne (Ne.symm hj)] at e2
    obtain ⟨u', r', q⟩ := hl j y v' e1 e2 e3
    refine ⟨u', r', ?_⟩
    rcases q with ⟨k, e⟩ | ⟨k, c, e, z⟩
    ·refine .inl ⟨k, ?_⟩
     have : y ≠ x := fun e => hj (iy hN e1 (e ▸ hi))
     simp [this, e]
    ·exact .inr ⟨k, c, e, z.sameBut hs (cne y c e)⟩
  ·obtain ⟨w', z⟩ := I.cell y c e
   exact ⟨w', z.sameBut hs (cne y c e)⟩
  ·obtain ⟨e, n, ne, nf, d⟩ := I.pin p hp
   exact ⟨(hs.2 p.1 ne).trans e, n, ne, nf, d⟩
 ·have hfn : X.fn x = true := by
   rcases hf with z | z
   ·exact z
   ·rw [z] at hk; cases hk
  obtain ⟨c, hc⟩ := I.ok.has x (.inl hk)
  obtain ⟨w', z⟩ := I.cell x c hc
  refine wpAny_storeName_cell I.ok.kind hk hc z (fun h' hc' hs => ?_)
  obtain ⟨oc, hoc, hocd⟩ := id z
  refine h { s with heap := h' } ⟨I.ok, I.os, I.bare, ⟨fun b o e n hb hx => ?_, fun b o e n hb hx => ?_, I.base.free, fun b o e hx => ?_, I.base.tups, I.base.frzs, I.base.tbls⟩, ⟨m, hn.sameBut hs (Ne.symm (cne x c hc)), fun j y v' e1 e2 e3 => ?_⟩, fun y c' e => ?_, I.free, I.freeC, fun p hp => ?_, tracked ⟨oc, hoc, I.freeC x c hc⟩ hs, by simpa using I.len⟩ ⟨c, hs, .inr hc⟩
  ·exact (hs.2 b (Ds (Dl (Df e) (I.ok.cab x c hfn hc)))).trans (I.base.keep b o e n hb hx)
  ·obtain ⟨sl, e1⟩ := I.base.slot b o e n hb hx
   exact ⟨sl, (hs.2 b (Ds (Dl (Df e) (I.ok.cab x c hfn hc)))).trans e1⟩
  ·obtain ⟨o', e1⟩ := I.base.there b o e hx
   exact ⟨o', (hs.2 b (Ds (Dl (Df e) (I.ok.cab x c hfn hc)))).trans e1⟩
  ·by_cases hj : j = i
   ·subst hj
    rw [hi] at e1; cases e1
    rw [List.getElem?_set_self hiσ] at e2
    cases e2
    exact ⟨u, r, .inr ⟨.inl hk, c, hc, hc'⟩⟩
   ·rw [List.getElem?_set_ne (Ne.symm hj)] at e2
    obtain ⟨u', r', q⟩ := hl j y v' e1 e2 e3
    refine ⟨u', r', ?_⟩
    rcases q with q | ⟨k, c', e, z'⟩
    ·exact .inl q
    ·refine .inr ⟨k, c', e, z'.sameBut hs ?_⟩
     rintro rfl
     exact hj (iy hN e1 (I.ok.inj _ _ _ e hc ▸ hi))
  ·by_cases hcc : c' = c
   ·subst hcc; exact ⟨_, hc'⟩
   ·obtain ⟨w2, z2⟩ := I.cell y c' e
    exact ⟨w2, z2.sameBut hs hcc⟩
  ·obtain ⟨e, n, ne, nf, d⟩ := I.pin p hp
   refine ⟨(hs.2 p.1 ?_).trans e, n, ne, nf, d⟩
   intro q
   rw [q, hoc] at e
   have q' : oc = p.2 := C8 e
   exact d w' (by rw [<- q']; exact hocd)
theorem iq {M : Model} {A : Around} {E : Value -> Shared -> Prop} {i : Nat} {x : Str} {v : V} {u : Value} {Q : Unit -> Shared -> Prop} (I : Inv X pins σ H s) (hN : X.N.Nodup) (hi : X.N[i]? = some x) (hx : Loc X.env.scope x) (r : bm v u)
  (h : ∀ s', Inv X pins (σ.set i (some v)) H s' -> Q () s') (hf : X.fn x = true ∨ X.env.scope.names.lookup x = some .local := by first | exact .inl rfl | exact .inr rfl | assumption) : wpAny M A (storeName X.env x u) Q E s :=
 l8 I hN hi hx r (fun s' I' _ => h s' I') hf
theorem Inv.call' {s' : Shared} {ch : List Addr} (I : Inv X pins σ H s) (ho : s'.os = s.os) (u : Un (frs X.stack) ch H H' s.heap s'.heap) (hok : HOk X.prog X.w H' s'.heap) (hg : AllBare s'.gens)
  (hch : ∀ b ∈ ch, (b ∈ X.ex ∨ X.s_0.heap.objs.size <= b) /\ b ≠ X.env.locals /\ (∀ x c, X.env.cells.lookup x = some c -> c ≠ b) /\ ∀ p ∈ X.pn ++ pins, p.1 ≠ b) : Inv X pins σ H' s' := by
 obtain ⟨h', g', d', t', o'⟩ := s'
 have e : o' = s.os := ho
 subst e
 exact I.call (g' := g') (t' := t') (d' := d') u hok hg hch
end
abbrev XK := Value -> Option Addr -> Hp -> Prop
abbrev St := List (Option V)
abbrev VK := V -> Hp -> Prop
abbrev TE := St -> Hp -> VK -> Prop
abbrev TT := St -> Hp -> (Bool -> Hp -> Prop) -> Prop
abbrev TA := St -> Hp -> (List V -> Hp -> Prop) -> Prop
structure Ends where
 nx : St -> Hp -> Prop
 rt : VK
 bk : St -> Hp -> Prop := fun _ _ => False
 ct : St -> Hp -> Prop := fun _ _ => False
abbrev TS := Ends -> St -> Hp -> Prop
def EP (X : Cx) (pins : List (Addr × Obj)) (σ : St) (Q : VK) (u : Value) (s' : Shared) : Prop := ∃ v H', Inv X pins σ H' s' /\ bm v u /\ Q v H'
def TP (X : Cx) (pins : List (Addr × Obj)) (σ : St) (Q : Bool -> Hp -> Prop) (b : Bool) (s' : Shared) : Prop := ∃ H', Inv X pins σ H' s' /\ Q b H'
def AP (X : Cx) (pins : List (Addr × Obj)) (σ : St) (Q : List V -> Hp -> Prop) (us : List Value) (s' : Shared) : Prop := ∃ vs H', Inv X pins σ H' s' /\ aV vs us /\ Q vs H'
def SP (X : Cx) (pins : List (Addr × Obj)) (D : Ends) (f : Flow) (s' : Shared) : Prop :=
 match f with
 | .next => ∃ σ' H', Inv X pins σ' H' s' /\ D.nx σ' H'
 | .brk => ∃ σ' H', Inv X pins σ' H' s' /\ D.bk σ' H'
 | .cont => ∃ σ' H', Inv X pins σ' H' s' /\ D.ct σ' H'
 | .ret u => ∃ v σ' H', Inv X pins σ' H' s' /\ bm v u /\ D.rt v H'
def PE (X : Cx) (e : Expr) (t : TE) : Prop :=
 ∀ (pins : List (Addr × Obj)) (s : Shared) (σ : St) (H : Hp) (Q : VK), Inv X pins σ H s -> t σ H Q -> wpAny (model X.prog X.w) X.A (eval e X.env) (EP X pins σ Q) X.xe s
def PT (X : Cx) (e : Expr) (t : TT) : Prop :=
 ∀ (pins : List (Addr × Obj)) (s : Shared) (σ : St) (H : Hp) (Q : Bool -> Hp -> Prop), Inv X pins σ H s -> t σ H Q -> wpAny (model X.prog X.w) X.A (isTrue e X.env (eval e X.env)) (TP X pins σ Q) X.xe s
def PW (X : Cx) (e : Expr) (t : TT) : Prop :=
 ∀ (whole : Sem Value) (pins : List (Addr × Obj)) (s : Shared) (σ : St) (H : Hp) (Q : Bool -> Hp -> Prop), Inv X pins σ H s -> t σ H Q -> wpAny (model X.prog X.w) X.A (isTrue e X.env whole) (TP X pins σ Q) X.xe s
theorem PW.pt {X : Cx} {e : Expr} {t : TT} (h : PW X e t) : PT X e t := h _
def PA (X : Cx) (es : List Expr) (t : TA) : Prop :=
 ∀ (pos : Pos) (pins : List (Addr × Obj)) (s : Shared) (σ : St) (H : Hp) (Q : List V -> Hp -> Prop), Inv X pins σ H s -> t σ H Q -> wpAny (model X.prog X.w) X.A (spliced (backTo pos (starEach es X.env))) (AP X pins σ Q) X.xe s
def PS (X : Cx) (st : Stmt) (t : TS) : Prop :=
 ∀ (pins : List (Addr × Obj)) (s : Shared) (σ : St) (H : Hp) (D : Ends), Inv X pins σ H s -> t D σ H -> wpAny (model X.prog X.w) X.A (exec st X.env) (SP X pins D) X.xe s
def PSs (X : Cx) (st : List Stmt) (t : TS) : Prop :=
 ∀ (pins : List (Addr × Obj)) (s : Shared) (σ : St) (H : Hp) (D : Ends), Inv X pins σ H s -> t D σ H -> wpAny (model X.prog X.w) X.A (execs st X.env) (SP X pins D) X.xe s
theorem thn {α : Type} {t : Sem α} {Q Q' : α -> Shared -> Prop} {M : Model} {A : Around} {E : Value -> Shared -> Prop} {s : Shared} (h : wpAny M A t Q E s) (hQ : ∀ a s, Q a s -> Q' a s) : wpAny M A t Q' E s := wpAny_mono h hQ fun _ _ x => x
end L2
namespace L2
open PySem PySem.Spec PyProof.Rows
section
variable {X : Cx}
theorem bin {a b : Expr} {ta tb : TE} (ha : PE X a ta) (hb : PE X b tb) {pins : List (Addr × Obj)} {s : Shared} {σ : St} {H : Hp} {R : V -> V -> Hp -> Prop} (I : Inv X pins σ H s) (h : ta σ H fun x H1 => tb σ H1 fun y H2 => R x y H2)
  {α : Type} {Q : α -> Shared -> Prop} {f : Value -> Value -> Sem α}
  (hf : ∀ v u s2 x y H2, Inv X pins σ H2 s2 -> bm x v -> bm y u -> R x y H2 -> wpAny (model X.prog X.w) X.A (f v u) Q X.xe s2) :
  wpAny (model X.prog X.w) X.A (eval a X.env) (fun v s₁ => wpAny (model X.prog X.w) X.A (eval b X.env) (fun u s₂ => wpAny (model X.prog X.w) X.A (f v u) Q X.xe s₂) X.xe s₁) X.xe s := by
 refine thn (ha pins s σ H _ I h) fun v s1 ⟨x, H1, I1, r1, q1⟩ => ?_
 refine thn (hb pins s1 σ H1 _ I1 q1) fun u s2 ⟨y, H2, I2, r2, q2⟩ => ?_
 exact hf v u s2 x y H2 I2 r1 r2 q2
def lZ (i : Nat) : TE := fun σ H Q => ∃ v, σ[i]? = some (some v) /\ Q v H
def tC (v : V) : TE := fun _ H Q => Q v H
theorem Am {i : Nat} {x : Str} {pos : Pos} (hN : X.N[i]? = some x) (hv : Vis X.env.scope x) (hd : (x == ("__debug__" : Str)) = false := by decide) (hcd : (x == ("__classdict__" : Str)) = false := by decide) : PE X (.Name x pos) (lZ i) := by
 intro pins s σ H Q I h
 obtain ⟨v, e, h⟩ := h
 obtain ⟨m, hn, hl⟩ := I.loc
 obtain ⟨u, r, l⟩ := hl i x v hN e hv
 have fin : EP X pins σ Q u s := ⟨v, H, I, r, h⟩
 rcases l with ⟨hk, hm⟩ | ⟨hk, c, hc, hcell⟩
 ·exact wpAny_Name (wpAny_loadName_local I.ok.kind hk hn hm fin) hd
 ·rcases hk with hk | hk
  ·exact wpAny_Name (wpAny_loadName_cell I.ok.kind hk hc hcell fin) hd
  ·exact wpAny_Name (wpAny_loadName_free I.ok.kind hk hc hcell fin hcd) hd
theorem ai {i j pos} : PE X (.Constant (.int i) j pos) (tC (.int i)) := fun _ _ _ H _ I h => wpAny_Constant_int ⟨.int i, H, I.tok _, ⟨_, rfl⟩, h⟩
theorem An {b j pos} : PE X (.Constant (.bool b) j pos) (tC (.bl b)) := fun _ _ _ H _ I h => Constant_bool ⟨.bl b, H, I, rfl, h⟩
theorem pT {j pos} : PE X (.Constant .none j pos) (tC .non) := fun _ _ _ H _ I h => Constant_none ⟨.non, H, I, rfl, h⟩
theorem tE {x j pos} : PE X (.Constant (.str x) j pos) (tC (.str x)) := fun _ _ _ H _ I h => Calls.Constant_str ⟨.str x, H, I.tok _, ⟨_, rfl⟩, h⟩
def Gl (X : Cx) (x : Str) : Prop := X.env.kindOf x = some .globalImplicit
theorem fw {E : Value -> Shared -> Prop} {pins : List (Addr × Obj)} {s : Shared} {σ : St} {H : Hp} {x : Str} {u : Value} {pos : Pos} {Q : Value -> Shared -> Prop} (I : Inv X pins σ H s) (hg : Gl X x) (hm : X.mg x = some u) (h : Q u s)
  (hd : (x == ("__debug__" : Str)) = false := by decide) : wpAny (model X.prog X.w) X.A (eval (.Name x pos) X.env) Q E s :=
 Calls.Name_function_global I.ok.kind hg (Calls.loadGlobal_global (by rw [I.ok.glob]; exact I.mod.glob.keeps I.bk) hm h) hd
theorem jn {E : Value -> Shared -> Prop} {pins : List (Addr × Obj)} {s : Shared} {σ : St} {H : Hp} {x : Str} {u : Value} {pos : Pos} {Q : Value -> Shared -> Prop} (I : Inv X pins σ H s) (hg : Gl X x) (hm : X.mg x = none) (hv : bootBuiltins x = some u) (h : Q u s)
  (hn : x ≠ "__name__" := by decide) (hd : (x == ("__debug__" : Str)) = false := by decide) : wpAny (model X.prog X.w) X.A (eval (.Name x pos) X.env) Q E s := by
 obtain ⟨mb, h1, h2⟩ := I.mod.blt
 exact Calls.Name_function_global I.ok.kind hg (Calls.loadGlobal_builtin (by rw [I.ok.glob]; exact I.mod.glob.keeps I.bk) hm (by rw [I.ok.blt]; exact h1.keeps I.bk) ((h2 x hn).trans hv) h) hd
theorem ax {x : Str} {v : V} {u : Value} {pos : Pos} (hg : Gl X x) (hm : X.mg x = some u) (r : bm v u) (hd : (x == ("__debug__" : Str)) = false := by decide) : PE X (.Name x pos) (tC v) :=
 fun _ _ _ H _ I h => fw I hg hm ⟨v, H, I, r, h⟩ hd
variable {a b : Expr} {ta tb : TE} {pos : Pos}
def PC (X : Cx) (op : CmpOp) (a b : Expr) (t : TE) : Prop :=
 ∀ (pins : List (Addr × Obj)) (s : Shared) (σ : St) (H : Hp) (Q : VK), Inv X pins σ H s -> t σ H Q ->
  wpAny (model X.prog X.w) X.A (eval a X.env) (fun v s₁ => wpAny (model X.prog X.w) X.A (eval b X.env) (fun u s₂ => wpAny (model X.prog X.w) X.A (compareOp op v u) (EP X pins σ Q) X.xe s₂) X.xe s₁) X.xe s
def tB (t : TE) : TT := fun σ H Q => t σ H fun x H1 => ∃ c, x = .bl c /\ Q c H1
theorem xz {op : CmpOp} {t : TE} (h : PC X op a b t) (h1 : behindInMarks op b = false := by first | exact nobehind _ (by decide) (by decide) | rfl) : PT X (.Compare a [op] [b] pos) (tB t) := by
 intro pins s σ H Q I hw
 refine wpAny_isTrue_Compare1 (thn (h pins s σ H _ I hw) fun v s1 h1 => thn h1 fun u s2 h2 => thn h2 fun c s3 ⟨x, H1, I1, r1, q1⟩ => ?_) h1
 obtain ⟨d, rfl, q⟩ := q1
 cases r1
 exact wpAny_truthy_bool ⟨H1, I1, q⟩
theorem iT {e : Expr} {t : TE} (h : PE X e t) (he : ∀ whole, isTrue e X.env whole = (do let v <- whole; standAt e.pos; holding [v] (truthy v)) := by intro _; rfl) : PT X e (tB t) := by
 intro pins s σ H Q I hw
 refine isTrue_plain (thn (h pins s σ H _ I hw) fun v s1 ⟨x, H1, I1, r1, q1⟩ => ?_) (he _)
 obtain ⟨d, rfl, q⟩ := q1
 cases r1
 exact wpAny_truthy_bool ⟨H1, I1, q⟩
variable {tA tB' : TT} {rest : List Expr}
def Cl (t u : TT) : TT := fun σ H Q => t σ H fun c H1 => if c = true then u σ H1 Q else Q false H1
def tOr (t u : TT) : TT := fun σ H Q => t σ H fun c H1 => if c = true then Q true H1 else u σ H1 Q
def Cg (t : TT) : TT := fun σ H Q => t σ H fun c H1 => Q (!c) H1
theorem iR (ha : PT X a tA) : PW X (.BoolOp .And [a] pos) tA := by
 intro wh pins s σ H Q I h
 refine isTrue_and (thn (ha pins s σ H Q I h) fun c s1 e => ?_)
 cases c with
 | true => exact isTrue_and_nil e
 | false => exact e
theorem mi (ha : PT X a tA) : PW X (.BoolOp .Or [a] pos) tA := by
 intro wh pins s σ H Q I h
 refine isTrue_or (thn (ha pins s σ H Q I h) fun c s1 e => ?_)
 cases c with
 | false => exact isTrue_or_nil e
 | true => exact e
theorem mj (ha : PT X a tA) (hb : PW X (.BoolOp .And (b :: rest) pos) tB') : PW X (.BoolOp .And (a :: b :: rest) pos) (Cl tA tB') := by
 intro wh pins s σ H Q I h
 refine isTrue_and (thn (ha pins s σ H _ I h) fun c s1 ⟨H1, I1, q1⟩ => ?_)
 cases c with
 | true => exact hb wh pins s1 σ H1 Q I1 q1
 | false => exact ⟨H1, I1, q1⟩
theorem oF (ha : PT X a tA) (hb : PW X (.BoolOp .Or (b :: rest) pos) tB') : PW X (.BoolOp .Or (a :: b :: rest) pos) (tOr tA tB') := by
 intro wh pins s σ H Q I h
 refine isTrue_or (thn (ha pins s σ H _ I h) fun c s1 ⟨H1, I1, q1⟩ => ?_)
 cases c with
 | true => exact ⟨H1, I1, q1⟩
 | false => exact hb wh pins s1 σ H1 Q I1 q1
theorem g8 (ha : PT X a tA) : PT X (.UnaryOp .Not a pos) (Cg tA) := by
 intro pins s σ H Q I h
 exact isTrue_not (ha pins s σ H (fun c H1 => Q (!c) H1) I h)
def Bx (ta tb : TE) : TE := fun σ H Q => ta σ H fun x H1 => ∃ c, x = .bl c /\ if c = true then tb σ H1 Q else Q (.bl false) H1
def Cf (ta tb : TE) : TE := fun σ H Q => ta σ H fun x H1 => ∃ c, x = .bl c /\ if c = true then Q (.bl true) H1 else tb σ H1 Q
def Br (ta : TE) : TE := fun σ H Q => ta σ H fun x H1 => ∃ c, x = .bl c /\ Q (.bl (!c)) H1
theorem xC {op} {t : TE} (h : PE X a t) : PE X (.BoolOp op [a] pos) t := fun pins s σ H Q I hw => BoolOp_one (h pins s σ H Q I hw)
theorem Ao (ha : PE X a ta) (hb : PE X (.BoolOp .And (b :: rest) pos) tb) : PE X (.BoolOp .And (a :: b :: rest) pos) (Bx ta tb) := by
 intro pins s σ H Q I h
 refine BoolOp_and (thn (ha pins s σ H _ I h) fun v s1 ⟨x, H1, I1, r1, q1⟩ => ?_)
 obtain ⟨c, rfl, q1⟩ := q1
 cases r1
 refine wpAny_truthy_bool ?_
 cases c with
 | true => exact hb pins s1 σ H1 Q I1 q1
 | false => exact ⟨.bl false, H1, I1, rfl, q1⟩
theorem BG (ha : PE X a ta) (hb : PE X (.BoolOp .Or (b :: rest) pos) tb) : PE X (.BoolOp .Or (a :: b :: rest) pos) (Cf ta tb) := by
 intro pins s σ H Q I h
 refine BoolOp_or (thn (ha pins s σ H _ I h) fun v s1 ⟨x, H1, I1, r1, q1⟩ => ?_)
 obtain ⟨c, rfl, q1⟩ := q1
 cases r1
 refine wpAny_truthy_bool ?_
 cases c with
 | false => exact hb pins s1 σ H1 Q I1 q1
 | true => exact ⟨.bl true, H1, I1, rfl, q1⟩
theorem xD (ha : PE X a ta) : PE X (.UnaryOp .Not a pos) (Br ta) := by
 intro pins s σ H Q I h
 refine UnaryOp_ (thn (ha pins s σ H _ I h) fun v s1 ⟨x, H1, I1, r1, q1⟩ => ?_)
 obtain ⟨c, rfl, q1⟩ := q1
 cases r1
 exact not_of (wpAny_truthy_bool ⟨.bl (!c), H1, I1, rfl, q1⟩)
def tIf (t : TT) (ta tb : TE) : TE := fun σ H Q => t σ H fun c H1 => if c = true then ta σ H1 Q else tb σ H1 Q
theorem pU {c : Expr} (hc : PT X c tA) (ha : PE X a ta) (hb : PE X b tb) : PE X (.IfExp c a b pos) (tIf tA ta tb) := by
 intro pins s σ H Q I h
 refine wpAny_IfExp (thn (hc pins s σ H _ I h) fun d s1 ⟨H1, I1, q1⟩ => ?_)
 cases d with
 | true => exact ha pins s1 σ H1 Q I1 q1
 | false => exact hb pins s1 σ H1 Q I1 q1
end
end L2
namespace L2
open PySem PySem.Spec PyProof.Rows
def SqL (K : Fg) (H : Hp) (a : Addr) (xs : List V) : Prop :=
 Rd H a (.lst xs) ∨
  ∃ (o : Obj) (its : Array Value) (n : Nat), K.lookup a = some o /\ o.cls = .type "list" /\ o.dict = none /\ o.data = .seq its n /\ its.size <= sizeLine /\ aV xs its.toList
def SqT (K : Fg) (H : Hp) (a : Addr) (xs : List V) : Prop :=
 Rd H a (.tup xs) ∨
  ∃ (o : Obj) (its : Array Value) (n : Nat), K.lookup a = some o /\ o.cls = .type "tuple" /\ o.data = .seq its n /\ its.size <= sizeLine /\ aV xs its.toList
def CL : Value -> Option V
 | .none => some .non
 | .bool b => some (.bl b)
 | .int i _ => some (.int i)
 | .str x _ => some (.str x)
 | .bytes b _ => some (.byt b)
 | .float b _ => some (.flt b)
 | .ref a => some (.ref a)
 | .type n => some (.ty n)
 | _ => none
theorem bm.abs {x : V} {u : Value} (r : bm x u) : CL u = some x := by
 cases x with
 | non => cases r; rfl
 | bl _ => cases r; rfl
 | int _ => obtain ⟨t, rfl⟩ := r; rfl
 | str _ => obtain ⟨t, rfl⟩ := r; rfl
 | byt _ => obtain ⟨t, rfl⟩ := r; rfl
 | flt _ => obtain ⟨t, rfl⟩ := r; rfl
 | ref _ => cases r; rfl
 | ty _ => cases r; rfl
theorem bm.inj {x y : V} {u : Value} (r : bm x u) (q : bm y u) : x = y := C8 (r.abs.symm.trans q.abs)
theorem aV.inj : ∀ {xs ys : List V} {us : List Value}, aV xs us -> aV ys us -> xs = ys
 | _, _, _, .nil, .nil => rfl
 | _, _, _, .cons r t, .cons r' t' => by rw [r.inj r', aV.inj t t']
section
variable {X : Cx} {pins : List (Addr × Obj)} {σ : St} {H : Hp} {s : Shared} {a : Addr} {xs ys : List V}
theorem SqL.of {K : Fg} (h : H a = some (.lst xs)) : SqL K H a xs := .inl (.inl h)
theorem SqT.of {K : Fg} (h : H a = some (.tup xs)) : SqT K H a xs := .inl (.inl h)
theorem Inv.list (I : Inv X pins σ H s) (h : SqL X.K H a xs) : ∃ its : List Value, aV xs its /\ PlainL s.heap a its.toArray /\ xs.length <= sizeLine := by
 rcases h with h | ⟨o, its, n, hk, hc, hd, hs, hz, r⟩
 ·obtain ⟨z, its, n, r, e⟩ := h.ok I.hok
  exact ⟨its, r, ⟨_, n, e, rfl, rfl, rfl⟩, z⟩
 ·refine ⟨its.toList, r, ⟨o, n, I.kIn a o hk, hc, hd, by simpa using hs⟩, ?_⟩
  have e := r.length
  simp only [Da] at e
  omega
theorem Inv.tuple (I : Inv X pins σ H s) (h : SqT X.K H a xs) : ∃ its : List Value, aV xs its /\ IsTup s.heap a its.toArray /\ xs.length <= sizeLine := by
 rcases h with h | ⟨o, its, n, hk, hc, hs, hz, r⟩
 ·obtain ⟨z, its, r, p⟩ := h.ok I.hok
  exact ⟨its, r, p, z⟩
 ·refine ⟨its.toList, r, ⟨o, I.kIn a o hk, hc, n, by simpa using hs⟩, ?_⟩
  have e := r.length
  simp only [Da] at e
  omega
theorem Inv.list_inj (I : Inv X pins σ H s) (h : SqL X.K H a xs) (h' : SqL X.K H a ys) : xs = ys := by
 obtain ⟨its, r, ⟨o, n, e, _, _, d⟩, _⟩ := I.list h
 obtain ⟨its', r', ⟨o', n', e', _, _, d'⟩, _⟩ := I.list h'
 rw [e] at e'; cases e'
 rw [d] at d'
 injection d' with d1 _
 have : its = its' := by simpa using congrArg Array.toList d1
 subst this
 exact r.inj r'
end
abbrev Cx.wish (X : Cx) (E : Value -> Shared -> Prop) : Cx := { X with xe := E }
abbrev Cx.nox (X : Cx) : Cx := X.wish fun _ _ => False
theorem Cx.Ok.wish {X : Cx} (ok : X.Ok) (E : Value -> Shared -> Prop) : (X.wish E).Ok :=
 ⟨ok.mod, ok.kind, ok.glob, ok.blt, ok.above, ok.inj, ok.has, ok.cab, ok.hd, ok.frames, ok.stk, ok.exf, ok.bs, ok.bsz, ok.noex, ok.exfs, ok.funs, ok.frf⟩
theorem Cx.Ok.unwish {X : Cx} {E : Value -> Shared -> Prop} (ok : (X.wish E).Ok) : X.Ok :=
 ⟨ok.mod, ok.kind, ok.glob, ok.blt, ok.above, ok.inj, ok.has, ok.cab, ok.hd, ok.frames, ok.stk, ok.exf, ok.bs, ok.bsz, ok.noex, ok.exfs, ok.funs, ok.frf⟩
section
variable {X : Cx} {pins : List (Addr × Obj)} {σ : St} {H : Hp} {s : Shared} {E : Value -> Shared -> Prop}
theorem Inv.wish (I : Inv X pins σ H s) (E : Value -> Shared -> Prop) : Inv (X.wish E) pins σ H s := ⟨I.ok.wish E, I.os, I.bare, I.base, I.loc, I.cell, I.free, I.freeC, I.pin, I.hok, I.len⟩
theorem Inv.unwish (I : Inv (X.wish E) pins σ H s) : Inv X pins σ H s := ⟨I.ok.unwish, I.os, I.bare, I.base, I.loc, I.cell, I.free, I.freeC, I.pin, I.hok, I.len⟩
theorem SP.unwish {D : Ends} {f : Flow} {s' : Shared} (h : SP (X.wish E) pins D f s') : SP X pins D f s' := by
 cases f with
 | next => obtain ⟨σ', H', I, q⟩ := h; exact ⟨σ', H', I.unwish, q⟩
 | brk => obtain ⟨σ', H', I, q⟩ := h; exact ⟨σ', H', I.unwish, q⟩
 | cont => obtain ⟨σ', H', I, q⟩ := h; exact ⟨σ', H', I.unwish, q⟩
 | ret u => obtain ⟨v, σ', H', I, r, q⟩ := h; exact ⟨v, σ', H', I.unwish, r, q⟩
theorem PSs.nox {st : List Stmt} {t : TS} (h : PSs X.nox st t) : PSs X st t := fun pins s σ H D I hw =>
 wpAny_mono (h pins s σ H D (I.wish _) hw) (fun _ _ q => q.unwish) fun _ _ z => False.elim z
end
section
variable {X : Cx} {st : Stmt} {rest : List Stmt} {t u : TS} {e : Expr} {te : TE} {pos : Pos}
def tNext : TS := fun D σ H => D.nx σ H
def B5 (t u : TS) : TS := fun D σ H => t { D with nx := u D } σ H
theorem aK : PSs X [] tNext := fun _ _ σ H _ I h => wpAny_execs_nil ⟨σ, H, I, h⟩
theorem ad (h1 : PS X st t) (h2 : PSs X rest u) : PSs X (st :: rest) (B5 t u) := by
 intro pins s σ H D I h
 refine wpAny_execs_cons (thn (h1 pins s σ H { D with nx := u D } I h) fun f s1 q => ?_)
 cases f with
 | next =>
  obtain ⟨σ', H', I', q⟩ := q
  exact h2 pins s1 σ' H' D I' q
 | ret v => exact q
 | brk => exact q
 | cont => exact q
theorem af (h1 : PS X st t) : PSs X [st] t := by
 intro pins s σ H D I h
 refine wpAny_execs_cons (thn (h1 pins s σ H D I h) fun f s1 q => ?_)
 cases f with
 | next => exact wpAny_execs_nil q
 | ret v => exact q
 | brk => exact q
 | cont => exact q
theorem Inv.quiet {pins : List (Addr × Obj)} {σ : St} {H : Hp} {s : Shared} (I : Inv X pins σ H s) : interactive X.env = false := by simp [interactive, I.ok.kind]
def zR (te : TE) : TS := fun D σ H => te σ H fun _ H1 => D.nx σ H1
theorem bv (he : PE X e te) (hs : swapsWith e none pos.line X.env = pure false := by rfl) : PS X (.Expr e pos) (zR te) := by
 intro pins s σ H D I h
 exact wpAny_Expr_any (thn (he pins s σ H _ I h) fun v s1 ⟨x, H1, I1, r1, q1⟩ => ⟨σ, H1, I1, q1⟩) I.quiet hs
def zO (te : TE) : TS := fun D σ H => te σ H D.rt
theorem au (he : PE X e te) : PS X (.Return (some e) pos) (zO te) := by
 intro pins s σ H D I h
 exact wpAny_Return_some (thn (he pins s σ H _ I h) fun v s1 ⟨x, H1, I1, r1, q1⟩ => ⟨x, σ, H1, I1, r1, q1⟩)
def Ch (c : TT) (t u : TS) : TS := fun D σ H => c σ H fun b H1 => if b = true then t D σ H1 else u D σ H1
theorem bp {c : Expr} {a b : List Stmt} {tc : TT} (hc : PT X c tc) (ha : PSs X a t) (hb : PSs X b u) : PS X (.If c a b pos) (Ch tc t u) := by
 intro pins s σ H D I h
 refine wpAny_If (thn (hc pins s σ H _ I h) fun d s1 ⟨H1, I1, q1⟩ => ?_)
 cases d with
 | true => exact ha pins s1 σ H1 D I1 q1
 | false => exact hb pins s1 σ H1 D I1 q1
end
abbrev TG := V -> St -> Hp -> (St -> Hp -> Prop) -> Prop
abbrev TGs := List V -> St -> Hp -> (St -> Hp -> Prop) -> Prop
def PG (X : Cx) (target : Expr) (t : TG) : Prop :=
 ∀ (pins : List (Addr × Obj)) (s : Shared) (σ : St) (H : Hp) (v : V) (u : Value) (Q : St -> Hp -> Prop), Inv X pins σ H s -> bm v u -> t v σ H Q ->
  wpAny (model X.prog X.w) X.A (assign target X.env u) (fun _ s' => ∃ σ' H', Inv X pins σ' H' s' /\ Q σ' H') X.xe s
def PGs (X : Cx) (ts : List Expr) (t : TGs) : Prop :=
 ∀ (pins : List (Addr × Obj)) (s : Shared) (σ : St) (H : Hp) (vs : List V) (us : List Value) (Q : St -> Hp -> Prop), Inv X pins σ H s -> aV vs us -> t vs σ H Q ->
  wpAny (model X.prog X.w) X.A (assignInOrder ((assignEach ts X.env).map (·.2)) us) (fun _ s' => ∃ σ' H', Inv X pins σ' H' s' /\ Q σ' H') X.xe s
abbrev TSet := V -> V -> V -> Hp -> (Hp -> Prop) -> Prop
def BX (X : Cx) (t : TSet) : Prop :=
 ∀ (pins : List (Addr × Obj)) (s : Shared) (σ : St) (H : Hp) (o i v : V) (ov iv u : Value) (Q : Hp -> Prop), Inv X pins σ H s -> bm o ov -> bm i iv -> bm v u -> t o i v H Q ->
  wpAny (model X.prog X.w) X.A (setItem ov iv u) (fun _ s' => ∃ H', Inv X pins σ H' s' /\ Q H') X.xe s
abbrev TIp := V -> V -> Hp -> VK -> Prop
def PIp (X : Cx) (op : Operator) (t : TIp) : Prop :=
 ∀ (pins : List (Addr × Obj)) (s : Shared) (σ : St) (H : Hp) (x y : V) (v u : Value) (Q : VK), Inv X pins σ H s -> bm x v -> bm y u -> t x y H Q ->
  wpAny (model X.prog X.w) X.A (inplaceOp op v u) (EP X pins σ Q) X.xe s
section
variable {X : Cx} {pos : Pos}
def wP (i : Nat) : TG := fun v σ H Q => Q (σ.set i (some v)) H
theorem aG {i : Nat} {x : Str} (hN : X.N.Nodup) (hi : X.N[i]? = some x) (hx : Loc X.env.scope x) (hf : X.fn x = true ∨ X.env.scope.names.lookup x = some .local := by first | exact .inl rfl | exact .inr rfl | assumption) : PG X (.Name x pos) (wP i) := by
 intro pins s σ H v u Q I r h
 exact wpAny_assign_Name (iq I hN hi hx r (fun s' I' => ⟨_, H, I', h⟩) hf)
def gNil : TGs := fun vs σ H Q => vs = [] /\ Q σ H
def BQ (t : TG) (u : TGs) : TGs := fun vs σ H Q => ∃ v r, vs = v :: r /\ t v σ H fun σ' H' => u r σ' H' Q
theorem iZ : PGs X [] gNil := by
 intro pins s σ H vs us Q I r h
 obtain ⟨e, h⟩ := h
 subst e
 cases r
 exact assignInOrder_nil ⟨σ, H, I, h⟩
theorem bP {e : Expr} {es : List Expr} {t : TG} {u : TGs} (h1 : PG X e t) (h2 : PGs X es u)
  (hs : (assignEach (e :: es) X.env).map (·.2) = assign e X.env :: (assignEach es X.env).map (·.2) := by rfl) : PGs X (e :: es) (BQ t u) := by
 intro pins s σ H vs us Q I r h
 obtain ⟨v, vr, e1, h⟩ := h
 subst e1
 cases r with
 | cons r rr =>
  rw [hs]
  refine assignInOrder_cons (thn (h1 pins s σ H _ _ _ I r h) fun _ s1 ⟨σ1, H1, I1, q1⟩ => ?_)
  exact h2 pins s1 σ1 H1 _ _ Q I1 rr q1
def CG (K : Fg) (n : Nat) (t : TGs) : TG := fun v σ H Q => ∃ a xs, v = .ref a /\ SqT K H a xs /\ xs.length = n /\ t xs σ H Q
theorem mw {es : List Expr} {k : Nat} {t : TGs} {n : Nat} (hc : X.calm = true) (h : PGs X es t)
  (hn : (assignEach es X.env).length = n := by rfl) (hst : (assignEach es X.env).findIdx? (·.1) = none := by rfl) : PG X (.Tuple es k pos) (CG X.K n t) := by
 intro pins s σ H v u Q I r hw
 obtain ⟨a, xs, e1, hq, hl, hw⟩ := hw
 subst e1
 cases r
 obtain ⟨its, rv, ht, hz⟩ := I.tuple hq
 refine assign_Tuple_tuple (I.ok.hd hc) ht (by simp [hn, <- hl, rv.length]) hst fun h' hx => ?_
 have I1 : Inv X pins σ H { s with heap := h' } := I.kept (t' := s.toks) fun b o e => hx b o (Ds (Df e)) e
 exact h pins _ σ H xs _ Q I1 (by simpa using rv) hw
def CH (to ti : TE) (t : TSet) : TG := fun v σ H Q => to σ H fun o H1 => ti σ H1 fun i H2 => t o i v H2 fun H3 => Q σ H3
theorem Al {o i : Expr} {to ti : TE} {t : TSet} (ho : PE X o to) (hi : PE X i ti) (hs : BX X t)
  (ha : ∀ v, assign (.Subscript o i pos) X.env v = (do
   let ov <- holding [v] (eval o X.env)
   let iv <- holding [v, ov] (eval i X.env)
   standAt pos
   holding [v, ov, iv] (setItem ov iv v)
   release [v, ov, iv] []) := by intro _; rfl) : PG X (.Subscript o i pos) (CH to ti t) := by
 intro pins s σ H v u Q I r h
 rw [ha]
 refine CQ (wpAny_holding (thn (ho pins s σ H _ I h) fun ov s1 ⟨x, H1, I1, r1, q1⟩ => ?_))
 refine CQ (wpAny_holding (thn (hi pins s1 σ H1 _ I1 q1) fun iv s2 ⟨y, H2, I2, r2, q2⟩ => ?_))
 refine CQ (wpAny_standAt (CQ (wpAny_holding (thn (hs pins s2 σ H2 x y v ov iv u _ I2 r1 r2 r q2) fun _ s3 ⟨H3, I3, q3⟩ => ?_))))
 exact wpAny_release ⟨σ, H3, I3, q3⟩
def Bw (te : TE) (g : TG) : TS := fun D σ H => te σ H fun x H1 => g x σ H1 D.nx
theorem Ah {tg e : Expr} {te : TE} {g : TG} (he : PE X e te) (hg : PG X tg g) (hs : swapsWithSole [tg] e pos.line X.env = pure false := by rfl) (hw : swappedStores [tg] e X.env = pure none := by rfl)
  (h1 : (assignEach [tg] X.env).map (·.2) = [assign tg X.env] := by rfl) : PS X (.Assign [tg] e pos) (Bw te g) := by
 intro pins s σ H D I h
 refine wpAny_Assign_stores (thn (he pins s σ H _ I h) fun v s1 ⟨x, H1, I1, r1, q1⟩ => ?_) hs hw
 rw [h1]
 exact thn (hg pins s1 σ H1 x v _ I1 r1 q1) fun _ s2 q => q
theorem aw {i : Nat} {x : Str} {e : Expr} {te : TE} {pos' : Pos} (hN : X.N.Nodup) (hi : X.N[i]? = some x) (hx : Loc X.env.scope x) (he : PE X e te) (hs : swapsWith e (some (.Name x pos')) pos.line X.env = pure false := by rfl) (hf : X.fn x = true ∨ X.env.scope.names.lookup x = some .local := by first | exact .inl rfl | exact .inr rfl | assumption) :
  PS X (.Assign [.Name x pos'] e pos) (Bw te (wP i)) := by
 intro pins s σ H D I h
 refine wpAny_Assign_Name (thn (he pins s σ H _ I h) fun v s1 ⟨y, H1, I1, r1, q1⟩ => ?_) hs
 exact iq I1 hN hi hx r1 (fun s2 I2 => ⟨_, H1, I2, q1⟩) hf
def Ck (i : Nat) (te : TE) (ti : TIp) : TS := fun D σ H => ∃ x, σ[i]? = some (some x) /\ te σ H fun y H1 => ti x y H1 fun z H2 => D.nx (σ.set i (some z)) H2
theorem sX {i : Nat} {x : Str} {e : Expr} {te : TE} {op : Operator} {ti : TIp} {pos' : Pos} (hN : X.N.Nodup) (hi : X.N[i]? = some x) (hx : Loc X.env.scope x) (he : PE X e te) (ho : PIp X op ti) (hf : X.fn x = true ∨ X.env.scope.names.lookup x = some .local := by first | exact .inl rfl | exact .inr rfl | assumption) :
  PS X (.AugAssign (.Name x pos') op e pos) (Ck i te ti) := by
 intro pins s σ H D I h
 obtain ⟨v, e1, h⟩ := h
 obtain ⟨m, hn, hl⟩ := I.loc
 have vis : Vis X.env.scope x := by rcases hx with k | k; exact .inl k; exact .inr (.inl k)
 obtain ⟨u, r, l⟩ := hl i x v hi e1 vis
 refine wpAny_AugAssign_Name ?_
 have go : wpAny (model X.prog X.w) X.A (eval e X.env) (fun w s₂ => wpAny (model X.prog X.w) X.A (inplaceOp op u w) (fun r s₃ => wpAny (model X.prog X.w) X.A (storeName X.env x r) (fun _ => SP X pins D .next) X.xe s₃) X.xe s₂) X.xe s := by
  refine thn (he pins s σ H _ I h) fun w s1 ⟨y, H1, I1, r1, q1⟩ => ?_
  refine thn (ho pins s1 σ H1 v y u w _ I1 r r1 q1) fun z s2 ⟨zv, H2, I2, r2, q2⟩ => ?_
  exact iq I2 hN hi hx r2 (fun s3 I3 => ⟨_, H2, I3, q2⟩) hf
 rcases l with ⟨hk, hm⟩ | ⟨hk, c, hc, hcell⟩
 ·exact wpAny_loadName_local I.ok.kind hk hn hm go
 ·rcases hk with hk | hk
  ·exact wpAny_loadName_cell I.ok.kind hk hc hcell go
  ·rcases hx with k | k
   ·have : X.env.scope.names.lookup x = some .free := hk
    rw [k] at this; cases this
   ·have : X.env.scope.names.lookup x = some .free := hk
    rw [k] at this; cases this
def Bv (to ti te : TE) (tget : V -> V -> Hp -> VK -> Prop) (tip : TIp) (tset : TSet) : TS := fun D σ H => to σ H fun o H1 => ti σ H1 fun i H2 => tget o i H2 fun x H3 => te σ H3 fun y H4 => tip x y H4 fun z H5 => tset o i z H5 fun H6 => D.nx σ H6
def Ca (X : Cx) (t : V -> V -> Hp -> VK -> Prop) : Prop :=
 ∀ (pins : List (Addr × Obj)) (s : Shared) (σ : St) (H : Hp) (o i : V) (ov iv : Value) (Q : VK), Inv X pins σ H s -> bm o ov -> bm i iv -> t o i H Q ->
  wpAny (model X.prog X.w) X.A (getItem ov iv) (EP X pins σ Q) X.xe s
theorem sW {o i e : Expr} {to ti te : TE} {tget : V -> V -> Hp -> VK -> Prop} {tip : TIp} {tset : TSet} {op : Operator} {tpos : Pos} (ho : PE X o to) (hi : PE X i ti) (hg : Ca X tget) (he : PE X e te) (hp : PIp X op tip) (hs : BX X tset)
  (ha : ∀ ov iv new, augStore i ov iv new = (do holding [new, ov, iv] (setItem ov iv new); release [new, ov, iv] []; pure .next) := by intros; rfl) : PS X (.AugAssign (.Subscript o i tpos) op e pos) (Bv to ti te tget tip tset) := by
 intro pins s σ H D I h
 refine wpAny_AugAssign_SubscriptAny (thn (ho pins s σ H _ I h) fun ov s1 ⟨x1, H1, I1, r1, q1⟩ => ?_) ha
 refine thn (hi pins s1 σ H1 _ I1 q1) fun iv s2 ⟨x2, H2, I2, r2, q2⟩ => ?_
 refine thn (hg pins s2 σ H2 x1 x2 ov iv _ I2 r1 r2 q2) fun old s3 ⟨x3, H3, I3, r3, q3⟩ => ?_
 refine thn (he pins s3 σ H3 _ I3 q3) fun v s4 ⟨x4, H4, I4, r4, q4⟩ => ?_
 refine thn (hp pins s4 σ H4 x3 x4 old v _ I4 r3 r4 q4) fun new s5 ⟨x5, H5, I5, r5, q5⟩ => ?_
 exact thn (hs pins s5 σ H5 x1 x2 x5 ov iv new _ I5 r1 r2 r5 q5) fun _ s6 ⟨H6, I6, q6⟩ => ⟨σ, H6, I6, q6⟩
end
section
variable {X : Cx} {pos : Pos}
def xo (c : TT) (tb : TS) : TS := fun D σ H => ∃ W : Nat -> St -> Hp -> Prop, (∃ m, W m σ H) /\ ∀ m σ H, W m σ H ->
 c σ H fun b H1 => if b = true then ∃ N : St -> Hp -> Prop, (∀ σ' H', N σ' H' -> ∃ m', m' < m /\ W m' σ' H') /\ tb { D with nx := N, ct := N, bk := D.nx } σ H1 else D.nx σ H1
theorem iw {c : Expr} {body : List Stmt} {tc : TT} {tb : TS} (hp : PassesOwn (model X.prog X.w) X.A X.env X.xe) (hc : PT X c tc) (hb : PSs X body tb) : PS X (.While c body [] pos) (xo tc tb) := by
 intro pins s σ H D I h
 obtain ⟨W, ⟨m0, w0⟩, turn⟩ := h
 refine wpAny_While (codeAny_whileLoop (fun n s' => ∃ σ' H', Inv X pins σ' H' s' /\ W n σ' H') ?_ m0 ⟨σ, H, I, w0⟩)
 rintro n s1 ⟨σ1, H1, I1, w1⟩
 refine wpAny_passesOwn hp (thn (hc pins s1 σ1 H1 _ I1 (turn n σ1 H1 w1)) fun b s2 ⟨H2, I2, q2⟩ => ?_)
 cases b with
 | true =>
  obtain ⟨N, hN, q2⟩ := q2
  rw [if_pos rfl]
  refine wpAny_passesOwn hp (thn (hb pins s2 σ1 H2 _ I2 q2) fun f s3 q3 => ?_)
  cases f with
  | next =>
   obtain ⟨σ3, H3, I3, n3⟩ := q3
   obtain ⟨m', hm, w3⟩ := hN σ3 H3 n3
   exact ⟨m', hm, σ3, H3, I3, w3⟩
  | cont =>
   obtain ⟨σ3, H3, I3, n3⟩ := q3
   obtain ⟨m', hm, w3⟩ := hN σ3 H3 n3
   exact ⟨m', hm, σ3, H3, I3, w3⟩
  | brk => exact q3
  | ret v => exact q3
 | false =>
  rw [if_neg Dm]
  exact wpAny_execs_nil ⟨σ1, H2, I2, q2⟩
end
structure It where
 go : Nat -> Hp -> Prop
 yld : Nat -> Hp -> V -> Hp -> Prop
 stop : Nat -> Hp -> Prop
def vt (X : Cx) (pins : List (Addr × Obj)) (H : Hp) (b : Addr) : Prop :=
 H b = none /\ b ≠ X.env.locals /\ b ∉ X.fs /\ (b ∈ X.ex ∨ X.s_0.heap.objs.size <= b) /\ (∀ x c, X.env.cells.lookup x = some c -> c ≠ b) /\ ∀ p ∈ X.pn ++ pins, p.1 ≠ b
theorem Inv.fpOk {X : Cx} {pins : List (Addr × Obj)} {σ : St} {H H' : Hp} {s : Shared} {b : Addr} (I : Inv X pins σ H s) (hb : s.heap.objs.size <= b) (hn : H' b = none) : vt X pins H' b := by
 refine ⟨hn, Nat.ne_of_gt (Dl I.lt hb), I.nofs hb, .inr (Nat.le_trans I.sz hb), fun x c e z => ?_, fun p hp z => ?_⟩
 ·obtain ⟨v, q⟩ := I.cell x c e
  exact absurd (Dl q.lt (by rw [z]; exact hb)) (Nat.lt_irrefl _)
 ·exact absurd (Dl (Df (I.pin p hp).1) (by rw [z]; exact hb)) (Nat.lt_irrefl _)
structure xQ (P : Program) (w : World) (K : Fg) (tg : Expr) (J : It) (fp : List Addr) (it : Addr) (tn : Nat -> Heap -> Prop) : Prop where
 mem : it ∈ fp
 obj : ∀ i h, tn i h -> ∀ b ∈ fp, ∃ o, h.get? b = some o /\ ∀ v, o.data ≠ .cell v
 keep : ∀ i h h', tn i h -> (∀ b ∈ fp, ∀ o, h.get? b = some o -> h'.get? b = some o) -> tn i h'
 item : ∀ (X : Cx), X.prog = P -> X.w = w -> X.K = K -> X.calm = true -> ∀ (i : Nat) (pins : List (Addr × Obj)) (s : Shared) (σ : St) (H : Hp) (E : Value -> Shared -> Prop), Inv X pins σ H s -> (∀ b ∈ fp, vt X pins H b) -> tn i s.heap -> J.go i H ->
  wpAny (model P w) X.A (pyNext (.ref it)) (fun r s1 => ∃ u, r = some u /\
   wpAny (model P w) X.A (letOwnedTupleGo tg (.ref it) u) (fun _ s2 => ∃ x H', Inv X pins σ H' s2 /\ bm x u /\ J.yld i H x H' /\ tn (i + 1) s2.heap /\ ∀ b ∈ fp, H' b = none) E s1) E s
 done : ∀ (X : Cx), X.prog = P -> X.w = w -> X.K = K -> X.calm = true -> ∀ (i : Nat) (pins : List (Addr × Obj)) (s : Shared) (σ : St) (H : Hp) (E : Value -> Shared -> Prop), Inv X pins σ H s -> (∀ b ∈ fp, vt X pins H b) -> tn i s.heap -> J.stop i H ->
  wpAny (model P w) X.A (pyNext (.ref it)) (fun r s1 => r = none /\ Inv X pins σ H s1) E s
 self : ∀ (A : Around) (i : Nat) (s : Shared) (Q : Value -> Shared -> Prop) (E : Value -> Shared -> Prop), tn i s.heap -> Q (.ref it) s -> wpAny (model P w) A (pyIter (.ref it)) Q E s
abbrev TI := St -> Hp -> (It -> Hp -> Prop) -> Prop
def PIE (X : Cx) (pins : List (Addr × Obj)) (σ : St) (tg : Expr) (R : It -> Hp -> Prop) (itv : Value) (s2 : Shared) : Prop :=
 ∃ (it : Addr) (fp : List Addr) (tn : Nat -> Heap -> Prop) (J : It) (H' : Hp), itv = .ref it /\ Inv X pins σ H' s2 /\ xQ X.prog X.w X.K tg J fp it tn /\ tn 0 s2.heap /\ (∀ b ∈ fp, vt X pins H' b) /\ R J H'
def PI (X : Cx) (tg iter : Expr) (wi : TI) : Prop :=
 ∀ (pins : List (Addr × Obj)) (s : Shared) (σ : St) (H : Hp) (R : It -> Hp -> Prop), Inv X pins σ H s -> wi σ H R ->
  wpAny (model X.prog X.w) X.A (eval iter X.env) (fun v s1 => wpAny (model X.prog X.w) X.A (pyIter v) (PIE X pins σ tg R) X.xe s1) X.xe s
theorem uH {M : Model} {A : Around} {E : Value -> Shared -> Prop} {s : Shared} {tg : Expr} {it : Addr} {u : Value} {o : Obj} {n : String} {vs : Array Value} {Q : Unit -> Shared -> Prop} (ho : s.heap.get? it = some o) (hc : o.cls = .type n) (hd : o.data = .fields vs)
  (hn : ["enumerate", "zip", "dict_itemiterator", "dict_reverseitemiterator", "odict_iterator", "itertools.zip_longest", "itertools.pairwise"].contains n = false) (hQ : Q () s) : wpAny M A (letOwnedTupleGo tg (.ref it) u) Q E s := by
 unfold letOwnedTupleGo
 cases tg <;> first
  | exact CT hQ
  | (cases u <;> first
    | exact CT hQ
    | (refine CQ (wpAny_load ho ?_)
       rw [hc, hd]
       show wpAny M A (if (["enumerate", "zip", "dict_itemiterator", "dict_reverseitemiterator", "odict_iterator", "itertools.zip_longest", "itertools.pairwise"].contains n && vs[0]? == some (rawInt _)) = true then _ else _) Q E s
       rw [if_neg (by intro h; rw [hn, Bool.false_and] at h; cases h)]
       exact CT hQ))
def Itl (K : Fg) (a : Addr) : It :=
 ⟨fun i H => ∃ xs x, SqL K H a xs /\ xs[i]? = some x, fun i H x H' => H' = H /\ ∀ xs, SqL K H a xs -> xs[i]? = some x, fun i H => ∃ xs, SqL K H a xs /\ xs.length <= i⟩
def Itr (lo : Int) (n : Nat) : It := ⟨fun i _ => i < n, fun i H x H' => H' = H /\ x = .int (lo + i), fun i _ => n <= i⟩
theorem rD {P : Program} {w : World} {K : Fg} {tg : Expr} (a it : Addr) : xQ P w K tg (Itl K a) [it] it (fun i h => h.IsListIter it a i) where
 mem := by simp
 obj := fun i h st b hb => by
  have e : b = it := by simpa using hb
  subst e
  obtain ⟨o, e, c, d⟩ := st
  exact ⟨o, e, fun v z => by rw [d] at z; cases z⟩
 keep := fun i h h' st k => st.at fun o e => k it (by simp) o e
 item := by
  intro X hP hw hK hc i pins s σ H E I hf st hg
  subst hP hw hK
  obtain ⟨xs, x, hq, hx⟩ := hg
  obtain ⟨its, rv, p, hz⟩ := I.list hq
  obtain ⟨u, hu, ru⟩ := rv.get hx
  obtain ⟨f0, f1, f2, f3, f4, f5⟩ := hf it (by simp)
  refine wpAny_pyNext_list_item st p.isList (x := u) (by simpa using hu) fun h' st' sb => ?_
  have I1 : Inv X pins σ H { s with heap := h' } := I.turned (t' := s.toks) (fun b o hb e => (sb.2 b hb).trans e) f0 f1 f3 f4 f5
  obtain ⟨o, e, c, d⟩ := id st'
  exact ⟨u, rfl, uH (s := { s with heap := h' }) e c d (by decide) ⟨x, H, I1, ru, ⟨rfl, fun ys hy => by rw [I.list_inj hy hq]; exact hx⟩, st', fun b hb => (hf b hb).1⟩⟩
 done := by
  intro X hP hw hK hc i pins s σ H E I hf st hg
  subst hP hw hK
  obtain ⟨xs, hq, hx⟩ := hg
  obtain ⟨its, rv, p, hz⟩ := I.list hq
  obtain ⟨f0, f1, f2, f3, f4, f5⟩ := hf it (by simp)
  have hl := rv.length
  exact wpAny_pyNext_list_end (I.ok.hd hc) st p.isList (by simp; omega) fun h' eb => ⟨rfl, I.turned (t' := s.toks) (fun b o hb e => eb b o hb e) f0 f1 f3 f4 f5⟩
 self := fun _ _ _ _ _ st h => wpAny_pyIter_listiter st h
theorem qu {P : Program} {w : World} {K : Fg} {tg : Expr} (it : Addr) (lo : Int) (n : Nat) : xQ P w K tg (Itr lo n) [it] it (fun i h => IsRangeIter h it (lo + (i : Nat) * 1) ((n : Int) - (i : Nat)) 1) where
 mem := by simp
 obj := fun i h st b hb => by
  have e : b = it := by simpa using hb
  subst e
  exact ⟨_, st, fun v z => by
   have z' : Data.fields _ = Data.cell v := z
   cases z'⟩
 keep := fun i h h' st k => k it (by simp) _ st
 item := by
  intro X hP hw hK hc i pins s σ H E I hf st hg
  subst hP hw hK
  obtain ⟨f0, f1, f2, f3, f4, f5⟩ := hf it (by simp)
  have W := Walks.range (prog := X.prog) (w := X.w) (I.ok.hd hc) it lo 1 n
  refine W.item i s _ _ hg st fun v h' tk hv st' kk => ?_
  obtain ⟨t, rfl⟩ := hv
  have I1 : Inv X pins σ H { s with heap := h', toks := tk } := I.turned (fun b o hb e => kk b o (by simpa using hb) e) f0 f1 f3 f4 f5
  refine ⟨_, rfl, uH (s := { s with heap := h', toks := tk }) (n := "range_iterator") st' rfl rfl (by decide) ⟨.int (lo + i), H, I1, ⟨t, ?_⟩, ⟨rfl, rfl⟩, st', fun b hb => (hf b hb).1⟩⟩
  rw [Int.mul_one]
 done := by
  intro X hP hw hK hc i pins s σ H E I hf st hg
  subst hP hw hK
  obtain ⟨f0, f1, f2, f3, f4, f5⟩ := hf it (by simp)
  exact wpAny_pyNext_range_end (I.ok.hd hc) st (by have : n <= i := hg; omega) fun h' eb => ⟨rfl, I.turned (t' := s.toks) (fun b o hb e => eb b o hb e) f0 f1 f3 f4 f5⟩
 self := fun _ _ _ _ _ st h => wpAny_pyIter_rangeiter st h
end L2
namespace L2
open PySem PySem.Spec PyProof.Rows
section
variable {X : Cx} {tg : Expr}
def BO (K : Fg) (tl : TE) : TI := fun σ H R => tl σ H fun x H1 => ∃ a, x = .ref a /\ (∃ xs, SqL K H1 a xs) /\ R (Itl K a) H1
theorem bq {l : Expr} {tl : TE} (hl : PE X l tl) : PI X tg l (BO X.K tl) := by
 intro pins s σ H R I h
 refine thn (hl pins s σ H _ I h) fun v s1 ⟨x, H1, I1, r1, q1⟩ => ?_
 obtain ⟨a, e, ⟨xs, hq⟩, q⟩ := q1
 subst e
 cases r1
 obtain ⟨its, rv, p, hz⟩ := I1.list hq
 refine wpAny_pyIter_list p.isList ?_
 refine ⟨s1.heap.objs.size, [s1.heap.objs.size], _, _, H1, rfl, I1.kept (t' := s1.toks) fun b o e => CW _ e, rD a _, ⟨_, Di _ rfl, rfl, rfl⟩, fun b hb => ?_, q⟩
 have e : b = s1.heap.objs.size := by simpa using hb
 subst e
 exact I1.fpOk (C7 _) (I1.hok.fresh (C7 _))
theorem pL {pins : List (Addr × Obj)} {σ : St} {H : Hp} {s : Shared} {R : It -> Hp -> Prop} {E : Value -> Shared -> Prop} {lo hi : Int} {t u v : Tok} {tk : Nat} (I : Inv X pins σ H s) (h1 : -(2 ^ 62) <= lo) (h2 : lo < 2 ^ 62) (h3 : -(2 ^ 62) <= hi) (h4 : hi < 2 ^ 62)
  (q : R (Itr lo (hi - lo).toNat) H) : wpAny (model X.prog X.w) X.A (pyIter (.ref s.heap.objs.size)) (PIE X pins σ tg R) E { s with heap := s.heap.push { cls := .type "range", data := .fields #[.int lo t, .int hi u, .int 1 v] }, toks := tk } := by
 refine wpAny_pyIter_range (IsRange.new ..) (small_one h1 h2 h3 h4) ?_
 have I1 : Inv X pins σ H { s with heap := s.heap.push { cls := .type "range", data := .fields #[.int lo t, .int hi u, .int 1 v] }, toks := tk } := I.kept fun b o e => CW _ e
 refine ⟨(s.heap.push { cls := .type "range", data := .fields #[.int lo t, .int hi u, .int 1 v] }).objs.size, [(s.heap.push { cls := .type "range", data := .fields #[.int lo t, .int hi u, .int 1 v] }).objs.size], _, _, H, rfl,
  I1.kept (t' := tk) fun b o e => CW _ e, qu _ lo (hi - lo).toNat, ?_, fun b hb => ?_, q⟩
 ·have e1 : lo + ((0 : Nat) : Int) * 1 = lo := by simp
  have e2 : (((hi - lo).toNat : Nat) : Int) - ((0 : Nat) : Int) = Builtin.Range.rangeSize lo hi 1 := by rw [rangeSize_one]; split <;> omega
  show IsRangeIter _ _ (lo + ((0 : Nat) : Int) * 1) ((((hi - lo).toNat : Nat) : Int) - ((0 : Nat) : Int)) 1
  rw [e1, e2]
  exact Di _ rfl
 ·have e : b = (s.heap.push { cls := .type "range", data := .fields #[.int lo t, .int hi u, .int 1 v] }).objs.size := by simpa using hb
  subst e
  exact I1.fpOk (C7 _) (I1.hok.fresh (C7 _))
def BN (ta : TA) : TI := fun σ H R => ta σ H fun vs H1 => ∃ j : Int, vs = [.int j] /\ -(2 ^ 62) <= j /\ j < 2 ^ 62 /\ R (Itr 0 j.toNat) H1
def BM (ta : TA) : TI := fun σ H R => ta σ H fun vs H1 => ∃ i j : Int, vs = [.int i, .int j] /\ (-(2 ^ 62) <= i /\ i < 2 ^ 62 /\ -(2 ^ 62) <= j /\ j < 2 ^ 62) /\ R (Itr i (j - i).toNat) H1
theorem iY {a : Expr} {ta : TA} {p pos : Pos} (hg : Gl X "range") (hm : X.mg "range" = none) (ha : PA X [a] ta) (hs : starEach [a] X.env = [(false, eval a X.env)] := by rfl) : PI X tg (.Call (.Name "range" p) [a] [] pos) (BN ta) := by
 intro pins s σ H R I h
 refine Call_ (jn I hg hm boot_range (PyProof.Rows.callWith_type1 (thn (ha pos pins s σ H _ I h) fun us s1 ⟨vs, H1, I1, r1, q1⟩ => ?_) hs rfl))
 obtain ⟨j, e, q1, q2, q⟩ := q1
 subst e
 cases r1 with
 | cons r rr =>
  cases rr
  obtain ⟨t, rfl⟩ := r
  exact call_range_1 (pL I1 (by omega) (by omega) q1 q2 (by simpa using q))
theorem tu {a b : Expr} {ta : TA} {p pos : Pos} (hg : Gl X "range") (hm : X.mg "range" = none) (ha : PA X [a, b] ta) (hs : starEach [a, b] X.env = [(false, eval a X.env), (false, eval b X.env)] := by rfl) (hs2 : starEach [b] X.env = [(false, eval b X.env)] := by rfl) :
  PI X tg (.Call (.Name "range" p) [a, b] [] pos) (BM ta) := by
 intro pins s σ H R I h
 refine Call_ (jn I hg hm boot_range (PyProof.Rows.callWith_type1 (thn (ha pos pins s σ H _ I h) fun us s1 ⟨vs, H1, I1, r1, q1⟩ => ?_) (by rw [hs, hs2]) (by rw [hs2]; rfl)))
 obtain ⟨i, j, e, ⟨q1, q2, q3, q4⟩, q⟩ := q1
 subst e
 cases r1 with
 | cons r rr =>
  cases rr with
  | cons r' rr =>
   cases rr
   obtain ⟨t, rfl⟩ := r
   obtain ⟨t', rfl⟩ := r'
   exact call_range_2 (pL I1 q1 q2 q3 q4 q)
def Ci (wi : TI) (g : TG) (tb : TS) : TS := fun D σ H => wi σ H fun J H1 => ∃ W : Nat -> Nat -> St -> Hp -> Prop, (∃ m, W 0 m σ H1) /\ ∀ i m σ H, W i m σ H ->
 (J.stop i H /\ D.nx σ H) ∨ (J.go i H /\ ∃ N : St -> Hp -> Prop, (∀ σ' H', N σ' H' -> ∃ m', m' < m /\ W (i + 1) m' σ' H') /\ ∀ x H', J.yld i H x H' -> g x σ H' fun σ2 H2 => tb { D with nx := N, ct := N, bk := D.nx } σ2 H2)
def mt (fp : List Addr) (h : Heap) : List (Addr × Obj) := fp.filterMap fun b => (h.get? b).map fun o => (b, o)
theorem gM {fp : List Addr} {h : Heap} {b : Addr} {o : Obj} (hb : b ∈ fp) (e : h.get? b = some o) : (b, o) ∈ mt fp h := List.mem_filterMap.mpr ⟨b, hb, by rw [e]; rfl⟩
theorem ui {fp : List Addr} {h : Heap} {p : Addr × Obj} (hp : p ∈ mt fp h) : p.1 ∈ fp /\ h.get? p.1 = some p.2 := by
 obtain ⟨b, hb, e⟩ := List.mem_filterMap.mp hp
 cases q : h.get? b with
 | none => rw [q] at e; cases e
 | some o =>
  rw [q] at e
  have e' : (b, o) = p := C8 e
  subst e'
  exact ⟨hb, q⟩
theorem Inv.pinned {pins : List (Addr × Obj)} {σ : St} {H : Hp} {s : Shared} {fp : List Addr} (I : Inv X pins σ H s) (hf : ∀ b ∈ fp, vt X pins H b) (ho : ∀ b ∈ fp, ∃ o, s.heap.get? b = some o /\ ∀ v, o.data ≠ .cell v) : Inv X (pins ++ mt fp s.heap) σ H s :=
 I.pins_of fun p hp => (Dh.mp hp).elim (fun z => I.pin p (List.mem_append_right _ z)) fun z => by
  obtain ⟨hb, e⟩ := ui z
  obtain ⟨f0, f1, f2, _⟩ := hf p.1 hb
  obtain ⟨o, e', d⟩ := ho p.1 hb
  rw [e] at e'; cases e'
  exact ⟨e, f0, f1, f2, d⟩
theorem Inv.unpinned {pins pl : List (Addr × Obj)} {σ : St} {H : Hp} {s : Shared} (I : Inv X (pins ++ pl) σ H s) : Inv X pins σ H s := I.pins_of fun p hp => I.pin p (List.mem_append_right _ (List.mem_append_left _ hp))
theorem ca {iter : Expr} {body : List Stmt} {wi : TI} {g : TG} {tb : TS} {pos : Pos} (hp : PassesOwn (model X.prog X.w) X.A X.env X.xe) (hc : X.calm = true) (hi : PI X tg iter wi) (hg : PG X tg g) (hb : PSs X body tb)
  (hs : ∀ x, foldedSetIterable iter X.env x = pure x := by intro _; rfl) : PS X (.For tg iter body [] pos) (Ci wi g tb) := by
 intro pins s σ H D I h
 refine wpAny_For (thn (hi pins s σ H _ I h) fun v s1 h1 => thn h1 fun itv s2 h2 => ?_) hs
 obtain ⟨it, fp, tn, J, H2, e, I2, T, st2, f2, W, ⟨m0, w0⟩, turn⟩ := h2
 subst e
 -- what stays true of the iterator's objects through the loop
 have stat : ∀ {H' : Hp}, (∀ b ∈ fp, H' b = none) -> ∀ b ∈ fp, vt X pins H' b := fun hn b hb => ⟨hn b hb, (f2 b hb).2⟩
 refine codeAny_forLoop_any (fun n s' => ∃ i σ' H', Inv X pins σ' H' s' /\ tn i s'.heap /\ (∀ b ∈ fp, H' b = none) /\ W i n σ' H') ?_ m0 ⟨0, σ, H2, I2, st2, fun b hb => (f2 b hb).1, w0⟩
 rintro n s3 ⟨i, σ3, H3, I3, st3, fr3, w3⟩
 rcases turn i n σ3 H3 w3 with ⟨stop, qn⟩ | ⟨go, N, hN, step⟩
 ·refine wpAny_passesOwn hp (thn (T.done X rfl rfl rfl hc i pins s3 σ3 H3 X.xe I3 (stat fr3) st3 stop) fun r s4 ⟨hr, I4⟩ => ?_)
  subst hr
  exact wpAny_execs_nil ⟨σ3, H3, I4, qn⟩
 ·refine wpAny_passesOwn hp (thn (T.item X rfl rfl rfl hc i pins s3 σ3 H3 X.xe I3 (stat fr3) st3 go) fun r s4 ⟨u, hr, h4⟩ => ?_)
  subst hr
  refine wpAny_passesOwn hp (thn h4 fun _ s5 ⟨x, H5, I5, r5, y5, st5, fr5⟩ => ?_)
  have I5' := I5.pinned (stat fr5) (T.obj _ _ st5)
  refine wpAny_passesOwn hp (thn (hg _ s5 σ3 H5 x u _ I5' r5 (step x H5 y5)) fun _ s6 ⟨σ6, H6, I6, q6⟩ => ?_)
  refine wpAny_passesOwn hp (thn (hb _ s6 σ6 H6 _ I6 q6) fun f s7 q7 => ?_)
  have again : ∀ {σ7 : St} {H7 : Hp}, Inv X (pins ++ mt fp s5.heap) σ7 H7 s7 -> N σ7 H7 -> ∃ m, m < n /\ ∃ i σ' H', Inv X pins σ' H' s7 /\ tn i s7.heap /\ (∀ b ∈ fp, H' b = none) /\ W i m σ' H' := fun {σ7 H7} I7 n7 => by
   obtain ⟨m', hm, w7⟩ := hN σ7 H7 n7
   refine ⟨m', hm, i + 1, σ7, H7, I7.unpinned, T.keep _ _ _ st5 fun b hb o e => (I7.pin (b, o) (List.mem_append_right _ (List.mem_append_right _ (gM hb e)))).1, fun b hb => ?_, w7⟩
   obtain ⟨o, e, d⟩ := T.obj _ _ st5 b hb
   exact (I7.pin (b, o) (List.mem_append_right _ (List.mem_append_right _ (gM hb e)))).2.1
  cases f with
  | next => obtain ⟨σ7, H7, I7, n7⟩ := q7; exact again I7 n7
  | cont => obtain ⟨σ7, H7, I7, n7⟩ := q7; exact again I7 n7
  | brk => obtain ⟨σ7, H7, I7, q7⟩ := q7; exact ⟨σ7, H7, I7.unpinned, q7⟩
  | ret v => obtain ⟨x7, σ7, H7, I7, r7, q7⟩ := q7; exact ⟨x7, σ7, H7, I7.unpinned, r7, q7⟩
end
theorem cY {K : Fg} {a : Addr} {xs : List V} {g : TG} {tb : TS} {D : Ends} {σ : St} {H : Hp} (Pv : Nat -> St -> Hp -> Prop) (h0 : Pv 0 σ H) (hl : ∀ i σ H, i <= xs.length -> Pv i σ H -> SqL K H a xs)
  (hs : ∀ i x σ H, xs[i]? = some x -> Pv i σ H -> g x σ H fun σ2 H2 => tb { D with nx := Pv (i + 1), ct := Pv (i + 1), bk := D.nx } σ2 H2) (hd : ∀ σ H, Pv xs.length σ H -> D.nx σ H) :
  ∃ W : Nat -> Nat -> St -> Hp -> Prop, (∃ m, W 0 m σ H) /\ ∀ i m σ H, W i m σ H ->
   ((Itl K a).stop i H /\ D.nx σ H) ∨ ((Itl K a).go i H /\ ∃ N : St -> Hp -> Prop, (∀ σ' H', N σ' H' -> ∃ m', m' < m /\ W (i + 1) m' σ' H') /\ ∀ x H', (Itl K a).yld i H x H' -> g x σ H' fun σ2 H2 => tb { D with nx := N, ct := N, bk := D.nx } σ2 H2) := by
 refine ⟨fun i m σ H => m = xs.length - i /\ i <= xs.length /\ Pv i σ H, ⟨xs.length, by simp, De _, h0⟩, ?_⟩
 rintro i m σ H ⟨rfl, hi, p⟩
 have q := hl i σ H hi p
 by_cases hlt : i < xs.length
 ·refine .inr ⟨⟨xs, xs[i], q, by simp [hlt]⟩, Pv (i + 1), fun σ' H' p' => ⟨xs.length - (i + 1), by omega, rfl, hlt, p'⟩, fun x H' y => ?_⟩
  obtain ⟨e, y⟩ := y
  subst e
  exact hs i x σ _ (y xs q) p
 ·have e : i = xs.length := by omega
  subst e
  exact .inl ⟨⟨xs, q, C7 _⟩, hd σ H p⟩
theorem mT {lo : Int} {n : Nat} {g : TG} {tb : TS} {D : Ends} {σ : St} {H : Hp} (Pv : Nat -> St -> Hp -> Prop) (h0 : Pv 0 σ H)
  (hs : ∀ i σ H, i < n -> Pv i σ H -> g (.int (lo + i)) σ H fun σ2 H2 => tb { D with nx := Pv (i + 1), ct := Pv (i + 1), bk := D.nx } σ2 H2) (hd : ∀ σ H, Pv n σ H -> D.nx σ H) :
  ∃ W : Nat -> Nat -> St -> Hp -> Prop, (∃ m, W 0 m σ H) /\ ∀ i m σ H, W i m σ H ->
   ((Itr lo n).stop i H /\ D.nx σ H) ∨ ((Itr lo n).go i H /\ ∃ N : St -> Hp -> Prop, (∀ σ' H', N σ' H' -> ∃ m', m' < m /\ W (i + 1) m' σ' H') /\ ∀ x H', (Itr lo n).yld i H x H' -> g x σ H' fun σ2 H2 => tb { D with nx := N, ct := N, bk := D.nx } σ2 H2) := by
 refine ⟨fun i m σ H => m = n - i /\ i <= n /\ Pv i σ H, ⟨n, by simp, De _, h0⟩, ?_⟩
 rintro i m σ H ⟨rfl, hi, p⟩
 by_cases hlt : i < n
 ·refine .inr ⟨hlt, Pv (i + 1), fun σ' H' p' => ⟨n - (i + 1), by omega, rfl, hlt, p'⟩, fun x H' y => ?_⟩
  obtain ⟨e, y⟩ := y
  subst e y
  exact hs i σ _ hlt p
 ·have e : i = n := by omega
  subst e
  exact .inl ⟨C7 _, hd σ H p⟩
end L2
namespace L2
open PySem PySem.Spec PyProof.Rows
abbrev R2 := V -> V -> Hp -> VK -> Prop
def OpR (X : Cx) (f : Value -> Value -> Sem Value) (r : R2) : Prop :=
 ∀ (pins : List (Addr × Obj)) (s : Shared) (σ : St) (H : Hp) (x y : V) (v u : Value) (Q : VK), Inv X pins σ H s -> bm x v -> bm y u -> r x y H Q ->
  wpAny (model X.prog X.w) X.A (f v u) (EP X pins σ Q) X.xe s
def UnR (X : Cx) (f : Value -> Sem Value) (r : V -> Hp -> VK -> Prop) : Prop :=
 ∀ (pins : List (Addr × Obj)) (s : Shared) (σ : St) (H : Hp) (x : V) (v : Value) (Q : VK), Inv X pins σ H s -> bm x v -> r x H Q ->
  wpAny (model X.prog X.w) X.A (f v) (EP X pins σ Q) X.xe s
def eL (X : Cx) (f : Value) (r : List V -> Hp -> VK -> Prop) : Prop :=
 ∀ (pins : List (Addr × Obj)) (s : Shared) (σ : St) (H : Hp) (xs : List V) (us : List Value) (Q : VK), Inv X pins σ H s -> aV xs us -> r xs H Q ->
  wpAny (model X.prog X.w) X.A (call f us) (EP X pins σ Q) X.xe s
def tOp (r : R2) (ta tb : TE) : TE := fun σ H Q => ta σ H fun x H1 => tb σ H1 fun y H2 => r x y H2 Q
def tUn (r : V -> Hp -> VK -> Prop) (ta : TE) : TE := fun σ H Q => ta σ H fun x H1 => r x H1 Q
def rI (C : Int -> Int -> Prop) (g : Int -> Int -> V) : R2 := fun x y H Q => ∃ i j, x = .int i /\ y = .int j /\ C i j /\ Q (g i j) H
def rI0 (g : Int -> Int -> V) : R2 := fun x y H Q => ∃ i j, x = .int i /\ y = .int j /\ Q (g i j) H
def rU (g : Int -> V) : V -> Hp -> VK -> Prop := fun x H Q => ∃ i, x = .int i /\ Q (g i) H
section
variable {X : Cx} {a b c : Expr} {ta tb tc : TE} {pos : Pos}
theorem BU (ha : PE X a ta) (hb : PE X b tb) {pins : List (Addr × Obj)} {s : Shared} {σ : St} {H : Hp} {R : V -> V -> Hp -> Prop} (I : Inv X pins σ H s)
  (h : ta σ H fun x H1 => tb σ H1 fun y H2 => R x y H2) {Q : Value -> Shared -> Prop} {f : Value -> Value -> Sem Value}
  (hf : ∀ v u s2 x y H2, Inv X pins σ H2 s2 -> bm x v -> bm y u -> R x y H2 -> wpAny (model X.prog X.w) X.A (f v u) Q X.xe s2) :
  wpAny (model X.prog X.w) X.A (eval a X.env) (fun v s₁ => wpAny (model X.prog X.w) X.A (eval b X.env) (fun u s₂ => wpAny (model X.prog X.w) X.A (f v u) Q X.xe s₂) X.xe s₁) X.xe s := by
 refine thn (ha pins s σ H _ I h) fun v s1 ⟨x, H1, I1, r1, q1⟩ => ?_
 refine thn (hb pins s1 σ H1 _ I1 q1) fun u s2 ⟨y, H2, I2, r2, q2⟩ => ?_
 exact hf v u s2 x y H2 I2 r1 r2 q2
theorem aM {op : Operator} {r : R2} (ho : OpR X (binaryOp op) r) (ha : PE X a ta) (hb : PE X b tb) : PE X (.BinOp a op b pos) (tOp r ta tb) := by
 intro pins s σ H Q I h
 exact wpAny_BinOp (BU ha hb I h fun v u s2 x y H2 I2 rx ry q => ho pins s2 σ H2 x y v u Q I2 rx ry q)
theorem BF {op : UnaryOp} {r : V -> Hp -> VK -> Prop} (ho : UnR X (unaryOp op) r) (ha : PE X a ta) : PE X (.UnaryOp op a pos) (tUn r ta) := by
 intro pins s σ H Q I h
 exact UnaryOp_ (thn (ha pins s σ H _ I h) fun v s1 ⟨x, H1, I1, r1, q1⟩ => ho pins s1 σ H1 x v Q I1 r1 q1)
theorem opI {f : Value -> Value -> Sem Value} {C : Int -> Int -> Prop} {g : Int -> Int -> Int}
  (rule : ∀ (i j : Int) (t u : Tok) (s : Shared) (Q : Value -> Shared -> Prop) (E : Value -> Shared -> Prop), C i j -> Q (.int (g i j) s.toks) { s with toks := s.toks + 1 } -> wpAny (model X.prog X.w) X.A (f (.int i t) (.int j u)) Q E s) :
  OpR X f (rI C fun i j => .int (g i j)) := by
 intro pins s σ H x y v u Q I rx ry h
 obtain ⟨i, j, rfl, rfl, hc, q⟩ := h
 obtain ⟨t, rfl⟩ := rx
 obtain ⟨t', rfl⟩ := ry
 exact rule i j t t' s _ _ hc ⟨.int (g i j), H, I.tok _, ⟨_, rfl⟩, q⟩
theorem BI {f : Value -> Value -> Sem Value} {g : Int -> Int -> Int}
  (rule : ∀ (i j : Int) (t u : Tok) (s : Shared) (Q : Value -> Shared -> Prop) (E : Value -> Shared -> Prop), Q (.int (g i j) s.toks) { s with toks := s.toks + 1 } -> wpAny (model X.prog X.w) X.A (f (.int i t) (.int j u)) Q E s) :
  OpR X f (rI0 fun i j => .int (g i j)) := by
 intro pins s σ H x y v u Q I rx ry h
 obtain ⟨i, j, rfl, rfl, q⟩ := h
 obtain ⟨t, rfl⟩ := rx
 obtain ⟨t', rfl⟩ := ry
 exact rule i j t t' s _ _ ⟨.int (g i j), H, I.tok _, ⟨_, rfl⟩, q⟩
theorem Bm {f : Value -> Value -> Sem Value} {g : Int -> Int -> Bool}
  (rule : ∀ (i j : Int) (t u : Tok) (s : Shared) (Q : Value -> Shared -> Prop) (E : Value -> Shared -> Prop), Q (.bool (g i j)) s -> wpAny (model X.prog X.w) X.A (f (.int i t) (.int j u)) Q E s) :
  OpR X f (rI0 fun i j => .bl (g i j)) := by
 intro pins s σ H x y v u Q I rx ry h
 obtain ⟨i, j, rfl, rfl, q⟩ := h
 obtain ⟨t, rfl⟩ := rx
 obtain ⟨t', rfl⟩ := ry
 exact rule i j t t' s _ _ ⟨.bl (g i j), H, I, rfl, q⟩
def CO (i j : Int) : Prop := 0 < j /\ j < 1073741824
def B1 (i j : Int) : Prop := (-(2 ^ 64) < i /\ i < 2 ^ 64) ∨ (-(2 ^ 64) < j /\ j < 2 ^ 64)
theorem B1.ok {i j : Int} (h : B1 i j) : IntMulOk i j := by
 rcases h with ⟨h1, h2⟩ | ⟨h1, h2⟩
 ·exact .of_left (intBits_le_64 h1 h2)
 ·exact .of_right (intBits_le_64 h1 h2)
theorem bj : OpR X (binaryOp .Add) (rI0 fun i j => .int (i + j)) := BI fun _ _ _ _ _ _ _ q => add_int q
theorem dH : OpR X (binaryOp .Sub) (rI0 fun i j => .int (i - j)) := BI fun _ _ _ _ _ _ _ q => sub_int q
theorem Ar : OpR X (binaryOp .Mult) (rI B1 fun i j => .int (i * j)) := opI fun _ _ _ _ _ _ _ hc q => mul_int q hc.ok
theorem fm : OpR X (binaryOp .FloorDiv) (rI CO fun i j => .int (i / j)) := opI fun i j _ _ _ _ _ hc q => by
 have h1 : (0 : Int) < j := hc.1
 have h2 : j < 1073741824 := hc.2
 exact floordiv_int (by omega) (by rw [Int.fdiv_eq_ediv_of_nonneg i (by omega)]; exact q) (.inl (PyProof.noPylong_small (by omega)))
theorem Au : OpR X (binaryOp .Mod) (rI (fun _ j => 0 < j) fun i j => .int (i % j)) := opI fun i j _ _ _ _ _ hc q => by
 have h1 : (0 : Int) < j := hc
 exact mod_int' (by omega) (by rw [Int.fmod_eq_emod_of_nonneg i (by omega)]; exact q)
theorem fz : OpR X (inplaceOp .Add) (rI0 fun i j => .int (i + j)) := BI fun _ _ _ _ _ _ _ q => iadd_int q
theorem unI {f : Value -> Sem Value} {g : Int -> Int}
  (rule : ∀ (i : Int) (t : Tok) (s : Shared) (Q : Value -> Shared -> Prop) (E : Value -> Shared -> Prop), Q (.int (g i) s.toks) { s with toks := s.toks + 1 } -> wpAny (model X.prog X.w) X.A (f (.int i t)) Q E s) :
  UnR X f (rU fun i => .int (g i)) := by
 intro pins s σ H x v Q I rx h
 obtain ⟨i, rfl, q⟩ := h
 obtain ⟨t, rfl⟩ := rx
 exact rule i t s _ _ ⟨.int (g i), H, I.tok _, ⟨_, rfl⟩, q⟩
theorem zJ : UnR X (unaryOp .USub) (rU fun i => .int (-i)) := unI fun _ _ _ _ _ q => neg_int q
end
def B6 : V -> V -> Bool
 | .non, .non => true | .non, .int _ => true | .int _, .non => true | .non, .bl _ => true | .bl _, .non => true | .non, .str _ => true | .str _, .non => true
 | .int _, .int _ => true | .bl _, .bl _ => true | .str _, .str _ => true | .byt _, .byt _ => true
 | .int _, .str _ => true | .str _, .int _ => true | .bl _, .str _ => true | .str _, .bl _ => true
 | _, _ => false
def rEq : R2 := fun x y H Q => B6 x y = true /\ Q (.bl (decide (x = y))) H
def rNe : R2 := fun x y H Q => B6 x y = true /\ Q (.bl (!decide (x = y))) H
theorem u0 {i j : Int} : decide (V.int i = V.int j) = (i == j) := by
 rw [Bool.eq_iff_iff]
 simp
theorem xJ {i j : Bool} : decide (V.bl i = V.bl j) = (i == j) := by
 rw [Bool.eq_iff_iff]
 simp
theorem uZ {i j : Str} : decide (V.str i = V.str j) = (i == j) := by
 rw [Bool.eq_iff_iff]
 simp
theorem u1 {i j : Array UInt8} : decide (V.byt i = V.byt j) = (i.toList == j.toList) := by
 rw [Bool.eq_iff_iff]
 cases i
 cases j
 simp
section
variable {X : Cx} {a b c : Expr} {ta tb tc : TE} {pos : Pos}
theorem aW {pins : List (Addr × Obj)} {σ : St} {H : Hp} {s : Shared} {Q : VK} {k k' : Bool} (I : Inv X pins σ H s) (q : Q (.bl k) H) (e : k = k') : EP X pins σ Q (.bool k') s := by
 subst e
 exact ⟨.bl k, H, I, rfl, q⟩
theorem gd : OpR X (compareOp .Eq) rEq := by
 intro pins s σ H x y v u Q I rx ry h
 obtain ⟨hs, q⟩ := h
 cases x with
 | non =>
  cases rx
  cases y with
  | non => cases ry; exact PySem.EqNone.eq_none_none (aW I q (by simp))
  | bl j => cases ry; exact PySem.EqNone.eq_none_bool (aW I q (by simp))
  | int j => obtain ⟨t', rfl⟩ := ry; exact PySem.EqNone.eq_none_int (aW I q (by simp))
  | str j => obtain ⟨t', rfl⟩ := ry; exact PySem.EqNone.eq_none_str (aW I q (by simp))
  | _ => exact absurd (show false = true from hs) Dm
 | bl i =>
  cases rx
  cases y with
  | non => cases ry; exact PySem.EqNone.eq_bool_none (aW I q (by simp))
  | bl j => cases ry; exact eq_bool (aW I q xJ)
  | str j => obtain ⟨t', rfl⟩ := ry; exact PySem.EqMixed.eq_bool_str (aW I q (by simp))
  | _ => exact absurd (show false = true from hs) Dm
 | int i =>
  obtain ⟨t, rfl⟩ := rx
  cases y with
  | non => cases ry; exact PySem.EqNone.eq_int_none (aW I q (by simp))
  | int j => obtain ⟨t', rfl⟩ := ry; exact eq_int (aW I q u0)
  | str j => obtain ⟨t', rfl⟩ := ry; exact PySem.EqMixed.eq_int_str (aW I q (by simp))
  | _ => exact absurd (show false = true from hs) Dm
 | str i =>
  obtain ⟨t, rfl⟩ := rx
  cases y with
  | non => cases ry; exact PySem.EqNone.eq_str_none (aW I q (by simp))
  | bl j => cases ry; exact PySem.EqMixed.eq_str_bool (aW I q (by simp))
  | int j => obtain ⟨t', rfl⟩ := ry; exact PySem.EqMixed.eq_str_int (aW I q (by simp))
  | str j => obtain ⟨t', rfl⟩ := ry; exact eq_str (aW I q uZ)
  | _ => exact absurd (show false = true from hs) Dm
 | byt i =>
  obtain ⟨t, rfl⟩ := rx
  cases y with
  | byt j => obtain ⟨t', rfl⟩ := ry; exact PySem.W.eq_bytes (aW I q u1)
  | _ => exact absurd (show false = true from hs) Dm
 | _ => cases y <;> exact absurd (show false = true from hs) Dm
theorem wb : OpR X (compareOp .NotEq) rNe := by
 intro pins s σ H x y v u Q I rx ry h
 obtain ⟨hs, q⟩ := h
 cases x with
 | non =>
  cases rx
  cases y with
  | non => cases ry; exact PySem.EqNone.ne_none_none (aW I q (by simp))
  | bl j => cases ry; exact PySem.EqNone.ne_none_bool (aW I q (by simp))
  | int j => obtain ⟨t', rfl⟩ := ry; exact PySem.EqNone.ne_none_int (aW I q (by simp))
  | str j => obtain ⟨t', rfl⟩ := ry; exact PySem.EqNone.ne_none_str (aW I q (by simp))
  | _ => exact absurd (show false = true from hs) Dm
 | bl i =>
  cases rx
  cases y with
  | non => cases ry; exact PySem.EqNone.ne_bool_none (aW I q (by simp))
  | bl j => cases ry; exact ne_bool (aW I q (congrArg not xJ))
  | str j => obtain ⟨t', rfl⟩ := ry; exact PySem.EqMixed.ne_bool_str (aW I q (by simp))
  | _ => exact absurd (show false = true from hs) Dm
 | int i =>
  obtain ⟨t, rfl⟩ := rx
  cases y with
  | non => cases ry; exact PySem.EqNone.ne_int_none (aW I q (by simp))
  | int j => obtain ⟨t', rfl⟩ := ry; exact ne_int (aW I q (congrArg not u0))
  | str j => obtain ⟨t', rfl⟩ := ry; exact PySem.EqMixed.ne_int_str (aW I q (by simp))
  | _ => exact absurd (show false = true from hs) Dm
 | str i =>
  obtain ⟨t, rfl⟩ := rx
  cases y with
  | non => cases ry; exact PySem.EqNone.ne_str_none (aW I q (by simp))
  | bl j => cases ry; exact PySem.EqMixed.ne_str_bool (aW I q (by simp))
  | int j => obtain ⟨t', rfl⟩ := ry; exact PySem.EqMixed.ne_str_int (aW I q (by simp))
  | str j => obtain ⟨t', rfl⟩ := ry; exact ne_str (aW I q (congrArg not uZ))
  | _ => exact absurd (show false = true from hs) Dm
 | byt i =>
  obtain ⟨t, rfl⟩ := rx
  cases y with
  | byt j => obtain ⟨t', rfl⟩ := ry; exact PySem.W.ne_bytes (aW I q (congrArg not u1))
  | _ => exact absurd (show false = true from hs) Dm
 | _ => cases y <;> exact absurd (show false = true from hs) Dm
theorem tM : OpR X (compareOp .Lt) (rI0 fun i j => .bl (decide (i < j))) := Bm fun _ _ _ _ _ _ _ q => lt_int q
theorem jc : OpR X (compareOp .LtE) (rI0 fun i j => .bl (decide (i <= j))) := Bm fun _ _ _ _ _ _ _ q => le_int q
theorem jH : OpR X (compareOp .Gt) (rI0 fun i j => .bl (decide (j < i))) := Bm fun _ _ _ _ _ _ _ q => gt_int q
theorem tP : OpR X (compareOp .GtE) (rI0 fun i j => .bl (decide (j <= i))) := Bm fun _ _ _ _ _ _ _ q => ge_int q
theorem tL : OpR X (compareOp .IsNot) (fun x y H Q => y = .non /\ Q (.bl (!decide (x = .non))) H) := by
 intro pins s σ H x y v u Q I rx ry h
 obtain ⟨rfl, q⟩ := h
 cases ry
 refine isnot_none_gen (aW I q ?_)
 cases x <;> first
  | (cases rx; rfl)
  | (obtain ⟨t, rfl⟩ := rx; rfl)
theorem aE (b : Expr) {op : CmpOp} (h : op ≠ .In := by decide) (h2 : op ≠ .NotIn := by decide) : behindInMarks op b = false := by
 have e1 : (op == CmpOp.In) = false := by cases op <;> first | rfl | exact absurd rfl h
 have e2 : (op == CmpOp.NotIn) = false := by cases op <;> first | rfl | exact absurd rfl h2
 cases b <;> simp [behindInMarks, e1, e2]
theorem gK {op : CmpOp} {r : R2} (ho : OpR X (compareOp op) r) (ha : PE X a ta) (hb : PE X b tb) (hm : behindInMarks op b = false) : PE X (.Compare a [op] [b] pos) (tOp r ta tb) := by
 intro pins s σ H Q I h
 exact wpAny_Compare1 (BU ha hb I h fun v u s2 x y H2 I2 rx ry q => ho pins s2 σ H2 x y v u Q I2 rx ry q) hm
def zN (t : TE) : TT := fun σ H Q => t σ H fun x H' => ∃ k, x = .bl k /\ Q k H'
theorem aB {op : CmpOp} {r : R2} (ho : OpR X (compareOp op) r) (ha : PE X a ta) (hb : PE X b tb) (hm : behindInMarks op b = false) : PT X (.Compare a [op] [b] pos) (zN (tOp r ta tb)) := by
 intro pins s σ H Q I h
 refine wpAny_isTrue_Compare1 (thn (ha pins s σ H _ I h) fun v s1 ⟨x, H1, I1, r1, q1⟩ => thn (hb pins s1 σ H1 _ I1 q1) fun u s2 ⟨y, H2, I2, r2, q2⟩ =>
  thn (ho pins s2 σ H2 x y v u _ I2 r1 r2 q2) fun c s3 ⟨z, H3, I3, r3, k, e, q3⟩ => ?_) hm
 subst e
 cases r3
 exact wpAny_truthy_bool ⟨H3, I3, q3⟩
def zS (r r' : R2) (ta tb tc : TE) : TE := fun σ H Q => ta σ H fun x H1 => tb σ H1 fun y H2 => r x y H2 fun z H3 => ∃ k, z = .bl k /\
 (if k = true then tc σ H3 fun w' H4 => r' y w' H4 Q else Q (.bl false) H3)
theorem fY {op op' : CmpOp} {r r' : R2} (ho : OpR X (compareOp op) r) (ho' : OpR X (compareOp op') r') (ha : PE X a ta) (hb : PE X b tb) (hc : PE X c tc)
  (hm : lastMarks [op, op'] [b, c] = false := by with_unfolding_all rfl) : PT X (.Compare a [op, op'] [b, c] pos) (zN (zS r r' ta tb tc)) := by
 intro pins s σ H Q I h
 refine isTrue_chain (thn (ha pins s σ H _ I h) fun v s1 ⟨x, H1, I1, r1, q1⟩ => test_link (thn (hb pins s1 σ H1 _ I1 q1) fun u s2 ⟨y, H2, I2, r2, q2⟩ =>
  thn (ho pins s2 σ H2 x y v u _ I2 r1 r2 q2) fun d s3 ⟨z, H3, I3, r3, k, e, q3⟩ => ?_)) hm
 subst e
 cases r3
 refine wpAny_truthy_bool ?_
 cases k with
 | false =>
  obtain ⟨k', e', q'⟩ := q3
  cases e'
  exact ite_ff ⟨H3, I3, q'⟩
 | true =>
  refine ite_tt (test_last (thn (hc pins s3 σ H3 _ I3 q3) fun w' s4 ⟨z', H4, I4, r4, q4⟩ => thn (ho' pins s4 σ H4 y z' u w' _ I4 r2 r4 q4) fun d' s5 ⟨z2, H5, I5, r5, k2, e2, q5⟩ => ?_))
  subst e2
  cases r5
  exact wpAny_truthy_bool ⟨H5, I5, q5⟩
theorem pX : (sizeLine : Nat) < 2 ^ 63 := by rw [sizeLine_eq]; decide
theorem jY : OpR X (binaryOp .Add) (fun x y H Q => ∃ i j, x = .str i /\ y = .str j /\ i.length + j.length <= sizeLine /\ Q (.str (i ++ j)) H) := by
 intro pins s σ H x y v u Q I rx ry h
 obtain ⟨i, j, rfl, rfl, hz, q⟩ := h
 obtain ⟨t, rfl⟩ := rx
 obtain ⟨t', rfl⟩ := ry
 exact add_str (fun t' tk => ⟨.str (i ++ j), H, I.tok _, ⟨_, rfl⟩, q⟩) hz
theorem xU {x : V} {us : List Value} (r : aV [x] us) : ∃ u, us = [u] /\ bm x u := by
 cases r with
 | cons r1 r2 => cases r2; exact ⟨_, rfl, r1⟩
theorem Bp {x y : V} {us : List Value} (r : aV [x, y] us) : ∃ u w', us = [u, w'] /\ bm x u /\ bm y w' := by
 cases r with
 | cons r1 r2 =>
  cases r2 with
  | cons r3 r4 => cases r4; exact ⟨_, _, rfl, r1, r3⟩
theorem ve (hc : X.calm = true) : eL X (.builtin "min") (fun xs H Q => ∃ i j, xs = [.int i, .int j] /\ Q (.int (if j < i then j else i)) H) := by
 intro pins s σ H xs us Q I r h
 obtain ⟨i, j, rfl, q⟩ := h
 obtain ⟨u, w', rfl, ⟨t, rfl⟩, ⟨t', rfl⟩⟩ := Bp r
 refine min_two_ints (I.ok.hd hc) fun h' tk k => ⟨_, H, I.kept k, ?_, q⟩
 by_cases hj : j < i
 ·rw [if_pos hj, if_pos hj]; exact ⟨_, rfl⟩
 ·rw [if_neg hj, if_neg hj]; exact ⟨_, rfl⟩
theorem ia : eL X (.type "str") (fun xs H Q => ∃ i, xs = [.int i] /\ i.natAbs.log2 < 1920 /\ Q (.str (toString i)) H) := by
 intro pins s σ H xs us Q I r h
 obtain ⟨i, rfl, hz, q⟩ := h
 obtain ⟨u, rfl, t, rfl⟩ := xU r
 exact PySem.P.str_of_int hz ⟨.str _, H, I.tok _, ⟨_, rfl⟩, q⟩
theorem qr : eL X (.builtin "ord") (fun xs H Q => ∃ x, xs = [.str x] /\ x.length = 1 /\ Q (.int (x.cps.getD 0 0 : Nat)) H) := by
 intro pins s σ H xs us Q I r h
 obtain ⟨x, rfl, hz, q⟩ := h
 obtain ⟨u, rfl, t, rfl⟩ := xU r
 exact ord_of_one hz ⟨.int _, H, I.tok _, ⟨_, rfl⟩, q⟩
end
end L2
namespace L2
open PySem PySem.Spec PyProof.Rows
structure zx (h : Heap) (x dx C : Addr) (mA : Str -> Option Value) : Prop where
 obj : h.get? x = some (PySem.W.instObj C dx)
 ns : h.Ns1 dx mA
 ne : dx ≠ x
theorem uo {h : Heap} {dx : Addr} {mA : Str -> Option Value} (n : h.Ns1 dx mA) : ∃ od, h.get? dx = some od /\ ∀ name, PySem.W.lookIn name od = some (mA name) := by
 obtain ⟨o, es, ep, ho, hd, hk, _, hm⟩ := n
 refine ⟨o, ho, fun name => ?_⟩
 have e := hm name
 unfold nsFind findBy at e
 rw [<- Array.find?_toList] at e
 unfold PySem.W.lookIn
 rw [hd]
 dsimp only
 split
 ·rename_i y q
  rw [q] at e
  exact congrArg some e
 ·rename_i q
  rw [q] at e
  have a : es.toList.any (·.refKey) = false := by
   rw [List.any_eq_false]
   intro y hy
   obtain ⟨z, t, hkey⟩ := hk y (Array.mem_toList_iff.mp hy)
   simp [DictEntry.refKey, hkey]
  have a' : ¬ es.toList.any (·.refKey) = true := by rw [a]; exact Dm
  rw [if_neg a']
  exact congrArg some e
theorem zx.look {h : Heap} {x dx C : Addr} {mA : Str -> Option Value} (I : zx h x dx C mA) : ∃ od, PySem.W.InstAt h x (PySem.W.instObj C dx) C (some od) /\ ∀ name, PySem.W.lookIn name od = some (mA name) :=
 let ⟨od, ho, hl⟩ := uo I.ns
 ⟨od, ⟨I.obj, rfl, rfl, ho⟩, hl⟩
section
variable {prog : Program} {w : World} {A : Around} {E : Value -> Shared -> Prop} {s : Shared} {K : Fg} {x dx C f : Addr} {mA : Str -> Option Value} {name : Str} {v : Value}
theorem y9 {expr : Bool} {Q : Value -> Shared -> Prop} (X : K.In s.heap) (I : zx s.heap x dx C mA) (hg : PySem.W.plainGet K C name = true) (hh : PySem.W.hasDictIn K C = true)
  (ha : PySem.W.findIn K (.ref C) name = some none) (hv : mA name = some v) (hv' : PySem.W.handedIn v = true) (h : Q v { s with toks := s.toks + 1 }) :
  wpAny (model prog w) A (getAttr (.ref x) name expr) Q E s := by
 obtain ⟨od, J, hl⟩ := I.look
 exact PySem.W.get_value X J (PySem.W.plainGet_of hg).1 (PySem.W.findObj_own hh ha rfl (by rw [hl, hv])) hv' h
theorem wO {pl : Sem Bool} {Q : Value × List Value -> Shared -> Prop} (X : K.In s.heap) (I : zx s.heap x dx C mA) (hg : PySem.W.plainGet K C name = true)
  (hf : PySem.W.findIn K (.ref C) name = some (some (.ref f))) (ht : PySem.W.isFn K (.ref f) = true) (hv : mA name = none) (h : Q (.ref f, [.ref x]) s) :
  wpAny (model prog w) A (getMethod (.ref x) name pl) Q E s := by
 obtain ⟨od, J, hl⟩ := I.look
 exact PySem.W.method_fn X J (PySem.W.plainGet_of hg).1 (PySem.W.plainGet_of hg).2 hf (beq_iff_eq.mp ht) (by show (PySem.W.lookIn name od).map (·.isSome) = some false; rw [hl, hv]; rfl) h
theorem ye {ns : List Str} {Q : Unit -> Shared -> Prop} (X : K.In s.heap) (I : zx s.heap x dx C mA)
  (hs : PySem.W.findIn K (.ref C) "__setattr__" = some (some (.builtin "object.__setattr__"))) (hp : PySem.W.plainOver K C = true) (ht : PySem.W.takerIn K C name = some none) (hh : PySem.W.hasDictIn K C = true)
  (hw : PySem.Within mA ns) (hsz : ns.length <= sizeLine)
  (h : ∀ h', zx h' x dx C (fun y => if y = name then some v else mA y) -> Heap.SameBut dx s.heap h' -> Q () { s with heap := h', toks := s.toks + 2 }) :
  wpAny (model prog w) A (setAttr (.ref x) name v) Q E s := by
 obtain ⟨od, J, hl⟩ := I.look
 refine PySem.W.set_plain X J hs (PySem.W.osa_open (s := { s with toks := s.toks + 1 }) (r := none) X J hp ht fun b => ?_)
 obtain ⟨cd, hc, hd'⟩ := PySem.W.any_some hh
 have hx : s.heap.get? x = some ⟨.ref C, some dx, .plain, #[]⟩ := I.obj
 refine CQ (CT (CQ (CQ (wpAny_loadPart hx (CQ (PySem.W.Looks.here (s := { s with toks := s.toks + 1 }) (PySem.W.looks_clsIn X hc) ?_))))))
 rw [hd']
 refine CT (a := some dx) (CQ (CT (CQ ?_)))
 refine wpAny_nsSet1 (s := { s with toks := s.toks + 1 }) I.ns fun h' hn2 hs2 => ?_
 obtain ⟨oD, esD, epD, hoD, hdD, hcD⟩ := hn2.count (PySem.Within.cons name v hw)
 refine CQ (wpAny_lookBehind hoD (by rw [hdD]; exact pastItsLine_dict (Nat.le_trans hcD (by rw [CU]; omega))) ?_)
 exact CT (h _ ⟨(hs2.2 _ (Ne.symm I.ne)).trans I.obj, hn2, I.ne⟩ hs2)
theorem wF {R : Result -> Shared -> Prop} {vs : List Value} {kw : List (Str × Value)} (X : K.In s.heap) (hm : PySem.W.makesIn K C = true)
  (hi : PySem.W.findIn K (.ref C) "__init__" = some (some (.ref f))) (hf : PySem.W.typeIn K (.ref f) = some (.type "function"))
  (h : codeAny (model prog w) (A.under (.builtin "type.__call__" ⟨.ref C :: vs, kw⟩)) (.call (.ref f) ⟨.ref (s.heap.objs.size + 1) :: vs, kw⟩) (PySem.W.InitBack (s.heap.objs.size + 1) R)
   { s with heap := (s.heap.push PySem.W.emptyDict).push (PySem.W.instObj C s.heap.objs.size) }) :
  codeAny (model prog w) A (.call (.ref C) ⟨vs, kw⟩) R s := by
 obtain ⟨hh, g, d, t, os⟩ := s
 exact PySem.W.make_core (PySem.W.makes_of X hm) (PySem.W.looks_findIn X hi) (fun self => PySem.W.bind_fn X self hf) (.inl rfl) h
end
def gZ (f : Str) (v : V) : List (Str × V) -> List (Str × V)
 | [] => [(f, v)]
 | (g, x) :: r => if g = f then (g, v) :: r else (g, x) :: gZ f v r
theorem aZ (f g : Str) (v : V) : ∀ fs : List (Str × V), (gZ f v fs).lookup g = if g = f then some v else fs.lookup g
 | [] => by
  show List.lookup g [(f, v)] = _
  by_cases h : g = f
  ·have hb : (g == f) = true := beq_iff_eq.mpr h
   simp only [List.lookup, hb, if_pos h]
  ·have hb : (g == f) = false := beq_eq_false_iff_ne.mpr h
   simp only [List.lookup, hb, if_neg h]
 | (k, x) :: r => by
  have ih := aZ f g v r
  rw [show gZ f v ((k, x) :: r) = (if k = f then (k, v) :: r else (k, x) :: gZ f v r) from rfl]
  by_cases hk : k = f
  ·rw [if_pos hk]
   by_cases h : g = k
   ·have hb : (g == k) = true := beq_iff_eq.mpr h
    simp only [List.lookup, hb, if_pos (h.trans hk)]
   ·have hb : (g == k) = false := beq_eq_false_iff_ne.mpr h
    simp only [List.lookup, hb, if_neg (fun e : g = f => h (e.trans hk.symm))]
  ·rw [if_neg hk]
   by_cases h : g = k
   ·have hb : (g == k) = true := beq_iff_eq.mpr h
    simp only [List.lookup, hb, if_neg (fun e : g = f => hk (h.symm.trans e))]
   ·have hb : (g == k) = false := beq_eq_false_iff_ne.mpr h
    simp only [List.lookup, hb]
    exact ih
theorem jo (f : Str) (v : V) : ∀ fs : List (Str × V), f ∈ (gZ f v fs).map (·.1) /\ ∀ g, g ∈ fs.map (·.1) -> g ∈ (gZ f v fs).map (·.1)
 | [] => ⟨by simp [gZ], fun g h => by simp at h⟩
 | (k, x) :: r => by
  obtain ⟨i1, i2⟩ := jo f v r
  rw [show gZ f v ((k, x) :: r) = (if k = f then (k, v) :: r else (k, x) :: gZ f v r) from rfl]
  by_cases hk : k = f
  ·rw [if_pos hk]
   subst hk
   exact ⟨by simp, fun g h => by simpa using h⟩
  ·rw [if_neg hk]
   refine ⟨?_, fun g h => ?_⟩
   ·rw [List.map_cons]
    exact C2 _ i1
   ·rw [List.map_cons] at h ⊢
    rcases C5.mp h with e | e
    ·exact C5.mpr (.inl e)
    ·exact C2 _ (i2 g e)
theorem jj (f : Str) (v : V) : ∀ fs : List (Str × V), (gZ f v fs).length <= fs.length + 1
 | [] => by simp [gZ]
 | (k, x) :: r => by
  have ih := jj f v r
  rw [show gZ f v ((k, x) :: r) = (if k = f then (k, v) :: r else (k, x) :: gZ f v r) from rfl]
  by_cases hk : k = f
  ·rw [if_pos hk, CU, CU]; omega
  ·rw [if_neg hk, CU, CU]; omega
theorem lQ.some_of {v : V} {o : Option Value} (r : lQ (some v) o) : ∃ u, o = some u /\ bm v u := by
 cases o with
 | none => exact (show False from r).elim
 | some u => exact ⟨u, rfl, r⟩
theorem lQ.none_of {o : Option Value} (r : lQ none o) : o = none := by
 cases o with
 | none => rfl
 | some u => exact (show False from r).elim
theorem uF {v : V} {u : Value} (r : bm v u) : PySem.W.handedIn u = true := by
 cases v with
 | non => cases (show u = Value.none from r); rfl
 | bl b => cases (show u = Value.bool b from r); rfl
 | int i => obtain ⟨t, e⟩ := (show ∃ t, u = Value.int i t from r); cases e; rfl
 | str x => obtain ⟨t, e⟩ := (show ∃ t, u = Value.str x t from r); cases e; rfl
 | byt b => obtain ⟨t, e⟩ := (show ∃ t, u = Value.bytes b t from r); cases e; rfl
 | flt b => obtain ⟨t, e⟩ := (show ∃ t, u = Value.float b t from r); cases e; rfl
 | ref a => cases (show u = Value.ref a from r); rfl
 | ty n => cases (show u = Value.type n from r); rfl
section
variable {P : Program} {w : World} {H H' : Hp} {h h' : Heap} {a C dx : Addr} {fs fs' : List (Str × V)}
theorem oV (hok : HOk P w H h) (e : H a = some (.ins C dx fs)) : ∃ mA, zx h a dx C mA /\ (∀ f, lQ (fs.lookup f) (mA f)) /\ PySem.Within mA (fs.map (·.1)) /\ fs.length <= 1000 /\ H dx = some (.own a) := by
 obtain ⟨d, z, ne, ob, mA, n, r, q⟩ := (show bu P w H h a (.ins C dx fs) from hok a _ e)
 exact ⟨mA, ⟨ob, n, ne⟩, r, q, z, d⟩
end
structure Cls (K : Fg) (C : Addr) : Prop where
 pg : PySem.W.plainGet K C Str.empty = true
 hd : PySem.W.hasDictIn K C = true
 po : PySem.W.plainOver K C = true
 sa : PySem.W.findIn K (.ref C) "__setattr__" = some (some (.builtin "object.__setattr__"))
theorem Cls.get {K : Fg} {C : Addr} (c : Cls K C) (f : Str) : PySem.W.plainGet K C f = true := c.pg
def dP (K : Fg) (C : Addr) (f : Str) : Prop := PySem.W.findIn K (.ref C) f = some none
theorem dP.taker {K : Fg} {C : Addr} {f : Str} (n : dP K C f) : PySem.W.takerIn K C f = some none := by
 unfold PySem.W.takerIn
 rw [show PySem.W.findIn K (.ref C) f = some none from n]
 rfl
structure zy (K : Fg) (C : Addr) (m : Str) (f : Addr) : Prop where
 at_ : PySem.W.findIn K (.ref C) m = some (some (.ref f))
 fn : PySem.W.isFn K (.ref f) = true
 kp : PySem.W.keepIn K (.ref f) = true
section
variable {X : Cx} {pins : List (Addr × Obj)} {σ : St} {H : Hp} {s : Shared} {a C dx : Addr} {fs : List (Str × V)} {f : Str} {v : V} {A : Around} {E : Value -> Shared -> Prop}
theorem j7 {b : Bool} {Q : Value -> Shared -> Prop} (I : Inv X pins σ H s) (e : H a = some (.ins C dx fs)) (c : Cls X.K C) (n : dP X.K C f) (l : fs.lookup f = some v)
  (h : ∀ u s', Inv X pins σ H s' -> bm v u -> Q u s') : wpAny (model X.prog X.w) A (getAttr (.ref a) f b) Q E s := by
 obtain ⟨mA, O, r, _, _, _⟩ := oV I.hok e
 obtain ⟨u, hu, ru⟩ := lQ.some_of (v := v) (o := mA f) (by rw [<- l]; exact r f)
 exact y9 I.kIn O (c.get f) c.hd n hu (uF ru) (h u _ (I.tok _) ru)
theorem eE {m : Str} {g : Addr} {pl : Sem Bool} {Q : Value × List Value -> Shared -> Prop} (I : Inv X pins σ H s) (e : H a = some (.ins C dx fs)) (c : Cls X.K C) (k : zy X.K C m g) (l : fs.lookup m = none)
  (h : Q (.ref g, [.ref a]) s) : wpAny (model X.prog X.w) A (getMethod (.ref a) m pl) Q E s := by
 obtain ⟨mA, O, r, _, _, _⟩ := oV I.hok e
 have hn : mA m = none := lQ.none_of (by rw [<- l]; exact r m)
 exact wO I.kIn O (c.get m) k.at_ k.fn hn h
theorem jU {y : V} {u : Value} {Q : Unit -> Shared -> Prop} (I : Inv X pins σ H s) (e : H a = some (.ins C dx fs)) (c : Cls X.K C) (n : dP X.K C f) (hl : fs.length < 1000) (ry : bm y u)
  (h : ∀ s', Inv X pins σ (upd H a (.ins C dx (gZ f y fs))) s' -> Q () s') : wpAny (model X.prog X.w) A (setAttr (.ref a) f u) Q E s := by
 obtain ⟨mA, O, r, wi, _, ho⟩ := oV I.hok e
 have hz : (fs.map (·.1)).length <= sizeLine := by rw [CP, sizeLine_eq]; omega
 refine ye I.kIn O c.sa c.po n.taker c.hd wi hz fun h' O' sb => h _ ?_
 have hd : ∃ o, h'.get? dx = some o := let ⟨o, _, _, e', _⟩ := O'.ns; ⟨o, e'⟩
 refine I.write (x := a) (e := dx) (by rw [e]; exact True.intro) (.inr ho) (fun b q hb z => (sb.2 b hb).trans z) hd ?_
 refine ⟨by rw [ag O.ne]; exact ho, ?_, O.ne, O'.obj, _, O'.ns, fun g => ?_, fun g hg => ?_⟩
 ·have := jj f y fs; omega
 ·show lQ ((gZ f y fs).lookup g) (if g = f then some u else mA g)
  rw [aZ]
  by_cases q : g = f
  ·rw [if_pos q, if_pos q]; exact ry
  ·rw [if_neg q, if_neg q]; exact r g
 ·by_cases q : g = f
  ·rw [q]; exact (jo f y fs).1
  ·refine (jo f y fs).2 g (wi g fun z => hg ?_)
   show (if g = f then some u else mA g) = none
   rw [if_neg q]; exact z
theorem Inv.made (I : Inv X pins σ H s) : Inv X pins σ (upd (upd H s.heap.objs.size (.own (s.heap.objs.size + 1))) (s.heap.objs.size + 1) (.ins C s.heap.objs.size []))
  { s with heap := (s.heap.push PySem.W.emptyDict).push (PySem.W.instObj C s.heap.objs.size) } := by
 have e1 : (s.heap.push PySem.W.emptyDict).get? s.heap.objs.size = some PySem.W.emptyDict := Di s.heap rfl
 have e2 : ((s.heap.push PySem.W.emptyDict).push (PySem.W.instObj C s.heap.objs.size)).get? (s.heap.objs.size + 1) = some (PySem.W.instObj C s.heap.objs.size) := by
  have := Di (s.heap.push PySem.W.emptyDict) (o := PySem.W.instObj C s.heap.objs.size) rfl
  rwa [Heap.size_push] at this
 have e3 : (s.heap.push PySem.W.emptyDict).Ns s.heap.objs.size (fun _ => none) := ⟨PySem.W.emptyDict, #[], _, e1, rfl, (fun e he => absurd he (by simp)), fun _ => rfl⟩
 have I1 := I.laid (a := s.heap.objs.size) (o := .own (s.heap.objs.size + 1)) (h' := s.heap.push PySem.W.emptyDict) (t' := s.toks) (fun b u q => CW _ q) (C7 _) ⟨_, e1⟩
 refine I1.laid (a := s.heap.objs.size + 1) (o := .ins C s.heap.objs.size []) (t' := s.toks) (fun b u q => CW _ q) (Nat.le_of_eq (Heap.size_push _ _)) ?_
 have ne : s.heap.objs.size ≠ s.heap.objs.size + 1 := Ds (Nat.lt_succ_self _)
 refine ⟨by rw [ag ne, upd_same], De _, ne, e2, fun _ => none, (Heap.Ns1.of_empty e3).at fun o q => CW _ q, fun _ => True.intro, fun y hy => absurd rfl hy⟩
theorem vh {prog : Program} {w : World} {env : Env} {e : Expr} {f : Str} {pos : Pos} {s : Shared} {Q : Value -> Shared -> Prop} (hb : attributeBase e f env (eval e env) = eval e env)
  (h : wpAny (model prog w) A (eval e env) (fun o s₁ => wpAny (model prog w) A (getAttr o f true) Q E s₁) E s) : wpAny (model prog w) A (eval (.Attribute e f pos) env) Q E s :=
 Attribute_any_ h (by rw [arm_eval_Attribute, hb])
end
def Bl (K : Fg) (ta : TE) (f : Str) : TE := fun σ H Q => ta σ H fun x H1 => ∃ a C dx fs v, x = .ref a /\ H1 a = some (.ins C dx fs) /\ Cls K C /\ dP K C f /\ fs.lookup f = some v /\ Q v H1
def Cm (K : Fg) (ta tv : TE) (f : Str) : TS := fun D σ H => tv σ H fun y H1 => ta σ H1 fun x H2 => ∃ a C dx fs, x = .ref a /\ H2 a = some (.ins C dx fs) /\ Cls K C /\ dP K C f /\ fs.length < 1000 /\
 D.nx σ (upd H2 a (.ins C dx (gZ f y fs)))
def CN (X : Cx) (op : Operator) (rd : V -> V -> Hp -> VK -> Prop) : Prop :=
 ∀ (pins : List (Addr × Obj)) (s : Shared) (σ : St) (H : Hp) (x y : V) (u v : Value) (Q : VK), Inv X pins σ H s -> bm x u -> bm y v -> rd x y H Q -> wpAny (model X.prog X.w) X.A (inplaceOp op u v) (EP X pins σ Q) X.xe s
def yp (K : Fg) (ta tv : TE) (rd : V -> V -> Hp -> VK -> Prop) (f : Str) : TS := fun D σ H => ta σ H fun x H1 => ∃ a C dx fs v, x = .ref a /\ H1 a = some (.ins C dx fs) /\ Cls K C /\ dP K C f /\ fs.lookup f = some v /\
 tv σ H1 fun y H2 => rd v y H2 fun z H3 => ∃ dx' fs', H3 a = some (.ins C dx' fs') /\ fs'.length < 1000 /\ D.nx σ (upd H3 a (.ins C dx' (gZ f z fs')))
section
variable {X : Cx} {o e value : Expr} {f : Str} {pos pos' tpos : Pos} {ta tv : TE}
theorem aI (he : PE X e ta) (hb : attributeBase e f X.env (eval e X.env) = eval e X.env) : PE X (.Attribute e f pos) (Bl X.K ta f) := by
 intro pins s σ H Q I h
 refine vh hb (thn (he pins s σ H _ I h) fun u s1 ⟨x, H1, I1, rx, a, C, dx, fs, v, ex, ea, c, n, l, q⟩ => ?_)
 subst ex
 obtain rfl : u = Value.ref a := rx
 exact j7 I1 ea c n l fun u' s2 I2 ru => ⟨v, H1, I2, ru, q⟩
theorem pO (ha : PE X o ta) (hv : PE X value tv) (hs : swapsWith value (some (.Attribute o f pos')) pos.line X.env = pure false) : PS X (.Assign [.Attribute o f pos'] value pos) (Cm X.K ta tv f) := by
 intro pins s σ H D I h
 refine plainObj_wpAny_Assign_Attribute (thn (hv pins s σ H _ I h) fun u s1 ⟨y, H1, I1, ry, q⟩ => thn (ha pins s1 σ H1 _ I1 q) fun ov s2 ⟨x, H2, I2, rx, a, C, dx, fs, ex, ea, c, n, l, q2⟩ => ?_) hs
 subst ex
 obtain rfl : ov = Value.ref a := rx
 exact jU I2 ea c n l ry fun s3 I3 => ⟨σ, _, I3, q2⟩
theorem mm {op : Operator} {rd : V -> V -> Hp -> VK -> Prop} (ha : PE X o ta) (hv : PE X value tv) (hop : CN X op rd) : PS X (.AugAssign (.Attribute o f tpos) op value pos) (yp X.K ta tv rd f) := by
 intro pins s σ H D I h
 refine wpAny_AugAssign_AttributeAny (thn (ha pins s σ H _ I h) fun ov s1 ⟨x, H1, I1, rx, a, C, dx, fs, v, ex, ea, c, n, l, q⟩ => ?_)
 subst ex
 obtain rfl : ov = Value.ref a := rx
 refine j7 I1 ea c n l fun u s2 I2 ru => thn (hv pins s2 σ H1 _ I2 q) fun w3 s3 ⟨y, H2, I3, ry, q3⟩ => thn (hop pins s3 σ H2 v y u w3 _ I3 ru ry q3) fun w4 s4 ⟨z, H3, I4, rz, dx', fs', ea', l', q4⟩ => ?_
 exact jU I4 ea' c n l' rz fun s5 I5 => ⟨σ, _, I5, q4⟩
theorem yU {pl : Sem Bool} {m : Str} {apos : Pos} {args : List Expr} {pins : List (Addr × Obj)} {s : Shared} {σ : St} {H : Hp} {Q : Value -> Shared -> Prop} {te : TE} (he : PE X e te) (I : Inv X pins σ H s)
  (h : te σ H fun x H1 => ∃ a C dx fs g, x = .ref a /\ H1 a = some (.ins C dx fs) /\ Cls X.K C /\ zy X.K C m g /\ fs.lookup m = none /\
   ∀ s1, Inv X pins σ H1 s1 -> wpAny (model X.prog X.w) X.A (callWith pos (.ref g) [.ref a] (backTo pos (starEach args X.env)) (backToKw pos (keywordEach [] X.env))) Q X.xe s1)
  (ht : eval (.Call (.Attribute e m apos) args [] pos) X.env = (do
   let ov <- eval e X.env
   standAt apos.atName
   let (f, first) <- holding [ov] (getMethod ov m pl)
   callWith pos f first (backTo pos (starEach args X.env)) (backToKw pos (keywordEach [] X.env)))) :
  wpAny (model X.prog X.w) X.A (eval (.Call (.Attribute e m apos) args [] pos) X.env) Q X.xe s := by
 refine PySem.W.methodCall_KW (pl := pl) (thn (he pins s σ H _ I h) fun u s1 ⟨x, H1, I1, rx, a, C, dx, fs, g, ex, ea, c, k, l, q⟩ => ?_) ht
 subst ex
 obtain rfl : u = Value.ref a := rx
 exact eE I1 ea c k l (q s1 I1)
end
end L2
namespace L2
open PySem PySem.Spec PyProof.Rows
structure bG (k : Nat) (A : Around) : Prop where
 hd : A.handled = none
 dp : A.depth + 3 * k + 5 < recursionLimit
 un : A.units + 16 * k + 200 < cLine
theorem bG.mono {j k : Nat} {A : Around} (r : bG k A) (h : j <= k) : bG j A := ⟨r.hd, by have := r.dp; omega, by have := r.un; omega⟩
theorem bG.deeper {k : Nat} {A : Around} (r : bG (k + 1) A) (env : Env) : bG k (A.deeper env) :=
 ⟨r.hd, by have := r.dp; show A.depth + 1 + 3 * k + 5 < _; omega, by have := r.un; show A.units + 3 + 16 * k + 200 < _; omega⟩
theorem qK {A : Around} {C : Addr} {us : List Value} {kw : List (Str × Value)} : (A.under (.builtin "type.__call__" ⟨.ref C :: us, kw⟩)).depth = A.depth + 1 := by
 first | rfl | simp [Around.under, Code.weight, Code.isCreation, Code.isGuard, Code.isCaller, Code.frames, Code.isFrame, guardIds]
theorem qJ {A : Around} {C : Addr} {us : List Value} {kw : List (Str × Value)} : (A.under (.builtin "type.__call__" ⟨.ref C :: us, kw⟩)).units = A.units + 1 := by
 first | rfl | simp [Around.under, Code.cUnits, Code.frames, Code.isFrame]
theorem bG.make {k : Nat} {A : Around} (r : bG (k + 1) A) (C : Addr) (us : List Value) (kw : List (Str × Value)) : bG k (A.under (.builtin "type.__call__" ⟨.ref C :: us, kw⟩)) :=
 ⟨r.hd, by have := r.dp; rw [qK]; omega, by have := r.un; rw [qJ]; omega⟩
theorem bG.depth {k : Nat} {A : Around} (r : bG k A) : A.depth < recursionLimit := by have := r.dp; omega
theorem bG.units {k : Nat} {A : Around} (r : bG k A) : A.units + 64 < cLine := by have := r.un; omega
theorem bG.units0 {k : Nat} {A : Around} (r : bG k A) : A.units < cLine := by have := r.un; omega
def tNil : TA := fun _ H Q => Q [] H
def iD (ta : TE) (tr : TA) : TA := fun σ H Q => ta σ H fun x H1 => tr σ H1 fun xs H2 => Q (x :: xs) H2
section
variable {X : Cx} {e : Expr} {es : List Expr} {te : TE} {t : TA} {pos : Pos}
theorem ac : PA X [] tNil := fun _ _ _ _ H Q I h => Calls.spliced_nil ⟨[], H, I, .nil, h⟩
theorem aa (ha : PE X e te) (hr : PA X es t) (hs : starEach (e :: es) X.env = (false, eval e X.env) :: starEach es X.env := by rfl) : PA X (e :: es) (iD te t) := by
 intro pos pins s σ H Q I h
 rw [hs]
 show wpAny _ _ (spliced ((false, eval e X.env) :: backTo pos (starEach es X.env))) _ _ s
 refine Calls.spliced_cons (thn (ha pins s σ H _ I h) fun u s1 ⟨x, H1, I1, r1, q1⟩ => ?_)
 exact thn (hr pos pins s1 σ H1 _ I1 q1) fun us s2 ⟨xs, H2, I2, r2, q2⟩ => ⟨x :: xs, H2, I2, .cons r1 r2, q2⟩
def Cd (t : TA) : TE := fun σ H Q => t σ H fun xs H1 => xs.length <= sizeLine /\ ∀ p, H1 p = none -> Q (.ref p) (upd H1 p (.tup xs))
def Bk (t : TA) : TE := fun σ H Q => t σ H fun xs H1 => xs.length <= sizeLine /\ ∀ p, H1 p = none -> Q (.ref p) (upd H1 p (.lst xs))
theorem tz {x1} (h : PA X es t) : PE X (.Tuple es x1 pos) (Cd t) := by
 intro pins s σ H Q I hq
 refine wpAny_Tuple_spliced (thn (h pos pins s σ H _ I hq) fun us s1 ⟨xs, H1, I1, r, z, q⟩ => ⟨by rw [<- r.length]; exact z, ?_⟩)
 have hf : H1 s1.heap.objs.size = none := I1.hok.fresh (C7 _)
 refine ⟨.ref s1.heap.objs.size, upd H1 s1.heap.objs.size (.tup xs), I1.laid (t' := s1.toks) (fun b u e => CW _ e) (C7 _) ?_, rfl, q _ hf⟩
 exact ⟨z, us, r, ⟨_, Di _ rfl, rfl, _, rfl⟩⟩
theorem aH (h : PA X es t) : PE X (.List es pos) (Bk t) := by
 intro pins s σ H Q I hq
 refine wpAny_List_spliced (thn (h pos pins s σ H _ I hq) fun us s1 ⟨xs, H1, I1, r, z, q⟩ => ⟨by rw [<- r.length]; exact z, ?_⟩)
 have hf : H1 s1.heap.objs.size = none := I1.hok.fresh (C7 _)
 refine ⟨.ref s1.heap.objs.size, upd H1 s1.heap.objs.size (.lst xs), I1.laid (t' := s1.toks) (fun b u e => CW _ e) (C7 _) ?_, rfl, q _ hf⟩
 exact ⟨z, us, 0, r, Di _ rfl⟩
end
abbrev Sp := List V -> Hp -> VK -> XK -> Prop
abbrev CXT := List Env -> Hp -> Shared -> XK -> Value -> Shared -> Prop
structure vv (P : Program) (w : World) (K : Fg) (mg : Str -> Option Value) (base : Heap) (A : Around) (outer : List Env) (s : Shared) (H : Hp) : Prop where
 frames : A.frames = some outer
 mod : Mod K mg base
 bs : ∀ b o, base.get? b = some o -> s.heap.get? b = some o /\ H b = none
 bsz : base.objs.size <= s.heap.objs.size
 funs : s.heap.FunFrames base outer
 frf : ∀ b ∈ frs outer, H b = none
 hok : HOk P w H s.heap
 bare : AllBare s.gens
def CE (outer : List Env) (P : Program) (w : World) (H : Hp) (s : Shared) (Q : VK) (u : Value) (s' : Shared) : Prop :=
 ∃ v H', s'.os = s.os /\ AllBare s'.gens /\ Un (frs outer) [] H H' s.heap s'.heap /\ HOk P w H' s'.heap /\ bm v u /\ Q v H'
def CR (CX : CXT) (outer : List Env) (P : Program) (w : World) (H : Hp) (s : Shared) (Q : VK) (E : XK) (r : Result) (s' : Shared) : Prop :=
 match r with
 | .ok (.ret u) => CE outer P w H s Q u s'
 | .ok _ => False
 | .error e => CX outer H s E e s'
structure bc (P : Program) (w : World) (K : Fg) (mg : Str -> Option Value) (base : Heap) (CX : CXT) (k : Nat) (f : Addr) (fd : FuncData) (ps : List Str) (sp : Sp) : Prop where
 len : ∀ vs H Q E, sp vs H Q E -> vs.length = ps.length
 run : ∀ (A : Around) (outer : List Env) (s : Shared) (H : Hp) (args : Args) (us : List Value) (vs : List V) (Q : VK) (E : XK), bG k A -> vv P w K mg base A outer s H -> BindsTo s fd args (ps.zip us) -> aV vs us -> sp vs H Q E ->
  codeAny (model P w) A (.call (.ref f) args) (CR CX outer P w H s Q E) s
theorem bc.mono {P : Program} {w : World} {K : Fg} {mg : Str -> Option Value} {base : Heap} {CX : CXT} {j k : Nat} {f : Addr} {fd : FuncData} {ps : List Str} {sp : Sp} (F : bc P w K mg base CX j f fd ps sp) (h : j <= k) :
  bc P w K mg base CX k f fd ps sp := ⟨F.len, fun A outer s H args us vs Q E hr => F.run A outer s H args us vs Q E (hr.mono h)⟩
theorem vv.make {P : Program} {w : World} {K : Fg} {mg : Str -> Option Value} {base : Heap} {A : Around} {outer : List Env} {s : Shared} {H : Hp} (e : vv P w K mg base A outer s H) (C : Addr) (us : List Value) (kw : List (Str × Value)) :
  vv P w K mg base (A.under (.builtin "type.__call__" ⟨.ref C :: us, kw⟩)) outer s H := ⟨by first | exact e.frames | (simpa [Around.under, Code.envs, Code.isFrame, pushEnvs] using e.frames), e.mod, e.bs, e.bsz, e.funs, e.frf, e.hok, e.bare⟩
section
variable {X : Cx} {pins : List (Addr × Obj)} {σ : St} {H : Hp} {s s' : Shared}
theorem Inv.env0 (I : Inv X pins σ H s) : vv X.prog X.w X.K X.mg X.base X.A X.stack s H :=
 ⟨I.ok.frames, I.ok.mod, I.bs, Nat.le_trans I.ok.bsz I.sz, I.stack, I.stkFree, I.hok, I.bare⟩
theorem Inv.after {Q : VK} {u : Value} (I : Inv X pins σ H s) (h : CE X.stack X.prog X.w H s Q u s') : EP X pins σ Q u s' := by
 obtain ⟨v, H', os, bare, un, hok, r, q⟩ := h
 obtain ⟨hh, g, d, t, os'⟩ := s'
 obtain rfl : os' = s.os := os
 exact ⟨v, H', I.call (h' := hh) (g' := g) (d' := d) (t' := t) (ch := []) un hok bare (fun b z => absurd z (by simp)), r, q⟩
end
def zU (sp : Sp) (dvs : List V) (E : XK) (t : TA) : TE := fun σ H Q => t σ H fun vs H1 => sp (vs ++ dvs) H1 Q E
def zQ (C : Addr) (m : Str) (sp : Sp) (dvs : List V) (E : XK) (ta : TE) (t : TA) : TE := fun σ H Q => ta σ H fun x H1 => ∃ a dx fs, x = .ref a /\ H1 a = some (.ins C dx fs) /\ fs.lookup m = none /\
 t σ H1 fun vs H2 => sp (x :: (vs ++ dvs)) H2 Q E
def Bs (C : Addr) (sp : Sp) (dvs : List V) (E : XK) (t : TA) : TE := fun σ H Q => t σ H fun vs H1 => ∀ x dx, H1 x = none -> H1 dx = none -> dx ≠ x ->
 sp (.ref x :: (vs ++ dvs)) (upd (upd H1 dx (.own x)) x (.ins C dx [])) (fun v H2 => v = .non /\ Q (.ref x) H2) E
def ci (K : Fg) (fd : FuncData) (ps : List Str) (ds : List Value) : Prop :=
 ∀ (s : Shared) (us : List Value), K.In s.heap -> (us ++ ds).length = ps.length -> BindsTo s fd ⟨us, []⟩ (ps.zip (us ++ ds))
theorem ci.all {K : Fg} {fd : FuncData} {ps : List Str} (h : ∀ us : List Value, us.length = ps.length -> bindArgs fd ⟨us, []⟩ = pure (ps.zip us)) : ci K fd ps [] := fun s us _ hl => by
 rw [Dq] at hl ⊢
 exact .of_eq (h us hl)
def gw (CX : CXT) (X : Cx) (E : XK) : Prop := ∀ (pins : List (Addr × Obj)) (σ : St) (H : Hp) (s : Shared) (e : Value) (s' : Shared), Inv X pins σ H s -> CX X.stack H s E e s' -> X.xe e s'
section
variable {X : Cx} {CX : CXT} {k : Nat} {f C : Addr} {fd : FuncData} {ps : List Str} {sp : Sp} {dvs : List V} {ds : List Value} {E : XK} {x m : Str} {p pos apos : Pos} {e o : Expr} {es : List Expr} {ta : TE} {t : TA}
theorem sO {pins : List (Addr × Obj)} {σ : St} {H : Hp} {s : Shared} {Q : VK} {us : List Value} {vs : List V} (F : bc X.prog X.w X.K X.mg X.base CX k f fd ps sp) (hr : bG k X.A) (hb : ci X.K fd ps ds) (hd : aV dvs ds) (hx : gw CX X E)
  (I : Inv X pins σ H s) (r : aV vs us) (h : sp (vs ++ dvs) H Q E) : wpAny (model X.prog X.w) X.A (call (.ref f) us) (EP X pins σ Q) X.xe s := by
 have r2 : aV (vs ++ dvs) (us ++ ds) := r.append hd
 have hl : (us ++ ds).length = ps.length := by rw [<- r2.length]; exact F.len _ _ _ _ h
 refine wpAny_call (codeAny_mono (F.run X.A X.stack s H ⟨us, []⟩ (us ++ ds) (vs ++ dvs) Q E hr I.env0 (hb s us I.kIn hl) r2 h) fun r s' hq => ?_)
 cases r with
 | error e => exact hx pins σ H s e s' I hq
 | ok fl =>
  cases fl with
  | ret u => exact I.after hq
  | next => exact False.elim hq
  | brk => exact False.elim hq
  | cont => exact False.elim hq
theorem aj (F : bc X.prog X.w X.K X.mg X.base CX k f fd ps sp) (hr : bG k X.A) (hg : Gl X x) (hm : X.mg x = some (.ref f)) (hk : PySem.W.keepIn X.K (.ref f) = true) (hb : ci X.K fd ps ds) (hd : aV dvs ds) (hx : gw CX X E)
  (ha : PA X (e :: es) t) (hdb : (x == ("__debug__" : Str)) = false := by decide) (he : starEach (e :: es) X.env = (false, eval e X.env) :: starEach es X.env := by rfl) (hpl : (backTo pos (starEach es X.env)).any (·.1) = false := by rfl) :
  PE X (.Call (.Name x p) (e :: es) [] pos) (zU sp dvs E t) := by
 intro pins s σ H Q I h
 refine wpAny_Call_Name_kw (fw I hg hm ?_ hdb)
 refine PySem.W.callWith_K (h₀ := X.base) I.ok.mod.kin hk (thn (ha pos pins s σ H _ I h) fun us s1 ⟨vs, H1, I1, r, q⟩ => ⟨I1.kIn, ?_⟩) he hpl
 exact sO F hr hb hd hx I1 r q
theorem tG {pl : Sem Bool} (he : PE X o ta) (c : Cls X.K C) (hm : zy X.K C m f) (F : bc X.prog X.w X.K X.mg X.base CX k f fd ps sp) (hr : bG k X.A) (hb : ci X.K fd ps ds) (hd : aV dvs ds) (hx : gw CX X E) (ha : PA X (e :: es) t)
  (hst : starEach (e :: es) X.env = (false, eval e X.env) :: starEach es X.env := by rfl) (hpl : (backTo pos (starEach es X.env)).any (·.1) = false := by rfl)
  (ht : eval (.Call (.Attribute o m apos) (e :: es) [] pos) X.env = (do
   let ov <- eval o X.env
   standAt apos.atName
   let (f, first) <- holding [ov] (getMethod ov m pl)
   callWith pos f first (backTo pos (starEach (e :: es) X.env)) (backToKw pos (keywordEach [] X.env))) := by rfl) :
  PE X (.Call (.Attribute o m apos) (e :: es) [] pos) (zQ C m sp dvs E ta t) := by
 intro pins s σ H Q I h
 refine PySem.W.methodCall_KW (pl := pl) (thn (he pins s σ H _ I h) fun u s1 ⟨x, H1, I1, rx, a, dx, fs, ex, ea, l, q⟩ => ?_) ht
 subst ex
 obtain rfl : u = Value.ref a := rx
 refine eE I1 ea c hm l ?_
 refine PySem.W.callWith_K (first := [.ref a]) (h₀ := X.base) I.ok.mod.kin hm.kp (thn (ha pos pins s1 σ H1 _ I1 q) fun us s2 ⟨vs, H2, I2, r, q2⟩ => ⟨I2.kIn, ?_⟩) hst hpl
 exact sO (us := .ref a :: us) (vs := .ref a :: vs) F hr hb hd hx I2 (.cons rfl r) q2
theorem la {pl : Sem Bool} (he : PE X o ta) (c : Cls X.K C) (hm : zy X.K C m f) (F : bc X.prog X.w X.K X.mg X.base CX k f fd ps sp) (hr : bG k X.A) (hb : ci X.K fd ps ds) (hd : aV dvs ds) (hx : gw CX X E)
  (ht : eval (.Call (.Attribute o m apos) [] [] pos) X.env = (do
   let ov <- eval o X.env
   standAt apos.atName
   let (f, first) <- holding [ov] (getMethod ov m pl)
   callWith pos f first (backTo pos (starEach [] X.env)) (backToKw pos (keywordEach [] X.env))) := by rfl) :
  PE X (.Call (.Attribute o m apos) [] [] pos) (zQ C m sp dvs E ta tNil) := by
 intro pins s σ H Q I h
 refine PySem.W.methodCall_KW (pl := pl) (thn (he pins s σ H _ I h) fun u s1 ⟨x, H1, I1, rx, a, dx, fs, ex, ea, l, q⟩ => ?_) ht
 subst ex
 obtain rfl : u = Value.ref a := rx
 refine eE I1 ea c hm l ?_
 exact PySem.W.callWith_K0 (first := [.ref a]) I1.kIn hm.kp (sO (us := [.ref a]) (vs := [.ref a]) F hr hb hd hx I1 (.cons rfl .nil) q)
structure Mk (K : Fg) (C f : Addr) : Prop where
 makes : PySem.W.makesIn K C = true
 init : PySem.W.findIn K (.ref C) "__init__" = some (some (.ref f))
 fn : PySem.W.isFn K (.ref f) = true
 kp : PySem.W.keepIn K (.ref C) = true
theorem vV {pins : List (Addr × Obj)} {σ : St} {H : Hp} {s : Shared} {Q : VK} {us : List Value} {vs : List V} (M : Mk X.K C f) (F : bc X.prog X.w X.K X.mg X.base CX k f fd ps sp) (hr : bG (k + 1) X.A) (hb : ci X.K fd ps ds) (hd : aV dvs ds)
  (hx : gw CX X E) (I : Inv X pins σ H s) (r : aV vs us)
  (h : ∀ x dx, H x = none -> H dx = none -> dx ≠ x -> sp (.ref x :: (vs ++ dvs)) (upd (upd H dx (.own x)) x (.ins C dx [])) (fun v H2 => v = .non /\ Q (.ref x) H2) E) :
  wpAny (model X.prog X.w) X.A (call (.ref C) us) (EP X pins σ Q) X.xe s := by
 have hq := h (s.heap.objs.size + 1) s.heap.objs.size (I.hok.fresh (Nat.le_succ _)) (I.hok.fresh (C7 _)) (Ds (Nat.lt_succ_self _))
 have I2 := Inv.made (C := C) I
 have r2 : aV (V.ref (s.heap.objs.size + 1) :: (vs ++ dvs)) (Value.ref (s.heap.objs.size + 1) :: (us ++ ds)) := .cons rfl (r.append hd)
 have hl : (Value.ref (s.heap.objs.size + 1) :: us ++ ds).length = ps.length := by
  have e := r2.length
  rw [F.len _ _ _ _ hq] at e
  exact e.symm
 refine wpAny_call (wF (f := f) I.kIn M.makes M.init (beq_iff_eq.mp M.fn) (codeAny_mono (F.run _ X.stack _ _ ⟨Value.ref (s.heap.objs.size + 1) :: us, []⟩ (Value.ref (s.heap.objs.size + 1) :: (us ++ ds)) _ _ E (hr.make C us [])
  (I2.env0.make C us []) (hb _ (Value.ref (s.heap.objs.size + 1) :: us) I2.kIn hl) r2 hq) fun r s' hq' => ?_))
 cases r with
 | error e => exact hx pins σ _ _ e s' I2 hq'
 | ok fl =>
  cases fl with
  | ret u =>
   obtain ⟨v, H', I3, rv, ev, q3⟩ := I2.after hq'
   subst ev
   exact ⟨rv, ⟨V.ref (s.heap.objs.size + 1), H', I3, rfl, q3⟩⟩
  | next => exact False.elim hq'
  | brk => exact False.elim hq'
  | cont => exact False.elim hq'
theorem fk (M : Mk X.K C f) (F : bc X.prog X.w X.K X.mg X.base CX k f fd ps sp) (hr : bG (k + 1) X.A) (hg : Gl X x) (hm : X.mg x = some (.ref C)) (hb : ci X.K fd ps ds) (hd : aV dvs ds) (hx : gw CX X E)
  (ha : PA X (e :: es) t) (hdb : (x == ("__debug__" : Str)) = false := by decide) (he : starEach (e :: es) X.env = (false, eval e X.env) :: starEach es X.env := by rfl) (hpl : (backTo pos (starEach es X.env)).any (·.1) = false := by rfl) :
  PE X (.Call (.Name x p) (e :: es) [] pos) (Bs C sp dvs E t) := by
 intro pins s σ H Q I h
 refine wpAny_Call_Name_kw (fw I hg hm ?_ hdb)
 refine PySem.W.callWith_K (h₀ := X.base) I.ok.mod.kin M.kp (thn (ha pos pins s σ H _ I h) fun us s1 ⟨vs, H1, I1, r, q⟩ => ⟨I1.kIn, ?_⟩) he hpl
 exact vV M F hr hb hd hx I1 r q
end
structure al (N P : List Str) (sc : Scope) : Prop where
 kind : sc.kind = .function
 co : sc.isCoroutine = false
 gen : sc.isGenerator = false
 nd : N.Nodup
 pre : N.take P.length = P
 par : ∀ x ∈ P, sc.names.lookup x = some .local ∨ sc.names.lookup x = some .cell
 nofree : ∀ y ∈ sc.names, y.2 ≠ .free
theorem nv {kindOf : Str -> Option NameKind} {x : Str} : ∀ {binds : List (Str × Value)} {m : Str -> Option Value}, (∀ v, (x, v) ∉ binds) -> bindL kindOf binds m x = m x
 | [], _, _ => rfl
 | (n, v) :: r, m, h => by
  unfold bindL
  rw [nv fun w hw => h w (C2 _ hw)]
  split
  ·have : x ≠ n := by rintro rfl; exact h v C3
   simp [this]
  ·rfl
theorem nB {kindOf : Str -> Option NameKind} {x : Str} : ∀ {binds : List (Str × Value)} {m : Str -> Option Value}, (∀ v, (x, v) ∉ binds) -> bindC kindOf binds m x = m x
 | [], _, _ => rfl
 | (n, v) :: r, m, h => by
  unfold bindC
  rw [nB fun w hw => h w (C2 _ hw)]
  split
  ·rfl
  ·have : x ≠ n := by rintro rfl; exact h v C3
   simp [this]
theorem nw {kindOf : Str -> Option NameKind} {x : Str} {v : Value} : ∀ {P : List Str} {vs : List Value} {i : Nat} {m : Str -> Option Value}, P.Nodup -> P[i]? = some x -> vs[i]? = some v -> kindOf x = some .local ->
  bindL kindOf (P.zip vs) m x = some v
 | [], _, _, _, _, h, _, _ => by simp at h
 | _ :: _, [], _, _, _, _, h, _ => by simp at h
 | p :: P, w :: vs, 0, m, nd, h1, h2, hk => by
  simp at h1 h2; subst h1; subst h2
  show bindL kindOf ((p, w) :: P.zip vs) m p = _
  unfold bindL
  rw [nv fun v hv => (List.nodup_cons.mp nd).1 (List.of_mem_zip hv).1, if_pos hk]
  simp
 | p :: P, w :: vs, i + 1, m, nd, h1, h2, hk => by
  show bindL kindOf ((p, w) :: P.zip vs) m x = _
  unfold bindL
  exact nw (i := i) (List.nodup_cons.mp nd).2 (by simpa using h1) (by simpa using h2) hk
theorem nE {kindOf : Str -> Option NameKind} {x : Str} {v : Value} : ∀ {P : List Str} {vs : List Value} {i : Nat} {m : Str -> Option Value}, P.Nodup -> P[i]? = some x -> vs[i]? = some v -> kindOf x ≠ some .local ->
  bindC kindOf (P.zip vs) m x = some v
 | [], _, _, _, _, h, _, _ => by simp at h
 | _ :: _, [], _, _, _, _, h, _ => by simp at h
 | p :: P, w :: vs, 0, m, nd, h1, h2, hk => by
  simp at h1 h2; subst h1; subst h2
  show bindC kindOf ((p, w) :: P.zip vs) m p = _
  unfold bindC
  rw [nB fun v hv => (List.nodup_cons.mp nd).1 (List.of_mem_zip hv).1, if_neg hk]
  simp
 | p :: P, w :: vs, i + 1, m, nd, h1, h2, hk => by
  show bindC kindOf ((p, w) :: P.zip vs) m x = _
  unfold bindC
  exact nE (i := i) (List.nodup_cons.mp nd).2 (by simpa using h1) (by simpa using h2) hk
def start (N : List Str) (vs : List V) : St := vs.map some ++ List.replicate (N.length - vs.length) none
def lT (CX : CXT) (P : Program) (w : World) (K : Fg) (mg : Str -> Option Value) (base : Heap) (N : List Str) (qual : Str) (scope : Scope) (f : Addr) (cd : Value) (A : Around) (outer : List Env) (s : Shared) (H : Hp) (E : XK) : Cx where
 prog := P
 w := w
 K := K
 mg := mg
 base := base
 A := A.deeper (envOfC qual scope s.heap.objs.size f cd)
 N := N
 s_0 := s
 H_0 := H
 env := envOfC qual scope s.heap.objs.size f cd
 outer := outer
 stack := envOfC qual scope s.heap.objs.size f cd :: outer
 ex := []
 calm := true
 fn := fun _ => true
 pn := []
 xe := fun e s' => wpAny (model P w) (A.deeper (envOfC qual scope s.heap.objs.size f cd)) (leaving (envOfC qual scope s.heap.objs.size f cd) e) (fun _ s'' => CX outer H s E e s'') (fun e' s'' => CX outer H s E e' s'') s'
theorem qp {sc : Scope} {n : Nat} {x : Str} (h : sc.names.lookup x = some .cell) : ∃ c, (cellsFrom n sc.names []).lookup x = some c := by
 have q := PySem.W.cellsFrom_some sc.names n [] (.inl h)
 exact Option.isSome_iff_exists.mp q
theorem mH {CX : CXT} {P : Program} {w : World} {K : Fg} {mg : Str -> Option Value} {base : Heap} {N ps : List Str} {qual : Str} {scope : Scope} {f : Addr} {cd : Value} {A : Around} {outer : List Env} {s s1 : Shared} {H : Hp} {E : XK} {us : List Value} {vs : List V}
  (S : al N ps scope) (hd : A.handled = none) (e0 : vv P w K mg base A outer s H) (hl : vs.length = ps.length) (r : aV vs us)
  (x : InCallC s s.heap.objs.size (bindL (envOfC qual scope s.heap.objs.size f cd).kindOf (ps.zip us) fun _ => none) (cellsFrom (s.heap.objs.size + 1) scope.names []) (bindC (envOfC qual scope s.heap.objs.size f cd).kindOf (ps.zip us) fun _ => none) s1) :
  Inv (lT CX P w K mg base N qual scope f cd A outer s H E) [] (start N vs) H s1 := by
 have hpl : ps.length <= N.length := by have := congrArg List.length S.pre; rw [Dn] at this; omega
 obtain ⟨h1, tk, rfl, hk⟩ := x.done
 have noA : ∀ b : Addr, b ∉ (lT CX P w K mg base N qual scope f cd A outer s H E).ex := fun b z => absurd (show b ∈ ([] : List Addr) from z) (by simp)
 refine ⟨⟨e0.mod, S.kind, rfl, rfl, C7 _, fun y z c h1 h2 => ?_, fun y hy => ?_, fun y c _ h => ?_, fun _ => hd, Around.frames_deeper e0.frames, .inr ⟨rfl, rfl⟩, fun b z => absurd z (noA b), e0.bs, e0.bsz, fun b _ _ => noA b, fun b z => absurd z (noA b), e0.funs, e0.frf⟩,
  rfl, e0.bare, Un.kept hk, ⟨_, x.toInCall.ns, fun i y v h1 h2 h3 => ?_⟩, fun y c h => ⟨_, x.cell y c h⟩, e0.hok.fresh (C7 _), fun y c h => ?_, fun p hp => absurd (show p ∈ ([] : List (Addr × Obj)) from hp) (by simp), e0.hok.kept hk, ?_⟩
 ·exact name_of_addr x.apart (PySem.mem_of_lookup h1) (PySem.mem_of_lookup h2)
 ·have hy : scope.names.lookup y = some .cell ∨ scope.names.lookup y = some .free := hy
  rcases hy with hy | hy
  ·exact qp hy
  ·exact absurd rfl (S.nofree _ (PySem.mem_of_lookup hy))
 ·exact Nat.le_of_lt (x.above y c (PySem.mem_of_lookup h))
 ·have hi : i < vs.length := by
   unfold start at h2
   by_cases hi : i < vs.length
   ·exact hi
   ·rw [List.getElem?_append_right (by simpa using hi)] at h2
    rw [List.getElem?_replicate] at h2
    split at h2 <;> cases h2
  have ha : vs[i]? = some v := by
   unfold start at h2
   rw [List.getElem?_append_left (by simpa using hi), C1] at h2
   cases e : vs[i]? with
   | none => rw [e] at h2; cases h2
   | some a => rw [e] at h2; cases h2; rfl
  obtain ⟨u, hu, rv⟩ := r.get ha
  have hp : ps[i]? = some y := by
   rw [<- S.pre, List.getElem?_take_of_lt (by omega)]; exact h1
  have ndP : ps.Nodup := by rw [<- S.pre]; exact S.nd.sublist (List.take_sublist _ _)
  refine ⟨u, rv, ?_⟩
  rcases S.par y (List.mem_of_getElem? hp) with k | k
  ·exact .inl ⟨k, nw ndP hp hu k⟩
  ·obtain ⟨c, e⟩ := qp (n := s.heap.objs.size + 1) k
   refine .inr ⟨.inl k, c, e, ?_⟩
   have q := x.cell y c e
   rw [nE ndP hp hu (by show scope.names.lookup y ≠ _; rw [k]; decide)] at q
   exact q
 ·exact e0.hok.fresh (Nat.le_of_lt (x.above y c (PySem.mem_of_lookup h)))
 ·unfold start
  show _ = N.length
  rw [CV, CP, List.length_replicate]
  omega
theorem AQ {CX : CXT} {P : Program} {w : World} {K : Fg} {mg : Str -> Option Value} {base : Heap} {k : Nat} {f : Addr} {name qual : Str} {params : Arguments} {body : List Stmt} {scope : Scope} {dV kV doc pm cdv ct oc : Value} {an od : Option Addr}
  {osl : Array (Option Value)} {N ps : List Str} {sp : Sp} (lk : K.lookup f = some ⟨oc, od, .func (PySem.W.fnOf name qual params body scope dV kV doc pm an cdv ct), osl⟩) (hcd : PySem.W.codeIn K cdv qual = true) (S : al N ps scope)
  (len : ∀ vs H Q E, sp vs H Q E -> vs.length = ps.length)
  (hbody : ∀ (A : Around) (outer : List Env) (s : Shared) (H : Hp) (vs : List V) (Q : VK) (E : XK), bG k (A.deeper (envOfC qual scope s.heap.objs.size f cdv)) -> sp vs H Q E ->
   ∃ t, PSs (lT CX P w K mg base N qual scope f cdv A outer s H E) body t /\ t { nx := fun _ H' => Q .non H', rt := Q } (start N vs) H) :
  bc P w K mg base CX (k + 1) f (PySem.W.fnOf name qual params body scope dV kV doc pm an cdv ct) ps sp := by
 refine ⟨len, fun A outer s H args us vs Q E hr e0 hb r hsp => ?_⟩
 have hl := len _ _ _ _ hsp
 have KX : K.In s.heap := e0.mod.kin.keeps fun b o e => (e0.bs b o e).1
 have lim : s.heap.NoLimit := e0.mod.nolimit.keeps fun b o e => (e0.bs b o e).1
 have hkind : ∀ y ∈ ps.zip us, scope.names.lookup y.1 = some .local ∨ (scope.names.lookup y.1 = some .cell /\ ((cellsFrom (s.heap.objs.size + 1) scope.names []).lookup y.1).isSome = true) := fun ⟨n, v⟩ hy => by
  rcases S.par n (List.of_mem_zip hy).1 with q | q
  ·exact .inl q
  ·exact .inr ⟨q, PySem.W.cellsFrom_some _ _ _ (.inl q)⟩
 refine codeAny_call_function hr.depth (KX _ _ lk) rfl S.co S.gen rfl (PySem.W.codeRec_of KX hcd) (hb _ _ _ _ ?_)
 refine wpAny_newFunctionEnv_cells S.kind hkind fun env he s1 x => ?_
 subst he
 refine ⟨lim.keeps x.toInCall.keep, codeAny_func ?_⟩
 obtain ⟨t, ht, hq⟩ := hbody A outer s H vs Q E (hr.deeper _) hsp
 have I : Inv (lT CX P w K mg base N qual scope f cdv A outer s H E) [] (start N vs) H s1 := mH S hr.hd e0 hl r x
 refine wpAny_mono (ht [] s1 (start N vs) H _ I hq) (fun fl s' hs => ?_) fun e s' hs => hs
 have fin : ∀ {σ' : St} {H' : Hp} {v : V} {u : Value}, Inv (lT CX P w K mg base N qual scope f cdv A outer s H E) [] σ' H' s' -> bm v u -> Q v H' -> CE outer P w H s Q u s' :=
  fun {σ' H' v u} J rv q => ⟨v, H', J.os, J.bare, J.base, J.hok, rv, q⟩
 cases fl with
 | ret u =>
  obtain ⟨v, σ', H', J, rv, q⟩ := hs
  exact fin J rv q
 | next =>
  obtain ⟨σ', H', J, q⟩ := hs
  exact fin (v := V.non) (u := Value.none) J rfl q
 | brk =>
  obtain ⟨_, _, _, q⟩ := hs
  exact False.elim q
 | cont =>
  obtain ⟨_, _, _, q⟩ := hs
  exact False.elim q
end L2
namespace L2
open PySem PySem.Spec PyProof.Rows
section
variable {X : Cx} {x : Str} {p pos : Pos} {e : Expr} {es : List Expr} {t : TA} {id T : String} {r : List V -> Hp -> VK -> Prop}
def tCB (r : List V -> Hp -> VK -> Prop) (t : TA) : TE := fun σ H Q => t σ H fun vs H1 => r vs H1 Q
theorem ak (hc : eL X (.builtin id) r) (hg : Gl X x) (hm : X.mg x = none) (hv : bootBuiltins x = some (.builtin id)) (ha : PA X (e :: es) t) (hn : x ≠ "__name__" := by decide) (hdb : (x == ("__debug__" : Str)) = false := by decide)
  (he : starEach (e :: es) X.env = (false, eval e X.env) :: starEach es X.env := by rfl) (hpl : (backTo pos (starEach es X.env)).any (·.1) = false := by rfl) : PE X (.Call (.Name x p) (e :: es) [] pos) (tCB r t) := by
 intro pins s σ H Q I h
 refine wpAny_Call_Name_kw (jn I hg hm hv ?_ hn hdb)
 exact PyProof.Rows.callWith_builtin1 (thn (ha pos pins s σ H _ I h) fun us s1 ⟨vs, H1, I1, r1, q1⟩ => hc pins s1 σ H1 vs us Q I1 r1 q1) he hpl
theorem gc (hc : eL X (.type T) r) (hg : Gl X x) (hm : X.mg x = none) (hv : bootBuiltins x = some (.type T)) (ha : PA X (e :: es) t) (hn : x ≠ "__name__" := by decide) (hdb : (x == ("__debug__" : Str)) = false := by decide)
  (he : starEach (e :: es) X.env = (false, eval e X.env) :: starEach es X.env := by rfl) (hpl : (backTo pos (starEach es X.env)).any (·.1) = false := by rfl) : PE X (.Call (.Name x p) (e :: es) [] pos) (tCB r t) := by
 intro pins s σ H Q I h
 refine wpAny_Call_Name_kw (jn I hg hm hv ?_ hn hdb)
 exact PyProof.Rows.callWith_type1 (thn (ha pos pins s σ H _ I h) fun us s1 ⟨vs, H1, I1, r1, q1⟩ => hc pins s1 σ H1 vs us Q I1 r1 q1) he hpl
end
end L2
namespace HT
open PySem PyProof.Rows
def lexLt : List Int -> List Int -> Bool
 | [], [] => false
 | [], _ :: _ => true
 | _ :: _, [] => false
 | x :: xs, y :: ys => if x = y then lexLt xs ys else decide (x < y)
theorem qN (x y : Int) (xs ys : List Int) : lexLt (x :: xs) (y :: ys) = if x = y then lexLt xs ys else decide (x < y) := rfl
theorem lu : lexLt [] [] = false := rfl
theorem jK (y : Int) (ys : List Int) : lexLt [] (y :: ys) = true := rfl
theorem jL (x : Int) (xs : List Int) : lexLt (x :: xs) [] = false := rfl
theorem wR (A : Around) (s : Shared) (a : Int) (t : Tok) (c : Int) (u : Tok) : ∃ e, SeqAt.EqAt A s (.int a t) (.int c u) e /\ (e = true ↔ a = c) :=
 ⟨(a == c), SeqAt.EqAt.int_int a t c u, by simp⟩
theorem vY (A : Around) (s : Shared) (a : Int) (t : Tok) (c : Int) (u : Tok) (prog : Program) (w : World) (E : Value -> Shared -> Prop) (Q : Value -> Shared -> Prop) (h : Q (.bool (decide (a < c))) s) :
  wpAny (model prog w) A (richCompare .Lt (.int a t) (.int c u)) Q E s :=
 (PyProof.Rows.lt_int h : wpAny (model prog w) A (compareOp .Lt (.int a t) (.int c u)) Q E s)
section
open PySem.SeqAt
open PySem.AutoSeq1 (wpAny_loadPart')
open PySem.MeetsSeq PySem.MeetsSeq2 PySem.MeetsSeq3
theorem ko (l b : Addr) (items items2 : Array Value) (n n2 : Nat) (dd dd2 : Option Addr) (sl sl2 : Array (Option Value)) (ns ms : List Int) (hi : IntsAre items.toList ns) (hj : IntsAre items2.toList ms) :
  Meets (Builtin.«tuple.__lt__» ⟨[.ref l, .ref b], []⟩)
   (fun _ R s => s.heap.get? l = some { cls := .type "tuple", dict := dd, data := .seq items n, slots := sl } /\ s.heap.get? b = some { cls := .type "tuple", dict := dd2, data := .seq items2 n2, slots := sl2 } /\
    R (.ok (.ret (.bool (lexLt ns ms)))) s) :=
 .of_wp fun prog w A R s h => by
  obtain ⟨hp, g, d, tk, os⟩ := s; obtain ⟨hl, hb, h⟩ := h
  have f2 := AutoSeq1.sub_tuple_tuple
  have z1 : items.size = ns.length := by rw [<- hi.length]; simp
  have z2 : items2.size = ms.length := by rw [<- hj.length]; simp
  wp_walk using wpAny_loadPart' hl, wpAny_loadPart' hb, wpAny_forIn_list _ (fun rest b s' => b.1 = none /\ s' = ⟨hp, g, d, tk, os⟩ /\ ∃ (vs ws : List Value) (ns' ms' : List Int), rest = vs.zip ws /\
   IntsAre vs ns' /\ IntsAre ws ms' /\ ns'.length + items2.size = ms'.length + items.size /\ R (.ok (.ret (.bool (lexLt ns' ms')))) ⟨hp, g, d, tk, os⟩) _
  case turn =>
   rintro ⟨y, x⟩ rest b s' ⟨hb', rfl, vs, ws, ns', ms', hz, hvi, hwi, hlen, hR⟩
   cases hvi with
   | nil => rw [List.zip_nil_left] at hz; cases hz
   | cons a t hvi' =>
    cases hwi with
    | nil => rw [List.zip_nil_right] at hz; cases hz
    | cons c u hwi' =>
     rw [List.zip_cons_cons] at hz
     injection hz with hyx hrest
     injection hyx with hy hx
     subst hy hx
     rw [qN] at hR
     simp only [CU] at hlen
     obtain ⟨e, he, hiff⟩ := wR A.in1 ⟨hp, g, d, tk, os⟩ a t c u
     refine CQ (he prog w _ _ ?_)
     cases e with
     | true =>
      rw [if_pos (hiff.mp rfl)] at hR
      wp_walk
      exact ⟨rfl, rfl, _, _, _, _, hrest, hvi', hwi', by omega, hR⟩
     | false =>
      rw [if_neg (fun q => absurd (hiff.mpr q) Dm)] at hR
      have hri := vY A.in1 ⟨hp, g, d, tk, os⟩ a t c u prog w
      wp_walk using hri
      exact ⟨_, rfl, by simpa using hR⟩
  case fin =>
   rintro ⟨b1, b2⟩ s' ⟨hb', rfl, vs, ws, ns', ms', hz, hvi, hwi, hlen, hR⟩
   simp only at hb'
   subst hb'
   have hv : lexLt ns' ms' = decide (items.size < items2.size) := by
    cases hvi with
    | nil =>
     cases hwi with
     | nil =>
      simp only [List.length_nil] at hlen
      rw [lu]
      exact (C6 (by omega)).symm
     | cons c u hw =>
      simp only [List.length_nil, CU] at hlen
      rw [jK]
      exact (C0 (by omega)).symm
    | cons a t hv =>
     cases hwi with
     | nil =>
      simp only [List.length_nil, CU] at hlen
      rw [jL]
      exact (C6 (by omega)).symm
     | cons c u hw =>
      rw [List.zip_cons_cons] at hz
      cases hz
   rw [hv] at hR
   wp_walk
   exact ⟨_, rfl, by simpa [Builtin.Tuple.tupleCompareSizes] using hR⟩
  case h =>
   exact ⟨rfl, rfl, items.toList, items2.toList, ns, ms, rfl, hi, hj, by omega, h⟩
end
section
variable {prog : Program} {w : World} {A : Around} {E : Value -> Shared -> Prop} {s : Shared}
theorem lt_tupInts {l b : Addr} {items items2 : Array Value} {ns ms : List Int} {Q : Value -> Shared -> Prop} (hl : IsTup s.heap l items) (hb : IsTup s.heap b items2) (hi : IntsAre items.toList ns) (hj : IntsAre items2.toList ms)
  (hu : A.units < cLine) (h : Q (.bool (lexLt ns ms)) s) : wpAny (model prog w) A (compareOp .Lt (.ref l) (.ref b)) Q E s := by
 obtain ⟨⟨cls, dd, data, sl⟩, ho, hc, n, hd⟩ := id hl
 obtain ⟨⟨cls2, dd2, data2, sl2⟩, ho2, hc2, n2, hd2⟩ := id hb
 simp only at hc hd hc2 hd2
 subst hc hd hc2 hd2
 exact richCompare_meets_room (op := .Lt) ⟨_, ho, rfl⟩ ⟨_, ho2, rfl⟩ PySem.F.slot_tuple_lt PySem.F.entry_tuple_lt (PySem.F.args_tuple_lt_2 _ _) (ko l b items items2 n n2 dd dd2 sl sl2 ns ms hi hj)
  ⟨ho, ho2, show Value.bool (lexLt ns ms) ≠ Value.notImplemented /\ Q (.bool (lexLt ns ms)) s from ⟨(fun x => nomatch x), h⟩⟩ hu
def sIx (n d : Nat) : Option Int -> Nat
 | none => d
 | some v => if v < 0 then (v + (n : Int)).toNat else min v.toNat n
theorem sIx_none (n d : Nat) : sIx n d none = d := rfl
theorem sIx_nat (n d k : Nat) : sIx n d (some (k : Int)) = min k n := by
 show (if (k : Int) < 0 then ((k : Int) + (n : Int)).toNat else min (k : Int).toNat n) = min k n
 rw [if_neg (by omega), Int.toNat_natCast]
end
end HT
namespace L2
open PySem PySem.Spec PyProof.Rows
abbrev TO := St -> Hp -> (Option Int -> Hp -> Prop) -> Prop
def PO (X : Cx) (e : Option Expr) (t : TO) : Prop :=
 ∀ (pins : List (Addr × Obj)) (s : Shared) (σ : St) (H : Hp) (Q : Option Int -> Hp -> Prop), Inv X pins σ H s -> t σ H Q ->
  wpAny (model X.prog X.w) X.A (evalPart e X.env) (fun u s' => ∃ o H', Inv X pins σ H' s' /\ IsPart u o /\ Q o H') X.xe s
def tNoPart : TO := fun _ H Q => Q none H
def xZ (t : TE) : TO := fun σ H Q => t σ H fun x H1 => ∃ i, x = .int i /\ Q (some i) H1
theorem j4 {ns : List Int} : ∀ {us : List Value}, aV (ns.map V.int) us -> IntsAre us ns := by
 induction ns with
 | nil => intro us r; rw [List.map_nil] at r; cases r; exact .nil
 | cons n ns ih =>
  intro us r
  rw [List.map_cons] at r
  cases r with
  | cons r1 r2 =>
   obtain ⟨t, e⟩ := r1
   subst e
   exact .cons n t (ih r2)
section
variable {X : Cx} {e : Expr} {te : TE} {lo hi : Option Expr} {tl th : TO} {pos p2 : Pos}
theorem yu : PO X none tNoPart := by
 intro pins s σ H Q I h
 rw [evalPart_none]
 exact CT ⟨none, H, I, .none, h⟩
theorem cT (h : PE X e te) : PO X (some e) (xZ te) := by
 intro pins s σ H Q I hw
 rw [evalPart_some]
 refine thn (h pins s σ H _ I hw) fun u s1 ⟨x, H1, I1, r1, q1⟩ => ?_
 obtain ⟨i, rfl, q⟩ := q1
 obtain ⟨t, rfl⟩ := r1
 exact ⟨some i, H1, I1, .int i t, q⟩
def SlR (X : Cx) (r : V -> Option Int -> Option Int -> Hp -> VK -> Prop) : Prop :=
 ∀ (pins : List (Addr × Obj)) (s : Shared) (σ : St) (H : Hp) (x : V) (v vl vu : Value) (lo hi : Option Int) (sl : Addr) (Q : VK), Inv X pins σ H s -> bm x v -> s.heap.IsSliceOf sl vl vu .none -> IsPart vl lo -> IsPart vu hi -> r x lo hi H Q ->
  ∃ T id, typeLookup (.type T) "__getitem__" = pure (some (.builtin id)) /\ s.TypeIs v T /\ wpAny (model X.prog X.w) X.A (getItem v (.ref sl)) (EP X pins σ Q) X.xe s
def tSl (r : V -> Option Int -> Option Int -> Hp -> VK -> Prop) (te : TE) (tl th : TO) : TE := fun σ H Q => te σ H fun x H1 => tl σ H1 fun l H2 => th σ H2 fun u H3 => r x l u H3 Q
theorem fZ {r : V -> Option Int -> Option Int -> Hp -> VK -> Prop} (hr : SlR X r) (he : PE X e te) (hl : PO X lo tl) (hu : PO X hi th) : PE X (.Subscript e (.Slice lo hi none p2) pos) (tSl r te tl th) := by
 intro pins s σ H Q I h
 refine Subscript_ (thn (he pins s σ H _ I h) fun v s1 ⟨x, H1, I1, r1, q1⟩ => ?_)
 refine wpAny_Slice (thn (hl pins s1 σ H1 _ I1 q1) fun vl s2 ⟨l, H2, I2, pl, q2⟩ => thn (hu pins s2 σ H2 _ I2 q2) fun vu s3 ⟨u, H3, I3, pu, q3⟩ => ?_)
 rw [evalPart_none]
 refine CT ?_
 have I4 : Inv X pins σ H3 { s3 with heap := s3.heap.push { cls := .type "slice", data := .fields #[vl, vu, .none] } } := I3.kept (t' := s3.toks) fun b ob q => CW _ q
 obtain ⟨T, id, hT, ht, hg⟩ := hr pins { s3 with heap := s3.heap.push { cls := .type "slice", data := .fields #[vl, vu, .none] } } σ H3 x v vl vu l u s3.heap.objs.size Q I4 r1 (Heap.IsSliceOf.new ..) pl pu q3
 show wpAny (model X.prog X.w) X.A (subscriptTail e (.Slice lo hi none p2) v (.ref s3.heap.objs.size)) (EP X pins σ Q) X.xe { s3 with heap := s3.heap.push { cls := .type "slice", data := .fields #[vl, vu, .none] } }
 exact tail_any (ops := [.ref s3.heap.objs.size, v]) ht hT hg (by with_unfolding_all rfl)
def o8 (xs : List V) (lo hi : Option Int) : List V := (xs.drop (HT.sIx xs.length 0 lo)).take (HT.sIx xs.length xs.length hi - HT.sIx xs.length 0 lo)
theorem o7 (xs : List V) (lo hi : Option Int) : (o8 xs lo hi).length <= xs.length := by
 unfold o8
 rw [Dn, List.length_drop]
 omega
def Ct (K : Fg) : R2 := fun x y H Q => ∃ a b ns ms, x = .ref a /\ y = .ref b /\ SqT K H a (ns.map V.int) /\ SqT K H b (ms.map V.int) /\ Q (.bl (HT.lexLt ns ms)) H
theorem Av (hu : X.A.units < cLine) : OpR X (compareOp .Lt) (Ct X.K) := by
 intro pins s σ H x y v u Q I rx ry h
 obtain ⟨a, b, ns, ms, rfl, rfl, ha, hb, q⟩ := h
 cases rx
 cases ry
 obtain ⟨its, r1, p1, _⟩ := I.tuple ha
 obtain ⟨its2, r2, p2, _⟩ := I.tuple hb
 have i1 : IntsAre its.toArray.toList ns := j4 r1
 have i2 : IntsAre its2.toArray.toList ms := j4 r2
 exact HT.lt_tupInts p1 p2 i1 i2 hu ⟨.bl (HT.lexLt ns ms), H, I, rfl, q⟩
end
end L2
namespace L2
open PySem PySem.Spec PyProof.Rows
def ixN (n : Nat) (i : Int) : Option Nat := if 0 <= i then (if i < n then some i.toNat else none) else if -(n : Int) <= i then some (i + n).toNat else none
def atI {α : Type} (xs : List α) (i : Int) : Option α := (ixN xs.length i).bind fun j => xs[j]?
theorem uA {n : Nat} {i : Int} {j : Nat} (h : ixN n i = some j) : seqIndex? i n = some j /\ j < n /\ -(n : Int) <= i /\ i < n := by
 unfold ixN at h
 by_cases h0 : 0 <= i
 ·rw [if_pos h0] at h
  by_cases h1 : i < n
  ·rw [if_pos h1] at h
   have e : i.toNat = j := C8 h
   exact ⟨by rw [seqIndex_of h0 h1, e], by omega, by omega, h1⟩
  ·rw [if_neg h1] at h; cases h
 ·rw [if_neg h0] at h
  by_cases h1 : -(n : Int) <= i
  ·rw [if_pos h1] at h
   have e : (i + n).toNat = j := C8 h
   exact ⟨by rw [seqIndex_neg (by omega) h1, e], by omega, h1, by omega⟩
  ·rw [if_neg h1] at h; cases h
theorem vi {α : Type} {xs : List α} {i : Int} {v : α} (h : atI xs i = some v) : ∃ j, seqIndex? i xs.length = some j /\ xs[j]? = some v /\ j < xs.length /\ -(xs.length : Int) <= i /\ i < xs.length := by
 unfold atI at h
 cases e : ixN xs.length i with
 | none => rw [e] at h; cases h
 | some j =>
  rw [e] at h
  obtain ⟨h1, h2, h3, h4⟩ := uA e
  exact ⟨j, h1, h, h2, h3, h4⟩
theorem zp {α : Type} {xs : List α} {j : Nat} {v : α} (h : xs[j]? = some v) : atI xs (j : Int) = some v := by
 have hj : j < xs.length := (CY.mp h).1
 have e : ixN xs.length (j : Int) = some j := by
  unfold ixN
  rw [if_pos (by omega), if_pos (by omega)]; simp
 unfold atI; rw [e]; exact h
def zu (b : Expr) : Prop := ∀ o i, subscripted b false o i = operate [o, i] (getItem o i)
def IxR (X : Cx) (r : R2) : Prop :=
 ∀ (value slice : Expr) (pins : List (Addr × Obj)) (s : Shared) (σ : St) (H : Hp) (x y : V) (v u : Value) (Q : VK), Inv X pins σ H s -> bm x v -> bm y u -> r x y H Q ->
  subscripted slice false v u = operate [v, u] (getItem v u) -> wpAny (model X.prog X.w) X.A (subscriptTail value slice v u) (EP X pins σ Q) X.xe s
def MtR (X : Cx) (id : String) (r : V -> List V -> Hp -> VK -> Prop) : Prop :=
 ∀ (pins : List (Addr × Obj)) (s : Shared) (σ : St) (H : Hp) (x : V) (xs : List V) (v : Value) (us : List Value) (Q : VK), Inv X pins σ H s -> bm x v -> aV xs us -> r x xs H Q ->
  wpAny (model X.prog X.w) X.A (call (.builtin id) (v :: us)) (EP X pins σ Q) X.xe s
section
variable {X : Cx} {a b : Expr} {ta tb : TE} {pos : Pos}
theorem aL {r : R2} (hr : IxR X r) (ha : PE X a ta) (hb : PE X b tb) (hs : zu b) : PE X (.Subscript a b pos) (tOp r ta tb) := by
 intro pins s σ H Q I h
 exact Subscript_ (BU ha hb I h fun v u s2 x y H2 I2 rx ry q => hr a b pins s2 σ H2 x y v u Q I2 rx ry q (hs _ _))
def B8 (K : Fg) : R2 := fun x y H Q => ∃ p xs i v, x = .ref p /\ y = .int i /\ SqL K H p xs /\ atI xs i = some v /\ Q v H
def Cu (K : Fg) : R2 := fun x y H Q => ∃ p xs i v, x = .ref p /\ y = .int i /\ SqT K H p xs /\ atI xs i = some v /\ Q v H
theorem am : IxR X (B8 X.K) := by
 intro value slice pins s σ H x y v u Q I rx ry h hs
 obtain ⟨p, xs, i, z, rfl, rfl, hq, he, q⟩ := h
 cases rx
 obtain ⟨t, rfl⟩ := ry
 obtain ⟨its, r, pl, hz⟩ := I.list hq
 obtain ⟨j, h1, h2, h3, h4, h5⟩ := vi he
 obtain ⟨w, ew, rw'⟩ := r.get h2
 have hl := r.length
 have hn := pX
 have fin : EP X pins σ Q w s := ⟨z, H, I, rw', q⟩
 by_cases h0 : 0 <= i
 ·have hj : i.toNat = j := by
   rw [seqIndex_of h0 h5] at h1
   exact C8 h1
  exact item_listR pl.isList h0 (by omega) (by rw [hj]; simpa using ew) fin hs
 ·have hj : (i + (its.toArray.size : Int)).toNat = j := by
   rw [seqIndex_neg (by omega) h4] at h1
   rw [Dk, <- hl]
   exact C8 h1
  exact subscriptTail_builtinR (x := w) pl.isList.typeIs slot_list_getitem.lookup
   (wpAny_getItem_list_neg (Q := fun r s' => r = w /\ EP X pins σ Q r s') pl.isList (by omega) (by rw [Dk] <;> omega) (by omega) (by rw [hj]; simpa using ew) ⟨rfl, fin⟩) hs
theorem qd : IxR X (Cu X.K) := by
 intro value slice pins s σ H x y v u Q I rx ry h hs
 obtain ⟨p, xs, i, z, rfl, rfl, hq, he, q⟩ := h
 cases rx
 obtain ⟨t, rfl⟩ := ry
 obtain ⟨its, r, pl, hz⟩ := I.tuple hq
 obtain ⟨j, h1, h2, h3, h4, h5⟩ := vi he
 obtain ⟨w, ew, rw'⟩ := r.get h2
 have hl := r.length
 have hn := pX
 have fin : EP X pins σ Q w s := ⟨z, H, I, rw', q⟩
 exact subscriptTail_builtinR (x := w) pl.typeIs slot_tuple_getitem.lookup
  (getItem_tuple (j := j) (Q := fun r s' => r = w /\ EP X pins σ Q r s') pl (by omega) (by omega) (by rw [Dk, <- hl]; exact h1) (by simpa using ew) ⟨rfl, fin⟩) hs
theorem qI (its : List Value) (n j : Nat) (u : Value) : Obj.mapSeq (·.setIfInBounds j u) { cls := .type "list", data := .seq its.toArray n } = { cls := .type "list", data := .seq (its.set j u).toArray n } := by
 simp [Obj.mapSeq]
theorem Inv.lst {pins : List (Addr × Obj)} {σ : St} {H : Hp} {s : Shared} {p : Addr} {xs : List V} (I : Inv X pins σ H s) (h : H p = some (.lst xs)) :
  ∃ (its : List Value) (n : Nat), aV xs its /\ s.heap.get? p = some { cls := .type "list", data := .seq its.toArray n } /\ xs.length <= sizeLine := by
 obtain ⟨z, its, n, r, e⟩ := I.hok p _ h
 exact ⟨its, n, r, e, z⟩
theorem Inv.lstUpd {pins : List (Addr × Obj)} {σ : St} {H : Hp} {s : Shared} {p : Addr} {xs ys : List V} {its its' : List Value} {n n' : Nat} {f : Obj -> Obj} (I : Inv X pins σ H s) (h : H p = some (.lst xs))
  (ho : s.heap.get? p = some { cls := .type "list", data := .seq its.toArray n }) (hf : f { cls := .type "list", data := .seq its.toArray n } = { cls := .type "list", data := .seq its'.toArray n' }) (r : aV ys its') (hz : ys.length <= sizeLine) (t : Nat) :
  Inv X pins σ (upd H p (.lst ys)) { s with heap := s.heap.update p f, toks := t } := by
 have e : (s.heap.update p f).get? p = some { cls := .type "list", data := .seq its'.toArray n' } := by
  rw [Heap.get?_update_self f ho (by rw [hf] <;> rfl), hf]
 refine I.write (x := p) (e := p) (by rw [h]; trivial) (.inl rfl) (fun b u hb q => (Heap.get?_update_other _ _ (Ne.symm hb)).trans q) ⟨_, e⟩ ?_
 exact ⟨hz, its', n', r, e⟩
def rSetL : V -> V -> V -> Hp -> (Hp -> Prop) -> Prop := fun o i v H Q => ∃ p xs k j, o = .ref p /\ i = .int k /\ H p = some (.lst xs) /\ ixN xs.length k = some j /\ Q (upd H p (.lst (xs.set j v)))
theorem kJ : BX X rSetL := by
 intro pins s σ H o i v ov iv u Q I ro ri rv h
 obtain ⟨p, xs, k, j, rfl, rfl, hp, hj, q⟩ := h
 cases ro
 obtain ⟨t, rfl⟩ := ri
 obtain ⟨its, n, r, ho, hz⟩ := I.lst hp
 obtain ⟨h1, h2, h3, h4⟩ := uA hj
 have hl := r.length
 have hn := pX
 have I' : Inv X pins σ (upd H p (.lst (xs.set j v))) { s with heap := s.heap.update p (Obj.mapSeq (·.setIfInBounds j u)) } :=
  I.lstUpd hp ho (qI its n j u) (r.set rv j) (by rw [List.length_set]; exact hz) s.toks
 by_cases h0 : 0 <= k
 ·have hk : k.toNat = j := by
   rw [seqIndex_of h0 h4] at h1
   exact C8 h1
  exact PySem.W.ki_setAt ho h0 (by omega) (by rw [Dk, <- hl]; exact h4) (by rw [hk]; exact ⟨_, I', q⟩)
 ·have hk : (k + (its.toArray.size : Int)).toNat = j := by
   rw [seqIndex_neg (by omega) h3] at h1
   rw [Dk, <- hl]
   exact C8 h1
  exact PySem.W.ki_setBack ho (by omega) (by rw [Dk, <- hl]; exact h3) (by omega) (by rw [hk]; exact ⟨_, I', q⟩)
theorem me (lo hi : Option Int) (n : Nat) : (sliceBounds lo hi none n).1 = ((HT.sIx n 0 lo : Nat) : Int) /\ (sliceBounds lo hi none n).2.1 = ((HT.sIx n n hi : Nat) : Int) /\ (sliceBounds lo hi none n).2.2 = 1 := by
 refine ⟨?_, ?_, rfl⟩
 ·cases lo with
  | none => simp [sliceBounds, HT.sIx]
  | some i =>
   simp only [sliceBounds, HT.sIx, Option.getD_none, show (1 : Int) > 0 by decide, if_true]
   by_cases h : i < 0
   ·simp only [h, if_true] <;> omega
   ·simp only [h, if_false] <;> omega
 ·cases hi with
  | none => simp [sliceBounds, HT.sIx]
  | some i =>
   simp only [sliceBounds, HT.sIx, Option.getD_none, show (1 : Int) > 0 by decide, if_true]
   by_cases h : i < 0
   ·simp only [h, if_true] <;> omega
   ·simp only [h, if_false] <;> omega
theorem kI (its : List Value) (lo hi : Option Int) : slicePick its.toArray lo hi none = ((its.drop (HT.sIx its.length 0 lo)).take (HT.sIx its.length its.length hi - HT.sIx its.length 0 lo)).toArray := by
 obtain ⟨h1, h2, h3⟩ := me lo hi its.toArray.size
 unfold slicePick
 rw [h1, h2, h3]
 simp only [sliceRange_one, pick_run, Dk] <;> rfl
def B7 (K : Fg) : V -> Option Int -> Option Int -> Hp -> VK -> Prop := fun x lo hi H Q => ∃ a xs, x = .ref a /\ SqL K H a xs /\ ∀ p, H p = none -> Q (.ref p) (upd H p (.lst (o8 xs lo hi)))
theorem iI : SlR X (B7 X.K) := by
 intro pins s σ H x v vl vu lo hi sl Q I rx hs pl pu h
 obtain ⟨a, xs, rfl, hx, q⟩ := h
 cases rx
 obtain ⟨its, r, ht, hz⟩ := I.list hx
 have hlen := r.length
 refine ⟨"list", _, slot_list_getitem.lookup, ht.isList.typeIs, ?_⟩
 refine wpAny_getItem_list_slice ht.isList hs pl pu .none (by simp) ?_ (by rw [Dk] <;> omega)
 rw [kI, <- hlen]
 refine ⟨.ref s.heap.objs.size, _, I.laid (t' := s.toks) (o := .lst (o8 xs lo hi)) (fun b ob q => CW _ q) (C7 _) ?_, rfl, q _ (I.hok.fresh (C7 _))⟩
 exact ⟨Nat.le_trans (o7 xs lo hi) hz, _, 0, (r.drop (HT.sIx xs.length 0 lo)).take (HT.sIx xs.length xs.length hi - HT.sIx xs.length 0 lo), Di _ rfl⟩
def mW : V -> Bool
 | .non => true
 | .bl _ => true
 | .int _ => true
 | .str _ => true
 | _ => false
def eqV : V -> V -> Bool
 | .non, .non => true
 | .bl a, .bl b => a == b
 | .bl a, .int b => (if a then 1 else 0) == b
 | .int a, .bl b => a == (if b then 1 else 0)
 | .int a, .int b => a == b
 | .str a, .str b => a == b
 | _, _ => false
theorem AU {A : Around} {s : Shared} {y x : V} {u v : Value} (ry : bm y u) (rx : bm x v) (fy : mW y = true) (fx : mW x = true) : SeqAt.EqAt A s u v (eqV y x) := by
 cases y with
 | non =>
  cases ry
  cases x with
  | non => cases rx; exact SeqAt.EqAt.same _
  | bl b => cases rx; exact SeqAt.EqAt.none_bool b
  | int b => obtain ⟨t, rfl⟩ := rx; exact SeqAt.EqAt.none_int b t
  | str b => obtain ⟨t, rfl⟩ := rx; exact SeqAt.EqAt.none_str b t
  | _ => exact absurd (show false = true from fx) Dm
 | bl a =>
  cases ry
  cases x with
  | non => cases rx; exact SeqAt.EqAt.bool_none a
  | bl b => cases rx; exact SeqAt.EqAt.bool_bool a b
  | int b => obtain ⟨t, rfl⟩ := rx; exact SeqAt.EqAt.bool_int a b t
  | str b => obtain ⟨t, rfl⟩ := rx; exact SeqAt.EqAt.bool_str a b t
  | _ => exact absurd (show false = true from fx) Dm
 | int a =>
  obtain ⟨t', rfl⟩ := ry
  cases x with
  | non => cases rx; exact SeqAt.EqAt.int_none a t'
  | bl b => cases rx; exact SeqAt.EqAt.int_bool a t' b
  | int b => obtain ⟨t, rfl⟩ := rx; exact SeqAt.EqAt.int_int a t' b t
  | str b => obtain ⟨t, rfl⟩ := rx; exact SeqAt.EqAt.int_str a t' b t
  | _ => exact absurd (show false = true from fx) Dm
 | str a =>
  obtain ⟨t', rfl⟩ := ry
  cases x with
  | non => cases rx; exact SeqAt.EqAt.str_none a t'
  | bl b => cases rx; exact SeqAt.EqAt.str_bool a t' b
  | int b => obtain ⟨t, rfl⟩ := rx; exact SeqAt.EqAt.str_int a t' b t
  | str b => obtain ⟨t, rfl⟩ := rx; exact SeqAt.EqAt.str_str a t' b t
  | _ => exact absurd (show false = true from fx) Dm
 | _ => exact absurd (show false = true from fy) Dm
def eqU (x : V) (u : Value) : Bool := match u with
 | .none => eqV .non x
 | .bool b => eqV (.bl b) x
 | .int i _ => eqV (.int i) x
 | .str z _ => eqV (.str z) x
 | _ => false
theorem xH {x y : V} {u : Value} (r : bm y u) (f : mW y = true) : eqU x u = eqV y x := by
 cases y with
 | non => cases r; rfl
 | bl b => cases r; rfl
 | int i => obtain ⟨t, rfl⟩ := r; rfl
 | str z => obtain ⟨t, rfl⟩ := r; rfl
 | _ => exact absurd (show false = true from f) Dm
theorem pb {x : V} : ∀ {xs : List V} {us : List Value}, aV xs us -> xs.all mW = true -> us.any (eqU x) = xs.any fun y => eqV y x
 | _, _, .nil, _ => rfl
 | y :: xs, u :: us, .cons r t, f => by
  rw [List.all_cons, C4] at f
  rw [List.any_cons, List.any_cons, xH r f.1, pb t f.2]
theorem lr {A : Around} {s : Shared} {x : V} {v : Value} (rx : bm x v) (fx : mW x = true) : ∀ {xs : List V} {us : List Value}, aV xs us -> xs.all mW = true -> ∀ u ∈ us, SeqAt.EqAt A s u v (eqU x u)
 | _, _, .nil, _ => fun u hu => by cases hu
 | y :: xs, u :: us, .cons r t, f => fun u' hu => by
  rw [List.all_cons, C4] at f
  rcases C5.mp hu with rfl | hu
  ·rw [xH r f.1]; exact AU r rx f.1 fx
  ·exact lr rx fx t f.2 u' hu
def inV (x : V) (xs : List V) : Bool := xs.any fun y => eqV y x
def rIn (K : Fg) (neg : Bool) : R2 := fun x y H Q => ∃ p xs, y = .ref p /\ (SqL K H p xs ∨ SqT K H p xs) /\ mW x = true /\ xs.all mW = true /\ Q (.bl (if neg then !inV x xs else inV x xs)) H
theorem tN : OpR X (compareOp .In) (rIn X.K false) := by
 intro pins s σ H x y v u Q I rx ry h
 obtain ⟨p, xs, rfl, hq, fx, fs, q⟩ := h
 cases ry
 rcases hq with hq | hq
 ·obtain ⟨its, r, pl, hz⟩ := I.list hq
  refine SeqAt.in_listAt (eqU x) pl.isList (fun w hw => lr rx fx r fs w (by simpa using hw)) ⟨.bl _, H, I, rfl, ?_⟩
  rw [show its.toArray.any (eqU x) = its.any (eqU x) by simp, pb r fs]
  exact q
 ·obtain ⟨its, r, pl, hz⟩ := I.tuple hq
  refine SeqAt.in_tupleAt (eqU x) pl (fun w hw => lr rx fx r fs w (by simpa using hw)) ⟨.bl _, H, I, rfl, ?_⟩
  rw [show its.toArray.any (eqU x) = its.any (eqU x) by simp, pb r fs]
  exact q
theorem nh : eL X (.builtin "len") (fun xs H Q => ∃ p ys, xs = [.ref p] /\ (SqL X.K H p ys ∨ SqT X.K H p ys) /\ Q (.int ys.length) H) := by
 intro pins s σ H xs us Q I r h
 obtain ⟨p, ys, rfl, hq, q⟩ := h
 obtain ⟨u, rfl, rx⟩ := xU r
 cases rx
 have hn := pX
 rcases hq with hq | hq
 ·obtain ⟨its, r', pl, hz⟩ := I.list hq
  have hlen := r'.length
  exact Calls.call_len_list pl.isList (by simp only [Dk] <;> omega) ⟨.int ys.length, H, I.tok _, ⟨s.toks + 1, by rw [Dk, hlen]⟩, q⟩
 ·obtain ⟨its, r', pl, hz⟩ := I.tuple hq
  have hlen := r'.length
  exact len_tuple pl (by simp only [Dk] <;> omega) ⟨.int ys.length, H, I.tok _, ⟨s.toks + 1, by rw [Dk, hlen]⟩, q⟩
def tyV (K : Fg) (T : String) (x : V) (H : Hp) : Prop := match x with
 | .str _ => T = "str"
 | .int _ => T = "int"
 | .ref p => (T = "list" /\ ∃ xs, SqL K H p xs) ∨ (T = "tuple" /\ ∃ o, K.lookup p = some o /\ o.cls = .type "tuple" /\ o.dict = none) ∨
   (T = "dict" /\ ((∃ kvs, H p = some (.dK kvs)) ∨ ∃ kvs, H p = some (.dT kvs))) ∨ (T = "set" /\ ∃ S n, H p = some (.set S n))
 | _ => False
theorem zK {pins : List (Addr × Obj)} {σ : St} {H : Hp} {s : Shared} {T : String} {x : V} {v : Value} (I : Inv X pins σ H s) (r : bm x v) (ty : tyV X.K T x H) :
  s.TypeIs v T /\ ∀ a, v = .ref a -> ∃ ob, s.heap.get? a = some ob /\ ob.dict = none := by
 cases x with
 | str z =>
  obtain ⟨t, rfl⟩ := r
  cases (show T = "str" from ty)
  exact ⟨typeIs_str s z t, fun _ e => nomatch e⟩
 | int i =>
  obtain ⟨t, rfl⟩ := r
  cases (show T = "int" from ty)
  exact ⟨typeIs_int s i t, fun _ e => nomatch e⟩
 | ref p =>
  cases r
  rcases ty with ⟨rfl, xs, hq⟩ | ⟨rfl, o, hk, hc, hd⟩ | ⟨rfl, hk⟩ | ⟨rfl, S, n, hk⟩
  ·obtain ⟨its, _, pl, _⟩ := I.list hq
   refine ⟨pl.isList.typeIs, fun a e => ?_⟩
   cases e
   obtain ⟨o, n, e, c, hd, _⟩ := pl
   exact ⟨o, e, hd⟩
  ·refine ⟨⟨o, I.kIn p o hk, hc⟩, fun a e => ?_⟩
   cases e
   exact ⟨o, I.kIn _ o hk, hd⟩
  ·have z : ∃ o, s.heap.get? p = some o /\ o.ExactDict := by
    rcases hk with ⟨kvs, hk⟩ | ⟨kvs, hk⟩
    ·obtain ⟨_, _, _, _, o, _, _, e, ex, _⟩ := I.hok p _ hk
     exact ⟨o, e, ex⟩
    ·obtain ⟨_, _, _, _, o, _, _, e, ex, _⟩ := I.hok p _ hk
     exact ⟨o, e, ex⟩
   obtain ⟨o, e, ex⟩ := z
   refine ⟨⟨o, e, ex.1⟩, fun a e2 => ?_⟩
   cases e2
   exact ⟨o, e, ex.2.1⟩
  ·obtain ⟨o, _, _, _, e, ex, _⟩ := I.hok p _ hk
   refine ⟨⟨o, e, ex.1⟩, fun a e2 => ?_⟩
   cases e2
   exact ⟨o, e, ex.2.1⟩
 | _ => exact False.elim ty
def tBM (K : Fg) (T : String) (r : V -> List V -> Hp -> VK -> Prop) (to : TE) (t : TA) : TE := fun σ H Q => to σ H fun x H1 => tyV K T x H1 /\ t σ H1 fun xs H2 => r x xs H2 Q
variable {o e : Expr} {es : List Expr} {to : TE} {t : TA} {name : Str} {apos cpos : Pos} {T id : String} {r : V -> List V -> Hp -> VK -> Prop}
theorem jb (pa : PlainAttrs T) (slot : Slot T name id) (hty : typeOf (.builtin id) = pure (.type "method_descriptor")) (hm : MtR X id r) (ho : PE X o to) (ha : PA X (e :: es) t)
  (hbase : attributeBase o name X.env (eval o X.env) = eval o X.env := by rfl)
  (hfew : ((backTo cpos (starEach (e :: es) X.env)).all (fun x => !x.1) && (backToKw cpos (keywordEach [] X.env)).all (fun x => x.1.isSome)
   && decide ((e :: es).length + ([] : List Keyword).length + (if ([] : List Keyword).isEmpty then 0 else 1) < 30)) = true := by rfl)
  (hline : (apos.endLine == cpos.line) = true := by rfl) (hs : starEach (e :: es) X.env = (false, eval e X.env) :: starEach es X.env := by rfl) (hplain : (backTo cpos (starEach es X.env)).any (·.1) = false := by rfl) :
  PE X (.Call (.Attribute o name apos) (e :: es) [] cpos) (tBM X.K T r to t) := by
 intro pins s σ H Q I h
 refine wpAny_Call_method_late hbase hfew hline rfl (thn (ho pins s σ H _ I h) fun v s1 ⟨x, H1, I1, r1, ty, q1⟩ => ?_)
 obtain ⟨h1, h2⟩ := zK I1 r1 ty
 refine ⟨T, id, pa, slot, hty, h1, h2, ?_⟩
 have hA := ha cpos pins s1 σ H1 _ I1 q1
 rw [hs] at hA ⊢
 refine Calls.callWith_builtin (by show (false || (backTo cpos (starEach es X.env)).any (·.1)) = false; rw [hplain] <;> rfl) (Calls.evalArgs_plain ?_)
 exact thn hA fun us s2 ⟨vs, H2, I2, r2, q2⟩ => hm pins s2 σ H2 x vs v us Q I2 r1 r2 q2
end
end L2
namespace L2
open PySem PySem.Spec PyProof.Rows
def MtM (X : Cx) (id : String) (r : V -> List V -> Hp -> VK -> Prop) : Prop :=
 ∀ (pins : List (Addr × Obj)) (s : Shared) (σ : St) (H : Hp) (x : V) (xs : List V) (v : Value) (us : List Value) (Q : VK), Inv X pins σ H s -> bm x v -> aV xs us -> r x xs H Q ->
  wpAny (model X.prog X.w) X.A (call (.builtin id) (v :: us)) (EP X pins σ Q) X.xe s
theorem aV.one : ∀ {x : V} {us : List Value}, aV [x] us -> ∃ u, us = [u] /\ bm x u
 | _, _, .cons r .nil => ⟨_, rfl, r⟩
theorem aV.rep {xs : List V} {us : List Value} (h : aV xs us) : ∀ k : Nat, aV (List.replicate k xs).flatten (List.replicate k us).flatten
 | 0 => .nil
 | k + 1 => by
  rw [List.replicate_succ, List.replicate_succ, List.flatten_cons, List.flatten_cons]
  exact aV.append h (aV.rep h k)
theorem mV (its : List Value) : ∀ (k : Nat) (acc : List Value),
  List.foldl (fun x1 x2 => x1 ++ x2) acc.toArray (List.replicate k its.toArray) = (acc ++ (List.replicate k its).flatten).toArray
 | 0, acc => by simp
 | k + 1, acc => by
  have e : acc.toArray ++ its.toArray = (acc ++ its).toArray := by simp
  have e2 : (acc ++ its) ++ (List.replicate k its).flatten = acc ++ (List.replicate (k + 1) its).flatten := by
   rw [List.replicate_succ, List.flatten_cons, Dr]
  rw [<- e2, <- mV its k (acc ++ its), <- e, List.replicate_succ, List.foldl_cons]
section
variable {X : Cx} {pins : List (Addr × Obj)} {σ : St} {H : Hp} {s : Shared} {l b : Addr} {xs ys zs : List V}
theorem Inv.lset {its its' : List Value} {n : Nat} {f : Array Value -> Array Value} {t' : Nat} (I : Inv X pins σ H s) (hH : H l = some (.lst xs))
  (e : s.heap.get? l = some { cls := .type "list", data := .seq its.toArray n }) (hf : f its.toArray = its'.toArray) (hv : aV ys its') (hz : ys.length <= sizeLine) :
  Inv X pins σ (upd H l (.lst ys)) { s with heap := s.heap.update l (Obj.mapSeq f), toks := t' } := by
 have q := PySem.IsL.update e f
 rw [hf] at q
 refine I.write (x := l) (e := l) (by rw [hH]; exact trivial) (.inl rfl) (fun b' u hb hu => (Heap.get?_update_other s.heap (Obj.mapSeq f) (Ne.symm hb)).trans hu) ⟨_, q⟩ ?_
 exact ⟨hz, its', _, hv, q⟩
theorem Inv.lnew {its : List Value} {t' : Nat} (I : Inv X pins σ H s) (hv : aV ys its) (hz : ys.length <= sizeLine) :
  Inv X pins σ (upd H s.heap.objs.size (.lst ys)) { s with heap := s.heap.push { cls := .type "list", data := .seq its.toArray }, toks := t' } :=
 I.laid (fun _ _ q => CW _ q) (C7 _) ⟨hz, its, 0, hv, Di _ rfl⟩
theorem Inv.fresh (I : Inv X pins σ H s) : H s.heap.objs.size = none := I.hok.fresh (C7 _)
theorem Inv.lstM (I : Inv X pins σ H s) (hH : H l = some (.lst xs)) : xs.length <= sizeLine /\ ∃ (its : List Value) (n : Nat), aV xs its /\ xs.length = its.length /\ s.heap.get? l = some { cls := .type "list", data := .seq its.toArray n } := by
 obtain ⟨z, its, n, r, e⟩ := I.hok l _ hH
 exact ⟨z, its, n, r, r.length, e⟩
theorem pW {n : Nat} (h : n <= sizeLine) : Builtin.List.listTooLong n = false := by
 unfold Builtin.List.listTooLong
 exact C6 (by omega)
end
section
variable {X : Cx}
def rAppend : V -> List V -> Hp -> VK -> Prop := fun x vs H Q => ∃ l xs y, x = .ref l /\ vs = [y] /\ H l = some (.lst xs) /\ xs.length < sizeLine /\ Q .non (upd H l (.lst (xs ++ [y])))
theorem cy : MtM X "list.append" rAppend := by
 intro pins s σ H x vs v us Q I rx rv h
 obtain ⟨l, xs, y, rfl, rfl, hH, hz, q⟩ := h
 cases rx
 obtain ⟨u, rfl, ru⟩ := rv.one
 obtain ⟨z, its, n, r, hl, e⟩ := I.lstM hH
 refine call_meets F.slot_list_append ⟨_, e, rfl⟩ F.entry_list_append (F.args_list_append_2 _ _) (PySem.list_append l its.toArray n u (by rw [Dk]; omega)) ⟨e, ?_⟩
 refine ⟨.non, _, I.lset (its' := its ++ [u]) hH e (by simp) (r.append (.cons ru .nil)) ?_, rfl, q⟩
 rw [CV, List.length_singleton]
 omega
def rExtend : V -> List V -> Hp -> VK -> Prop := fun x vs H Q => ∃ l b xs zs, x = .ref l /\ vs = [.ref b] /\ H l = some (.lst xs) /\ H b = some (.lst zs) /\ xs.length + zs.length <= sizeLine /\ Q .non (upd H l (.lst (xs ++ zs)))
theorem dI : MtM X "list.extend" rExtend := by
 intro pins s σ H x vs v us Q I rx rv h
 obtain ⟨l, b, xs, zs, rfl, rfl, hH, hB, hz, q⟩ := h
 cases rx
 obtain ⟨u, rfl, ru⟩ := rv.one
 cases ru
 obtain ⟨z, its, n, r, hl, e⟩ := I.lstM hH
 obtain ⟨z2, its2, n2, r2, hl2, e2⟩ := I.lstM hB
 have hsz : its.toArray.size + its2.toArray.size <= sizeLine := by rw [Dk, Dk]; omega
 have hlong : ¬ (!its.toArray.isEmpty && Builtin.List.listTooLong (its.toArray.size + its2.toArray.size)) = true := by
  rw [pW hsz, Bool.and_false]
  exact Dm
 refine call_meets F.slot_list_extend ⟨_, e, rfl⟩ F.entry_list_extend (F.args_list_extend_2 _ _)
  (AutoSeq1.list_extend_list_list_0 l its.toArray n b its2.toArray n2 hlong (by rw [Dk]; omega) (by omega)) ⟨e, e2, ?_⟩
 refine ⟨.non, _, I.lset (its' := its ++ its2) hH e (by simp) (r.append r2) ?_, rfl, q⟩
 rw [CV]
 omega
def rCat : R2 := fun x y H Q => ∃ l b xs zs, x = .ref l /\ y = .ref b /\ H l = some (.lst xs) /\ H b = some (.lst zs) /\ xs.length + zs.length <= sizeLine /\ ∀ p, H p = none -> Q (.ref p) (upd H p (.lst (xs ++ zs)))
theorem jd : OpR X (binaryOp .Add) rCat := by
 intro pins s σ H x y v u Q I rx ry h
 obtain ⟨l, b, xs, zs, rfl, rfl, hH, hB, hz, q⟩ := h
 cases rx
 cases ry
 obtain ⟨z, its, n, r, hl, e⟩ := I.lstM hH
 obtain ⟨z2, its2, n2, r2, hl2, e2⟩ := I.lstM hB
 refine PySem.P.add_list e e2 ?_ (by rw [Dk, Dk]; omega)
 have ea : its.toArray ++ its2.toArray = (its ++ its2).toArray := by simp
 rw [ea]
 exact ⟨.ref _, _, I.lnew (t' := s.toks) (r.append r2) (by rw [CV]; omega), rfl, q _ I.fresh⟩
def rRep : R2 := fun x y H Q => ∃ l k xs, x = .ref l /\ y = .int k /\ H l = some (.lst xs) /\ -(2 ^ 63) <= k /\ k < 2 ^ 63 /\ xs.length * k.toNat <= sizeLine /\
 ∀ p, H p = none -> Q (.ref p) (upd H p (.lst (List.replicate k.toNat xs).flatten))
theorem yW {α : Type} (xs : List α) (k : Nat) : (List.replicate k xs).flatten.length = k * xs.length := by
 induction k with
 | zero => simp
 | succ k ih => rw [List.replicate_succ, List.flatten_cons, CV, ih, Nat.succ_mul, Nat.add_comm]
theorem mB : OpR X (binaryOp .Mult) rRep := by
 intro pins s σ H x y v u Q I rx ry h
 obtain ⟨l, k, xs, rfl, rfl, hH, h1, h2, hz, q⟩ := h
 cases rx
 obtain ⟨t, rfl⟩ := ry
 obtain ⟨z, its, n, r, hl, e⟩ := I.lstM hH
 have hlen : its.toArray.size * k.toNat <= sizeLine := by rw [Dk, <- hl]; exact hz
 have hcap : ¬ its.toArray.size * k.toNat > (2 ^ 63 - 1) / 8 := by
  have : (sizeLine : Nat) <= (2 ^ 63 - 1) / 8 := by decide
  omega
 have hfit : ¬ (!Builtin.List.listFitsIndex k) = true := by
  rw [fitsIndex_both h1 h2]
  exact Dm
 have hlong : ¬ Builtin.List.listTooLong (its.toArray.size * k.toNat) = true := by
  rw [pW hlen]
  exact Dm
 have hnew : List.foldl (fun x1 x2 => x1 ++ x2) #[] (List.replicate (if its.toArray.isEmpty = true then 0 else k.toNat) its.toArray) = (List.replicate k.toNat its).flatten.toArray := by
  have f0 : ∀ m : Nat, List.foldl (fun x1 x2 => x1 ++ x2) #[] (List.replicate m its.toArray) = (List.replicate m its).flatten.toArray := fun m => by
   have := mV its m []
   rw [List.nil_append] at this
   exact this
  rw [f0]
  cases its with
  | nil => simp
  | cons a r' => rw [if_neg (by simp)]
 refine wpAny_binaryOp_repeat_ref (T := "list") (U := "int") (by decide) ⟨_, e, rfl⟩ (fun s' => typeIs_int s' k t) noFill_list_mul F.fills_int_mul F.slot_int_rmul repeat_list F.slot_int_index.lookup
  (call_meets F.slot_int_rmul (typeIs_int s k t) F.entry_int_rmul (F.args_int_rmul_2 _ _) (int___rmul___int_list k t l its.toArray n)
   ⟨e, rfl, ⟨_, e, rfl⟩, call_meets F.slot_list_mul ⟨_, e, rfl⟩ F.entry_list_mul (F.args_list_mul_2 _ _) (AutoListH.list___mul___list_int_3 l its.toArray n k t hfit hcap hlong) ⟨e, ?_⟩⟩)
 rw [hnew]
 exact ⟨.ref _, _, I.lnew (t' := s.toks) (r.rep k.toNat) (by rw [yW, Nat.mul_comm]; exact hz), rfl, q _ I.fresh⟩
end
end L2
namespace L2
open PySem PySem.Spec PyProof.Rows
theorem aV.ints : ∀ {ns : List Int} {us : List Value}, aV (ns.map V.int) us -> IntsAre us ns
 | [], us, h => by
  rw [List.map_nil] at h
  cases h
  exact IntsAre.nil
 | n :: ns, us, h => by
  rw [List.map_cons] at h
  cases h with
  | cons r t =>
   obtain ⟨k, rfl⟩ := r
   exact IntsAre.cons n k (aV.ints t)
theorem dj : ∀ {us : List Value} {ns : List Int}, IntsAre us ns -> aV (ns.map V.int) us
 | _, _, .nil => by rw [List.map_nil]; exact Paired.nil
 | _, _, .cons n t h => by rw [List.map_cons]; exact Paired.cons (show bm (V.int n) (Value.int n t) from ⟨t, rfl⟩) (dj h)
theorem aV.bls : ∀ {bs : List Bool} {us : List Value}, aV (bs.map V.bl) us -> us = bs.map Value.bool
 | [], us, h => by
  rw [List.map_nil] at h
  cases h
  rfl
 | b :: bs, us, h => by
  rw [List.map_cons] at h
  cases h with
  | cons r t =>
   cases r
   rw [aV.bls t, List.map_cons]
theorem aV.ref1 {a : Addr} {us : List Value} (r : aV [V.ref a] us) : us = [Value.ref a] := by
 cases r with
 | cons r t =>
  cases t
  cases r
  rfl
section
variable {prog : Program} {w : World} {A : Around} {E : Value -> Shared -> Prop} {s : Shared} {l : Addr} {its : List Value} {ns : List Int} {Q : Value -> Shared -> Prop}
theorem x0 (hh : A.handled = none) (hl : s.heap.IsList l its.toArray) (hi : IntsAre its ns)
  (h : ∀ h' tk t', (∀ b o, s.heap.get? b = some o -> h'.get? b = some o) -> Q (.int ns.sum t') { s with heap := h', toks := tk }) : wpAny (model prog w) A (call (.builtin "sum") [.ref l]) Q E s := by
 obtain ⟨xs, e⟩ := hi.allInts.items
 have hn : numsOf (intItems xs).toList = ns := by rw [<- e]; exact hi.numsOf
 rw [nums_intItems] at hn
 rw [e] at hl
 refine PySem.sum_intListG hh hl fun h' tk t' hk => ?_
 have := h h' tk t' hk
 rw [preSum_eq, List.take_of_length_le (by simp), hn]; exact this
theorem yV (hh : A.handled = none) (hl : s.heap.IsList l its.toArray) (hi : IntsAre its ns) (hne : 0 < ns.length)
  (h : ∀ h' tk M t', (∀ b o, s.heap.get? b = some o -> h'.get? b = some o) -> M ∈ ns -> (∀ a, a ∈ ns -> a <= M) -> Q (.int M t') { s with heap := h', toks := tk }) : wpAny (model prog w) A (call (.builtin "max") [.ref l]) Q E s := by
 obtain ⟨xs, e⟩ := hi.allInts.items
 have hn : numsOf (intItems xs).toList = ns := by rw [<- e]; exact hi.numsOf
 rw [nums_intItems] at hn
 subst hn
 rw [e] at hl
 have hsz : 0 < xs.size := by simpa using hne
 refine PySem.max_intList hh hl hsz fun v h' tk hv hk => ?_
 obtain ⟨t, rfl⟩ := intItems_at hv
 obtain ⟨h1, h2⟩ := argBest_gt (numAt xs) (xs.size - 1)
 refine h h' tk _ t hk ?_ fun a ha => ?_
 ·rw [numAt_eq]; exact PySem.getD_mem (by rw [CP, Da]; omega)
 ·obtain ⟨j, hj, rfl⟩ := mem_getD ha
  rw [CP, Da] at hj
  rw [<- numAt_eq]; exact h2 j (by omega)
end
section
variable {X : Cx}
def Co (K : Fg) : List V -> Hp -> VK -> Prop := fun vs H Q => ∃ (a : Addr) (ns : List Int), vs = [V.ref a] /\ SqL K H a (ns.map V.int) /\ Q (.int ns.sum) H
def Cs (K : Fg) : List V -> Hp -> VK -> Prop := fun vs H Q => ∃ (a : Addr) (ns : List Int), vs = [V.ref a] /\ SqL K H a (ns.map V.int) /\ 0 < ns.length /\ ∀ m, m ∈ ns -> (∀ y, y ∈ ns -> y <= m) -> Q (.int m) H
theorem AX (hc : X.calm = true) : eL X (.builtin "sum") (Co X.K) := by
 intro pins s σ H vs us Q I r h
 obtain ⟨a, ns, rfl, hs, q⟩ := h
 obtain ⟨its, rv, hl, _⟩ := I.list hs
 rw [aV.ref1 r]
 exact x0 (I.ok.hd hc) hl.isList rv.ints fun h' tk t' hk => ⟨.int _, H, I.kept hk, ⟨_, rfl⟩, q⟩
theorem AY (hc : X.calm = true) : eL X (.builtin "max") (Cs X.K) := by
 intro pins s σ H vs us Q I r h
 obtain ⟨a, ns, rfl, hs, hne, q⟩ := h
 obtain ⟨its, rv, hl, _⟩ := I.list hs
 rw [aV.ref1 r]
 exact yV (I.ok.hd hc) hl.isList rv.ints hne fun h' tk m t' hk h1 h2 => ⟨.int _, H, I.kept hk, ⟨_, rfl⟩, q m h1 h2⟩
end
theorem wJ {prog : Program} {w : World} {A : Around} {E : Value -> Shared -> Prop} {s : Shared} {l : Addr} {items : Array Value} {Q : Value -> Shared -> Prop} (hl : s.heap.IsList l items)
  (h : ∀ s₂ : Shared, s₂ = { s with heap := s.heap.push { cls := .type "list_iterator", data := .fields #[.ref l, .int 0 0] } } ->
   (s₂.heap.IsListIter s.heap.objs.size l 0 /\ s₂.heap.IsList l items) -> l ≠ s.heap.objs.size -> Q (.ref s.heap.objs.size) s₂) : wpAny (model prog w) A (pyIter (.ref l)) Q E s := by
 have hlt : l < s.heap.objs.size := by obtain ⟨_, e, _⟩ := hl; exact Df e
 exact wpAny_pyIter_list hl (h _ rfl ⟨⟨_, Di _ rfl, rfl, rfl⟩, hl.push _⟩ (Ds hlt))
theorem nN {prog : Program} {w : World} {A : Around} {bs : List Bool} {its : List Value} (e : its = bs.map Value.bool) :
  TruthOf prog w A (fun i v => its.toArray[i]? = some v) (fun i => bs.getD i false) := fun i v s Q E hv hq => by
 have hv' : its[i]? = some v := by simpa using hv
 rw [e, C1] at hv'
 obtain ⟨b, hb, rfl⟩ := Option.map_eq_some_iff.mp hv'
 have hg : bs.getD i false = b := by rw [List.getD_eq_getElem?_getD, hb] <;> rfl
 have hq' : Q (bs.getD i false) s := hq
 rw [hg] at hq'
 exact wpAny_truthy_bool hq'
theorem vm : ∀ bs : List Bool, (List.range bs.length).any (fun i => bs.getD i false) = bs.any id
 | [] => rfl
 | b :: bs => by
  rw [CU, List.range_succ_eq_map, List.any_cons, List.any_map, List.any_cons, <- vm bs]
  all_goals rfl
theorem nF : ∀ bs : List Bool, (List.range bs.length).all (fun i => bs.getD i false) = bs.all id
 | [] => rfl
 | b :: bs => by
  rw [CU, List.range_succ_eq_map, List.all_cons, List.all_map, List.all_cons, <- nF bs]
  all_goals rfl
section
variable {X : Cx}
def Cy (K : Fg) : List V -> Hp -> VK -> Prop := fun vs H Q => ∃ (a : Addr) (bs : List Bool), vs = [V.ref a] /\ SqL K H a (bs.map V.bl) /\ Q (.bl (bs.all id)) H
theorem AZ (hc : X.calm = true) : eL X (.builtin "all") (Cy X.K) := by
 intro pins s σ H vs us Q I r h
 obtain ⟨a, bs, rfl, hs, q⟩ := h
 obtain ⟨its, rv, hl, _⟩ := I.list hs
 rw [aV.ref1 r]
 have hb := rv.bls
 refine call_all_walk (wJ hl.isList fun s₂ e2 st hne => ?_)
 subst e2
 refine ⟨_, _, _, _, _, _, _, rfl, Walks.list (A := X.A.in1) (I.ok.hd hc) _ a hne its.toArray, st, nN hb, fun h' tk hk => ?_⟩
 refine ⟨.bl _, H, I.kept fun b o eo => hk b o (fun hmem => ?_) (CW _ eo), ?_, q⟩
 ·rcases C5.mp hmem with e1 | hmem
  ·exact absurd (e1 ▸ Df eo) (Nat.lt_irrefl _)
  ·cases hmem
 ·show Value.bool _ = Value.bool _
  rw [<- nF, hb, Dk, CP]
end
mutual
inductive Dp (K : Fg) (H : Hp) : V -> PyData -> Prop
 | non : Dp K H .non .none
 | bl (b : Bool) : Dp K H (.bl b) (.bool b)
 | int (i : Int) : Dp K H (.int i) (.int i)
 | str (x : Str) : Dp K H (.str x) (.str x)
 | lst {a : Addr} {xs : List V} {ds : List PyData} : SqL K H a xs -> pc K H xs ds -> Dp K H (.ref a) (.list ds)
 | tup {a : Addr} {xs : List V} {ds : List PyData} : SqT K H a xs -> pc K H xs ds -> Dp K H (.ref a) (.tuple ds)
inductive pc (K : Fg) (H : Hp) : List V -> List PyData -> Prop
 | nil : pc K H [] []
 | cons {v : V} {vs : List V} {d : PyData} {ds : List PyData} : Dp K H v d -> pc K H vs ds -> pc K H (v :: vs) (d :: ds)
end
section
variable {X : Cx} {pins : List (Addr × Obj)} {σ : St} {H : Hp} {s : Shared}
mutual
theorem Dp.reads (I : Inv X pins σ H s) : ∀ (d : PyData) (v : V) (u : Value), Dp X.K H v d -> bm v u -> ∃ as, Reads s.heap u d as
 | .none, _, _, h, r => by
  cases h
  cases r
  exact ⟨_, Reads.none⟩
 | .bool b, _, _, h, r => by
  cases h
  cases r
  exact ⟨_, Reads.bool b⟩
 | .int i, _, _, h, r => by
  cases h
  obtain ⟨t, rfl⟩ := r
  exact ⟨_, Reads.int i t⟩
 | .str x, _, _, h, r => by
  cases h
  obtain ⟨t, rfl⟩ := r
  exact ⟨_, Reads.str x t⟩
 | .list ds, _, _, h, r => by
  cases h with
  | lst hs ha =>
   cases r
   obtain ⟨its, rv, ⟨o, n, ho, hc, _, hd⟩, _⟩ := I.list hs
   obtain ⟨as, hr⟩ := Dp.readsAll I ds _ its ha rv
   exact ⟨_, Reads.list ho hc hd hr⟩
 | .tuple ds, _, _, h, r => by
  cases h with
  | tup hs ha =>
   cases r
   obtain ⟨its, rv, ⟨o, ho, hc, n, hd⟩, _⟩ := I.tuple hs
   obtain ⟨as, hr⟩ := Dp.readsAll I ds _ its ha rv
   exact ⟨_, Reads.tuple ho hc hd hr⟩
 | .dict _, _, _, h, _ => by cases h
theorem Dp.readsAll (I : Inv X pins σ H s) : ∀ (ds : List PyData) (vs : List V) (us : List Value), pc X.K H vs ds -> aV vs us -> ∃ as, ReadsAll s.heap us ds as
 | [], _, _, h, r => by
  cases h
  cases r
  exact ⟨_, ReadsAll.nil⟩
 | d :: ds, _, _, h, r => by
  cases h with
  | cons h1 h2 =>
   cases r with
   | cons r1 r2 =>
    obtain ⟨as, q1⟩ := Dp.reads I d _ _ h1 r1
    obtain ⟨bs, q2⟩ := Dp.readsAll I ds _ _ h2 r2
    exact ⟨_, ReadsAll.cons q1 q2⟩
end
end
section
variable {X : Cx}
def Cw (K : Fg) : R2 := fun x y H Q => ∃ d e, Dp K H x d /\ Dp K H y e /\ SeqAt.shaped d = true /\ SeqAt.shaped e = true /\ Q (.bl (PyData.eqv d e)) H
def Cr (K : Fg) : R2 := fun x y H Q => ∃ d e, Dp K H x d /\ Dp K H y e /\ SeqAt.shaped d = true /\ SeqAt.shaped e = true /\ Q (.bl (!PyData.eqv d e)) H
theorem Ax (hu : X.A.units + 64 < cLine) : OpR X (compareOp .Eq) (Cw X.K) := by
 intro pins s σ H x y v u Q I rx ry h
 obtain ⟨d, e, hd, he, sd, se, q⟩ := h
 obtain ⟨as, r1⟩ := Dp.reads I d x v hd rx
 obtain ⟨bs, r2⟩ := Dp.reads I e y u he ry
 exact SeqAt.compareEq_shaped r1 r2 sd se hu ⟨.bl _, H, I, rfl, q⟩
theorem Aq (hu : X.A.units + 64 < cLine) : OpR X (compareOp .NotEq) (Cr X.K) := by
 intro pins s σ H x y v u Q I rx ry h
 obtain ⟨d, e, hd, he, sd, se, q⟩ := h
 obtain ⟨as, r1⟩ := Dp.reads I d x v hd rx
 obtain ⟨bs, r2⟩ := Dp.reads I e y u he ry
 exact SeqAt.compareNe_shaped r1 r2 sd se hu ⟨.bl _, H, I, rfl, q⟩
end
end L2
namespace L2
open PySem PySem.Spec PyProof.Rows
abbrev xS (h : Heap) (c : Addr) (v : Option Value) : Prop := h.IsCell c v
def Cn (scope sc : Scope) : Scope :=
 { scope with names := scope.names.map fun (n, k) => if (k == .free && sc.kind == .function && sc.names.lookup n == some .cell) then (n, .cell) else (n, k) }
def bb (cells : List (Str × Addr)) : List (Str × NameKind) -> List (Str × Addr) -> List (Str × Addr)
 | [], acc => acc
 | (n, k) :: r, acc => if k == .free then bb cells r ((n, (cells.lookup n).getD 0) :: acc) else bb cells r acc
theorem hZ (env : Env) (f : Str × NameKind -> List (Str × Addr) -> Sem (ForInStep (List (Str × Addr))))
  (hf : ∀ n k c, f (n, k) c = if k == .free then (do let a <- cellOf env n; pure (.yield ((n, a) :: c))) else pure (.yield c)) :
  ∀ (names : List (Str × NameKind)) (acc : List (Str × Addr)), (∀ y ∈ names, y.2 = .free -> ∃ c, env.cells.lookup y.1 = some c) -> forIn names acc f = pure (bb env.cells names acc)
 | [], acc, _ => by rw [List.forIn_nil]; rfl
 | (n, k) :: r, acc, h => by
  rw [List.forIn_cons, hf]
  have ih := fun acc => hZ env f hf r acc fun y hy => h y (C2 _ hy)
  unfold bb
  by_cases hk : (k == NameKind.free) = true
  ·rw [if_pos hk, if_pos hk]
   obtain ⟨c, hc⟩ := h (n, k) C3 (by simpa using hk)
   have e : cellOf env n = pure c := by unfold cellOf; rw [hc]
   rw [e]
   have e2 : (env.cells.lookup n).getD 0 = c := by rw [hc]; rfl
   rw [e2]
   exact ih _
  ·rw [if_neg hk, if_neg hk]
   exact ih _
theorem qX {scope : Scope} {env : Env} (h : ∀ y ∈ scope.names, y.2 = .free -> ∃ c, env.cells.lookup y.1 = some c) : closureFor scope env = pure (bb env.cells scope.names []) := by
 simp only [closureFor]
 rw [hZ env _ (fun n k c => rfl) scope.names [] h]
 rfl
theorem gN {α : Type} : ∀ {l : List (Str × α)} {n : Str} {c : α}, (n, c) ∈ l -> ∃ c', l.lookup n = some c'
 | (k, v) :: r, n, c, h => by
  rw [List.lookup_cons]
  cases hb : n == k with
  | true => exact ⟨_, rfl⟩
  | false =>
   rcases C5.mp h with e | h
   ·cases e; simp at hb
   ·exact gN h
theorem c8 {cells : List (Str × Addr)} : ∀ {names : List (Str × NameKind)} {acc : List (Str × Addr)} {n : Str} {c : Addr}, (n, c) ∈ bb cells names acc -> (n, c) ∈ acc ∨ ((n, .free) ∈ names /\ c = (cells.lookup n).getD 0)
 | [], _, _, _, h => .inl h
 | (m, k) :: r, acc, n, c, h => by
  unfold bb at h
  split at h
  ·rename_i hk
   have hk : k = .free := by simpa using hk
   rcases c8 h with h | ⟨h1, h2⟩
   ·rcases C5.mp h with e | h
    ·cases e; exact .inr ⟨hk ▸ C3, rfl⟩
    ·exact .inl h
   ·exact .inr ⟨C2 _ h1, h2⟩
  ·rcases c8 h with h | ⟨h1, h2⟩
   ·exact .inl h
   ·exact .inr ⟨C2 _ h1, h2⟩
theorem fG {cells : List (Str × Addr)} : ∀ {names : List (Str × NameKind)} {acc : List (Str × Addr)} {p : Str × Addr}, p ∈ acc -> p ∈ bb cells names acc
 | [], _, _, h => h
 | (m, k) :: r, acc, p, h => by
  unfold bb
  split
  ·exact fG (C2 _ h)
  ·exact fG h
theorem fE {cells : List (Str × Addr)} : ∀ {names : List (Str × NameKind)} {acc : List (Str × Addr)} {n : Str}, (n, .free) ∈ names -> (n, (cells.lookup n).getD 0) ∈ bb cells names acc
 | (m, k) :: r, acc, n, h => by
  unfold bb
  rcases C5.mp h with e | h
  ·cases e
   exact fG C3
  ·split
   ·exact fE h
   ·exact fE h
theorem dM : ∀ {names : List (Str × NameKind)} {h : Heap} {acc : List (Str × Addr)} {x : Str} {c : Addr}, (x, c) ∈ cellsFrom h.objs.size names acc ->
  (x, c) ∈ acc ∨ ((x, .cell) ∈ names /\ h.objs.size <= c /\ xS (pushCells h names) c none)
 | [], _, _, _, _, h => .inl h
 | (n, k) :: r, h, acc, x, c, hm => by
  unfold cellsFrom at hm
  unfold pushCells
  split at hm
  ·rename_i hk
   rw [if_pos hk]
   have hk : k = .cell := by simpa using hk
   rw [<- Heap.size_push h { cls := .type "cell", data := .cell none }] at hm
   rcases dM hm with hm | ⟨h1, h2, h3⟩
   ·rcases C5.mp hm with e | hm
    ·cases e
     exact .inr ⟨hk ▸ C3, C7 _, _, pushCells_keeps r _ _ _ (Di _ rfl), rfl⟩
    ·exact .inl hm
   ·rw [Heap.size_push] at h2
    exact .inr ⟨C2 _ h1, Nat.le_of_succ_le h2, h3⟩
  ·rename_i hk
   rw [if_neg hk]
   rcases dM hm with hm | ⟨h1, h2, h3⟩
   ·exact .inl hm
   ·exact .inr ⟨C2 _ h1, h2, h3⟩
theorem gp : ∀ {names : List (Str × NameKind)} {n : Nat} {acc : List (Str × Addr)} {p : Str × Addr}, p ∈ acc -> p ∈ cellsFrom n names acc
 | [], _, _, _, h => h
 | (m, k) :: r, n, acc, p, h => by
  unfold cellsFrom
  split
  ·exact gp (C2 _ h)
  ·exact gp h
theorem jy : ∀ {names : List (Str × NameKind)} {n : Nat} {acc : List (Str × Addr)} {x : Str}, (x, .cell) ∈ names -> ∃ c, (x, c) ∈ cellsFrom n names acc
 | (m, k) :: r, n, acc, x, h => by
  unfold cellsFrom
  rcases C5.mp h with e | h
  ·cases e
   exact ⟨n, gp C3⟩
  ·split
   ·exact jy h
   ·exact jy h
theorem jx : ∀ {names : List (Str × NameKind)} {h : Heap} {acc : List (Str × Addr)} {x y : Str} {c : Addr}, (∀ p ∈ acc, p.2 < h.objs.size) -> (∀ x y c, (x, c) ∈ acc -> (y, c) ∈ acc -> x = y) ->
  (x, c) ∈ cellsFrom h.objs.size names acc -> (y, c) ∈ cellsFrom h.objs.size names acc -> x = y
 | [], _, _, _, _, _, _, hi, h1, h2 => hi _ _ _ h1 h2
 | (n, k) :: r, h, acc, x, y, c, hl, hi, h1, h2 => by
  unfold cellsFrom at h1 h2
  split at h1
  ·rename_i hk
   rw [if_pos hk] at h2
   rw [<- Heap.size_push h { cls := .type "cell", data := .cell none }] at h1 h2
   refine jx (h := h.push _) (fun p hp => ?_) (fun x y c a b => ?_) h1 h2
   ·rw [Heap.size_push]
    rcases C5.mp hp with rfl | hp
    ·exact Nat.lt_succ_self _
    ·exact Nat.lt_succ_of_lt (hl p hp)
   ·rcases C5.mp a with e | a <;> rcases C5.mp b with e' | b
    ·cases e; cases e'; rfl
    ·cases e; exact absurd (hl _ b) (Nat.lt_irrefl _)
    ·cases e'; exact absurd (hl _ a) (Nat.lt_irrefl _)
    ·exact hi _ _ _ a b
  ·rename_i hk
   rw [if_neg hk] at h2
   exact jx hl hi h1 h2
theorem oP {M : Model} {A : Around} {E : Value -> Shared -> Prop} {s : Shared} {scope : Scope} {globals : Addr} {closure : List (Str × Addr)} {qual : Str} {func : Option Addr} {code : Value} {around : Env} {builtins : Addr} {Q : Env -> Shared -> Prop}
  (h : Q (newEnv scope s.heap.objs.size globals (cellsFrom (s.heap.objs.size + 1) scope.names closure) qual func code (some around) builtins)
   { s with heap := pushCells (s.heap.push { cls := .type "dict", data := .dict #[] }) scope.names }) :
  wpAny M A (newFunctionEnv scope globals closure [] qual func code (some around) builtins) Q E s := by
 simp only [newFunctionEnv, Option.isSome_some, if_true]
 refine CQ (wpAny_alloc ?_)
 refine CQ (wpAny_layCells _ (fun n k c => rfl) scope.names closure _ _ ?_)
 rw [show ({ s with heap := s.heap.push { cls := .type "dict", data := .dict #[] } } : Shared).heap.objs.size = s.heap.objs.size + 1 from Heap.size_push ..]
 rw [List.forIn_nil]
 exact CQ (CT (CT h))
theorem fq {sc : Scope} : ∀ {names : List (Str × NameKind)} {x : Str} {k : NameKind},
  (names.map fun (n, k) => if (k == NameKind.free && sc.kind == .function && sc.names.lookup n == some .cell) then (n, NameKind.cell) else (n, k)).lookup x = some k ->
  ∃ k', names.lookup x = some k' /\ (k = k' ∨ (k' = .free /\ k = .cell))
 | [], _, _, h => by simp at h
 | (n, k₀) :: r, x, k, h => by
  have ih := @fq sc r x k
  have h' : List.lookup x ((if (k₀ == NameKind.free && sc.kind == .function && sc.names.lookup n == some .cell) = true then (n, NameKind.cell) else (n, k₀)) :: (r.map _)) = some k := h
  cases hx : x == n with
  | true =>
   simp only [List.lookup_cons, hx]
   by_cases hc : (k₀ == NameKind.free && sc.kind == .function && sc.names.lookup n == some .cell) = true
   ·rw [if_pos hc] at h'
    simp only [List.lookup_cons, hx] at h'
    cases h'
    simp only [C4, beq_iff_eq] at hc
    exact ⟨k₀, rfl, .inr ⟨hc.1.1, rfl⟩⟩
   ·rw [if_neg hc] at h'
    simp only [List.lookup_cons, hx] at h'
    cases h'
    exact ⟨_, rfl, .inl rfl⟩
  | false =>
   simp only [List.lookup_cons, hx]
   by_cases hc : (k₀ == NameKind.free && sc.kind == .function && sc.names.lookup n == some .cell) = true
   ·rw [if_pos hc] at h'
    simp only [List.lookup_cons, hx] at h'
    exact ih h'
   ·rw [if_neg hc] at h'
    simp only [List.lookup_cons, hx] at h'
    exact ih h'
structure dQ (N : List Str) (sc scope : Scope) (own : List (Str × Nat)) : Prop where
 kind : scope.kind = .function
 uniq : ∀ y ∈ scope.names, scope.names.lookup y.1 = some y.2
 ix : ∀ p ∈ own, N[p.2]? = some p.1
 free : ∀ y ∈ scope.names, y.2 = .free -> sc.names.lookup y.1 = some .cell ∨ sc.names.lookup y.1 = some .free
 own : ∀ y ∈ scope.names, y.2 = .local ∨ y.2 = .cell -> y.1 ∈ own.map (·.1) ∨ y.1 ∉ N
def df (σ : St) : List Nat -> St
 | [] => σ
 | v :: vs => (df σ vs).set v none
theorem eT (σ : St) : ∀ vs : List Nat, (df σ vs).length = σ.length
 | [] => rfl
 | v :: vs => by unfold df; rw [List.length_set, eT σ vs]
theorem iC {σ : St} {i : Nat} {x : V} : ∀ {vs : List Nat}, (df σ vs)[i]? = some (some x) -> σ[i]? = some (some x) /\ i ∉ vs
 | [], h => ⟨h, by simp⟩
 | v :: vs, h => by
  unfold df at h
  by_cases hi : v = i
  ·subst hi
   by_cases hv : v < (df σ vs).length
   ·rw [List.getElem?_set_self hv] at h; cases h
   ·rw [List.getElem?_eq_none (by simpa using hv)] at h; cases h
  ·rw [List.getElem?_set_ne hi] at h
   obtain ⟨h1, h2⟩ := iC h
   exact ⟨h1, by simp only [C5, not_or]; exact ⟨fun e => hi e.symm, h2⟩⟩
abbrev Cx.blk (X : Cx) (s : Shared) (H : Hp) (scope : Scope) (cenv : Env) (fp : List Addr) : Cx := { X with s_0 := s, H_0 := H, env := cenv, outer := X.stack, ex := fp, fn := fun x => scope.names.lookup x == some .cell, pn := [], xe := fun _ _ => False }
section
variable {X : Cx} {pins : List (Addr × Obj)} {σ : St} {H : Hp} {s : Shared}
theorem o9 {scope : Scope} {own : List (Str × Nat)} {fp : List Addr} (I : Inv X pins σ H s) (ok : dQ X.N X.env.scope scope own) (hN : X.N.Nodup) (hfp : ∀ b ∈ fp, vt X pins H b /\ b < s.heap.objs.size) :
  Inv (X.blk s H scope (compEnvC scope (cellsFrom (s.heap.objs.size + 1) scope.names (bb X.env.cells scope.names [])) s.heap.objs.size X.env) fp) [] (df σ (own.map (·.2))) H { s with heap := pushCells (s.heap.push { cls := .type "dict", data := .dict #[] }) scope.names } := by
 have hfree : ∀ y ∈ scope.names, y.2 = .free -> ∃ c, X.env.cells.lookup y.1 = some c := fun y hy e => by
  rcases ok.free y hy e with k | k
  ·exact I.ok.has _ (.inl k)
  ·exact I.ok.has _ (.inr k)
 generalize hcenv : compEnvC scope (cellsFrom (s.heap.objs.size + 1) scope.names (bb X.env.cells scope.names [])) s.heap.objs.size X.env = cenv
 have kp : ∀ b o, s.heap.get? b = some o -> (pushCells (s.heap.push { cls := .type "dict", data := .dict #[] }) scope.names).get? b = some o := fun b o e => pushCells_keeps _ _ _ _ (CW _ e)
 have hL : cenv.locals = s.heap.objs.size := by rw [<- hcenv]; rfl
 have hcl : cenv.cells = cellsFrom (s.heap.objs.size + 1) scope.names (bb X.env.cells scope.names []) := by rw [<- hcenv]; rfl
 have hsc : cenv.scope = Cn scope X.env.scope := by rw [<- hcenv]; rfl
 rw [<- Heap.size_push s.heap { cls := .type "dict", data := .dict #[] }] at hcl
 have cm : ∀ {y c}, (y, c) ∈ bb X.env.cells scope.names [] -> X.env.cells.lookup y = some c /\ c < s.heap.objs.size := fun {y c} hm => by
  rcases c8 hm with hm | ⟨h1, rfl⟩
  ·cases hm
  ·obtain ⟨c, hc⟩ := hfree _ h1 rfl
   rw [hc]
   obtain ⟨w, z⟩ := I.cell _ _ hc
   exact ⟨rfl, z.lt⟩
 have mem : ∀ {y c}, cenv.cells.lookup y = some c -> (X.env.cells.lookup y = some c /\ c < s.heap.objs.size) ∨ (s.heap.objs.size + 1 <= c /\ xS (pushCells (s.heap.push { cls := .type "dict", data := .dict #[] }) scope.names) c none) := fun {y c} e => by
  rw [hcl] at e
  rcases dM (PySem.mem_of_lookup e) with hm | ⟨_, h2, h3⟩
  ·exact .inl (cm hm)
  ·rw [Heap.size_push] at h2; exact .inr ⟨h2, h3⟩
 have look : ∀ {y}, scope.names.lookup y = some .free -> ∃ c, cenv.cells.lookup y = some c /\ X.env.cells.lookup y = some c := fun {y} hl => by
  have hy : (y, NameKind.free) ∈ scope.names := PySem.mem_of_lookup hl
  obtain ⟨c', e'⟩ := gN (gp (names := scope.names) (n := (s.heap.push { cls := .type "dict", data := .dict #[] }).objs.size) (fE (cells := X.env.cells) (acc := []) hy))
  rw [<- hcl] at e'
  refine ⟨c', e', ?_⟩
  rw [hcl] at e'
  rcases dM (PySem.mem_of_lookup e') with hm | ⟨h1, _, _⟩
  ·exact (cm hm).1
  ·have := ok.uniq _ h1
   rw [hl] at this; cases this
 have okB : (X.blk s H scope cenv fp).Ok := by
  refine ⟨I.ok.mod, by show cenv.scope.kind = _; rw [hsc]; exact ok.kind, by show cenv.globals = _; rw [<- hcenv]; exact I.ok.glob, by show cenv.builtins = _; rw [<- hcenv]; exact I.ok.blt, by show s.heap.objs.size <= cenv.locals; rw [hL]; exact C7 _,
   fun y z c e1 e2 => ?_, fun y hy => ?_, fun y c z e => ?_, I.ok.hd, I.ok.frames, .inl rfl, fun b hb => ⟨?_, fun y c e z => ?_⟩, I.bs, Nat.le_trans I.ok.bsz I.sz, fun b o e hb => ?_, fun b hb z => ?_, I.stack, I.stkFree⟩
  ·have e1 : cenv.cells.lookup y = some c := e1
   have e2 : cenv.cells.lookup z = some c := e2
   rw [hcl] at e1 e2
   refine jx (fun p hp => ?_) (fun y z c a b => I.ok.inj y z c (cm a).1 (cm b).1) (PySem.mem_of_lookup e1) (PySem.mem_of_lookup e2)
   rw [Heap.size_push]
   exact Nat.lt_succ_of_lt (cm (y := p.1) (c := p.2) hp).2
  ·show ∃ c, cenv.cells.lookup y = some c
   have key : ∀ k, cenv.kindOf y = some k -> (k = .cell ∨ k = .free) -> ∃ c, cenv.cells.lookup y = some c := fun k hk hk' => by
    unfold Env.kindOf at hk
    rw [hsc] at hk
    obtain ⟨k', e, r⟩ := fq hk
    have : k' = .cell ∨ k' = .free := by
     rcases r with rfl | ⟨rfl, _⟩
     ·exact hk'
     ·exact .inr rfl
    rcases this with rfl | rfl
    ·obtain ⟨c, hm⟩ := jy (n := (s.heap.push { cls := .type "dict", data := .dict #[] }).objs.size) (acc := bb X.env.cells scope.names []) (PySem.mem_of_lookup e)
     obtain ⟨c', e'⟩ := gN hm
     exact ⟨c', by rw [hcl]; exact e'⟩
    ·obtain ⟨c, h1, _⟩ := look e
     exact ⟨c, h1⟩
   rcases hy with hy | hy
   ·exact key _ hy (.inl rfl)
   ·exact key _ hy (.inr rfl)
  ·have z : (scope.names.lookup y == some NameKind.cell) = true := z
   have z : scope.names.lookup y = some .cell := by simpa using z
   have e : cenv.cells.lookup y = some c := e
   rw [hcl] at e
   rcases dM (PySem.mem_of_lookup e) with hm | ⟨_, h2, _⟩
   ·rcases c8 hm with hm | ⟨h1, _⟩
    ·cases hm
    ·have q := ok.uniq _ h1
     rw [z] at q; cases q
   ·rw [Heap.size_push] at h2
    exact Nat.le_of_succ_le h2
  ·show b ≠ cenv.locals
   rw [hL]; exact Ds (hfp b hb).2
  ·have e : cenv.cells.lookup y = some c := e
   rcases mem e with ⟨h1, _⟩ | ⟨h1, _⟩
   ·exact (hfp b hb).1.2.2.2.2.1 y c h1 z
   ·have h2 : s.heap.objs.size + 1 <= b := by rw [<- z]; exact h1
    exact absurd (Dl (hfp b hb).2 (Nat.le_of_succ_le h2)) (Nat.lt_irrefl _)
  ·rcases (hfp b hb).1.2.2.2.1 with z | z
   ·exact I.ok.noex b o e z
   ·exact absurd (Dl (Df e) (Nat.le_trans I.ok.bsz z)) (Nat.lt_irrefl _)
  ·rcases C5.mp (I.stkSub b z) with z | z
   ·exact (hfp b hb).1.2.1 z
   ·exact (hfp b hb).1.2.2.1 z
 refine ⟨okB, rfl, I.bare, Un.kept kp, ⟨fun _ => none, ?_, fun i y av e1 e2 e3 => ?_⟩, fun y c e => ?_, ?_, fun y c e => ?_, fun p hp => ?_, I.hok.kept kp, by rw [eT]; exact I.len⟩
 ·show Heap.Ns _ cenv.locals _
  rw [hL]
  exact Heap.Ns.keeps (Heap.Ns.new ..) fun b o e => pushCells_keeps _ _ _ _ e
 ·obtain ⟨e2, hne⟩ := iC e2
  have hfr : scope.names.lookup y = some .free /\ (cenv.kindOf y = some .cell ∨ cenv.kindOf y = some .free) := by
   have key : ∀ k, cenv.scope.names.lookup y = some k -> k = .local ∨ k = .cell ∨ k = .free -> scope.names.lookup y = some .free /\ (cenv.kindOf y = some .cell ∨ cenv.kindOf y = some .free) := fun k hk hk' => by
    have hk0 := hk
    rw [hsc] at hk
    obtain ⟨k', e, r⟩ := fq hk
    have no : ¬ (k' = .local ∨ k' = .cell) := fun hh => by
     rcases ok.own _ (PySem.mem_of_lookup e) hh with e' | e'
     ·obtain ⟨p, hp, hpy⟩ := List.mem_map.mp e'
      have e3 := ok.ix p hp
      have : p.1 = y := hpy
      rw [this] at e3
      exact hne (List.mem_map.mpr ⟨p, hp, iy hN e3 e1⟩)
     ·exact e' (List.mem_of_getElem? e1)
    rcases r with rfl | ⟨rfl, rfl⟩
    ·rcases hk' with rfl | rfl | rfl
     ·exact absurd (.inl rfl) no
     ·exact absurd (.inr rfl) no
     ·exact ⟨e, .inr hk0⟩
    ·exact ⟨e, .inl hk0⟩
   have e3 : Vis cenv.scope y := e3
   rcases e3 with e3 | e3 | e3
   ·exact key _ e3 (.inl rfl)
   ·exact key _ e3 (.inr (.inl rfl))
   ·exact key _ e3 (.inr (.inr rfl))
  obtain ⟨m, hn, hl⟩ := I.loc
  have hvis : Vis X.env.scope y := (ok.free _ (PySem.mem_of_lookup hfr.1) rfl).elim (fun k => .inr (.inl k)) (fun k => .inr (.inr k))
  obtain ⟨w, r, q⟩ := hl i y av e1 e2 hvis
  refine ⟨w, r, .inr ⟨hfr.2, ?_⟩⟩
  obtain ⟨c, h1, h2⟩ := look hfr.1
  rcases q with ⟨k, _⟩ | ⟨_, c', e', z⟩
  ·have k : X.env.scope.names.lookup y = some .local := k
   rcases ok.free _ (PySem.mem_of_lookup hfr.1) rfl with k' | k' <;> rw [show X.env.scope.names.lookup y = _ from k'] at k <;> cases k
  ·rw [h2] at e'; cases e'
   exact ⟨c, h1, z.keeps kp⟩
 ·have e : cenv.cells.lookup y = some c := e
  rcases mem e with ⟨h1, _⟩ | ⟨_, z⟩
  ·obtain ⟨w, z⟩ := I.cell y c h1
   exact ⟨w, z.keeps kp⟩
  ·exact ⟨_, z⟩
 ·show H cenv.locals = none
  rw [hL]; exact I.hok.fresh (C7 _)
 ·have e : cenv.cells.lookup y = some c := e
  rcases mem e with ⟨h1, _⟩ | ⟨h1, _⟩
  ·exact I.freeC y c h1
  ·exact I.hok.fresh (Nat.le_of_succ_le h1)
 ·exact absurd (show p ∈ ([] : List (Addr × Obj)) ++ [] from hp) (by simp)
theorem Bg {E : Value -> Shared -> Prop} {D : Addr} {xs : List V} {y : V} {v : Value} {Q : Value -> Shared -> Prop} (I : Inv X pins σ H s) (hD : H D = some (.lst xs)) (hz : xs.length < sizeLine) (r : bm y v)
  (h : ∀ s', Inv X pins σ (upd H D (.lst (xs ++ [y]))) s' -> Q .none s') : wpAny (model X.prog X.w) X.A (call (.builtin "list.append") [.ref D, v]) Q E s := by
 obtain ⟨hz', its, n, ri, e⟩ := I.hok D _ hD
 have hl := ri.length
 refine append_at (hsz := by rw [Dk]; omega) e fun h' sb ho' => ?_
 refine h { s with heap := h' } (I.write (t' := s.toks) (by rw [hD]; trivial) (.inl rfl) (fun b u hb q => (sb.2 b hb).trans q) ⟨_, ho'⟩ ⟨by rw [CV]; exact hz, its ++ [v], n + 1, ri.append (.cons r .nil), ?_⟩)
 rw [ho']
 simp
def PTs (X : Cx) (ifs : List Expr) (t : TT) : Prop :=
 ∀ (pins : List (Addr × Obj)) (s : Shared) (σ : St) (H : Hp) (Q : Bool -> Hp -> Prop), Inv X pins σ H s -> t σ H Q ->
  wpAny (model X.prog X.w) X.A (forIn ifs true fun c r => if r = true then do let ok <- isTrue c X.env (eval c X.env); pure (ForInStep.yield ok) else pure (ForInStep.yield r)) (TP X pins σ Q) X.xe s
def tYes : TT := fun _ H Q => Q true H
theorem cu : PTs X [] tYes := fun _ _ _ H _ I h => wpAny_tests_nil ⟨H, I, h⟩
theorem oG {c : Expr} {t : TT} (h : PT X c t) : PTs X [c] t := fun pins s σ H Q I hw => wpAny_tests_one (h pins s σ H Q I hw)
end
theorem zA {α : Type} {t : Sem α} {Q Q' : α -> Shared -> Prop} {M : Model} {A : Around} {E : Value -> Shared -> Prop} {s : Shared} (h : wpAny M A t Q (fun _ _ => False) s) (hQ : ∀ a s, Q a s -> Q' a s) : wpAny M A t Q' E s := wpAny_mono h hQ fun _ _ z => False.elim z
theorem nc {prog : Program} {w : World} {A : Around} {R : Result -> Shared -> Prop} {s : Shared} {elt target iter : Expr} {ifs : List Expr} {scope : Scope} {pos : Pos} {it acc : Value} {env : Env} (I : Nat -> Shared -> Prop)
  (turn : ∀ n s, I n s -> wpAny (model prog w) A (pyNext it) (fun r s₁ => match r with
   | none => R (.ok .next) s₁
   | some v => wpAny (model prog w) A (letOwnedTupleGo target it v) (fun _ s₁' => wpAny (model prog w) A (assign target env v) (fun _ s₂ =>
     wpAny (model prog w) A (forIn ifs true fun c r => if r = true then do let ok <- isTrue c env (eval c env); pure (ForInStep.yield ok) else pure (ForInStep.yield r)) (fun ok s₃ =>
      if ok = true then wpAny (model prog w) A (eval elt env) (fun x s₄ =>
       wpAny (model prog w) A (call (.builtin "list.append") [acc, x]) (fun _ s₅ => ∃ m, m < n /\ I m s₅) (notedBy (model prog w) A env fun e s' => R (.error e) s') s₄) (notedBy (model prog w) A env fun e s' => R (.error e) s') s₃
      else ∃ m, m < n /\ I m s₃) (notedBy (model prog w) A env fun e s' => R (.error e) s') s₂) (notedBy (model prog w) A env fun e s' => R (.error e) s') s₁') (notedBy (model prog w) A env fun e s' => R (.error e) s') s₁) (notedBy (model prog w) A env fun e s' => R (.error e) s') s)
  (n : Nat) (h : I n s) :
  codeAny (model prog w) A (.compLoop (.ListComp elt [⟨target, iter, ifs, 0⟩] scope pos) 0 it acc env) R s := by
 refine codeAny_loop rfl I (fun n s hI => ?_) n h
 show wpAny _ A ((compTurn (.ListComp elt [⟨target, iter, ifs, 0⟩] scope pos) 0 it acc env).onRaise (fun x => do noteFrame x env; theTreesLotGoes x)) _ _ s
 refine wpAny_noted ?_
 rw [compTurn_list]
 refine CQ (wpAny_standAt (CQ (wpAny_mono (turn n s hI) (fun r s₁ h₁ => ?_) fun _ _ h' => h')))
 cases r with
 | none => exact CT h₁
 | some v =>
  refine CQ (wpAny_mono h₁ (fun _ s₁' h₁' => ?_) fun _ _ h' => h')
  refine CQ (wpAny_mono h₁' (fun _ s₂ h₂ => CQ (wpAny_mono h₂ (fun ok s₃ h₃ => ?_) fun _ _ h' => h')) fun _ _ h' => h')
  cases ok with
  | false => exact CT ⟨rfl, h₃⟩
  | true =>
   exact CQ (CQ (wpAny_mono h₃ (fun x s₄ h₄ => CQ (wpAny_mono h₄ (fun _ s₅ h₅ => CT (CT ⟨rfl, h₅⟩)) fun _ _ h' => h')) fun _ _ h' => h'))
section
variable {X : Cx}
def tLc (wi : TI) (g : TG) (tt : TT) (te : TE) (vs : List Nat) : TE := fun σ H Q => wi σ H fun J H1 => ∀ D, H1 D = none -> ∃ W : Nat -> Nat -> Hp -> Prop, (∃ m, W 0 m (upd H1 D (.lst []))) /\ ∀ i m H, W i m H ->
 (J.stop i H /\ Q (.ref D) H) ∨ (J.go i H /\ ∃ Nx : Hp -> Prop, (∀ H', Nx H' -> ∃ m', m' < m /\ W (i + 1) m' H') /\ ∀ x H', J.yld i H x H' -> g x (df σ vs) H' fun σ2 H2 => df σ2 vs = df σ vs /\ tt σ2 H2 fun b H3 =>
  if b = true then te σ2 H3 fun y H4 => ∃ acc, H4 D = some (.lst acc) /\ acc.length < sizeLine /\ Nx (upd H4 D (.lst (acc ++ [y]))) else Nx H3)
theorem uv {pins : List (Addr × Obj)} {s : Shared} {σ : St} {H : Hp} {Q : VK} {elt tg iter : Expr} {ifs : List Expr} {scope : Scope} {own : List (Str × Nat)} {pos pos' : Pos} {wi : TI} {g : TG} {tt : TT} {te : TE} {use : Option (Value -> Sem Unit)} {Qf : Value -> Shared -> Prop}
  (hc : X.calm = true) (hN : X.N.Nodup) (I : Inv X pins σ H s) (hi : PI X tg iter wi) (ok : dQ X.N X.env.scope scope own)
  (hg : ∀ (s : Shared) (H : Hp) (C : Addr) (cl : List (Str × Addr)) (fp : List Addr), PG (X.blk s H scope (compEnvC scope cl C X.env) fp) tg g) (ht : ∀ (s : Shared) (H : Hp) (C : Addr) (cl : List (Str × Addr)) (fp : List Addr), PTs (X.blk s H scope (compEnvC scope cl C X.env) fp) ifs tt)
  (he : ∀ (s : Shared) (H : Hp) (C : Addr) (cl : List (Str × Addr)) (fp : List Addr), PE (X.blk s H scope (compEnvC scope cl C X.env) fp) elt te) (hs : ∀ x, foldedSetIterable iter X.env x = pure x)
  (h : tLc wi g tt te (own.map (·.2)) σ H Q)
  (hRR : ∀ D C s' m H', Inv X pins σ H' s' -> Q (.ref D) H' -> s'.heap.Ns C m -> vt X pins H' C -> compPost (model X.prog X.w) X.A X.xe use Qf (.ref D) C (.ok .next) s') :
  wpAny (model X.prog X.w) X.A (comprehension (.ListComp elt [⟨tg, iter, ifs, 0⟩] scope pos) scope X.env pos' (newList []) false (eval iter X.env) use) Qf X.xe s := by
 have hfree : ∀ y ∈ scope.names, y.2 = .free -> ∃ c, X.env.cells.lookup y.1 = some c := fun y hy e => by
  rcases ok.free y hy e with k | k
  ·exact I.ok.has _ (.inl k)
  ·exact I.ok.has _ (.inr k)
 refine wpAny_comprehension_free (use := use) rfl hs (qX hfree) ok.kind (fun y hy e => by rw [ok.uniq y hy, e])
  (thn (hi pins s σ H _ I h) fun xv s1 hx => thn hx fun itv s2 h2 => ?_)
 obtain ⟨it, fp, tn, J, H2, e, I2, T, st2, f2, q⟩ := h2
 subst e
 refine wpAny_newObj_type (oP ?_) (by show 0 <= sizeLine; decide)
 generalize hD : s2.heap.objs.size = D
 have hDn : H2 D = none := I2.hok.fresh (Nat.le_of_eq hD)
 obtain ⟨W, ⟨m0, w0⟩, turn⟩ := q D hDn
 -- the new list
 generalize hs3 : ({ s2 with heap := s2.heap.push { cls := .type "list", data := .seq ([] : List Value).toArray } } : Shared) = s3
 have I3 : Inv X pins σ (upd H2 D (.lst [])) s3 := by
  rw [<- hs3]
  refine I2.laid (t' := s2.toks) (fun b o e => CW _ e) (Nat.le_of_eq hD) ⟨De _, [], 0, .nil, ?_⟩
  rw [<- hD]
  exact Di _ rfl
 have h3 : s3.heap = s2.heap.push { cls := .type "list", data := .seq ([] : List Value).toArray } := by rw [<- hs3]
 have sz : ∀ b ∈ fp, b < s2.heap.objs.size := fun b hb => by
  obtain ⟨o, e, _⟩ := T.obj _ _ st2 b hb
  exact Df e
 have f3 : ∀ b ∈ fp, vt X pins (upd H2 D (.lst [])) b /\ b < s3.heap.objs.size := fun b hb => by
  have hlt := sz b hb
  refine ⟨⟨?_, (f2 b hb).2⟩, by rw [h3, Heap.size_push]; exact Nat.lt_succ_of_lt hlt⟩
  rw [ag (by rw [<- hD]; exact Ds hlt)]
  exact (f2 b hb).1
 have st3 : tn 0 s3.heap := T.keep _ _ _ st2 fun b _ o e => by rw [h3]; exact CW _ e
 have I4 := o9 I3 ok hN f3
 have pg := hg s3 (upd H2 D (.lst [])) s3.heap.objs.size (cellsFrom (s3.heap.objs.size + 1) scope.names (bb X.env.cells scope.names [])) fp
 have pt := ht s3 (upd H2 D (.lst [])) s3.heap.objs.size (cellsFrom (s3.heap.objs.size + 1) scope.names (bb X.env.cells scope.names [])) fp
 have pe := he s3 (upd H2 D (.lst [])) s3.heap.objs.size (cellsFrom (s3.heap.objs.size + 1) scope.names (bb X.env.cells scope.names [])) fp
 show codeAny _ _ (.compStart (.ListComp elt [⟨tg, iter, ifs, 0⟩] scope pos) 0 (.ref it) (.ref D) (compEnvC scope (cellsFrom (s3.heap.objs.size + 1) scope.names (bb X.env.cells scope.names [])) s3.heap.objs.size X.env)) (compPost (model X.prog X.w) X.A X.xe use Qf (.ref D) s3.heap.objs.size) { s3 with heap := pushCells (s3.heap.push { cls := .type "dict", data := .dict #[] }) scope.names }
 have nfp : ∀ b ∈ fp, (upd H2 D (.lst [])) b = none := fun b hb => (f3 b hb).1.1
 generalize hce : compEnvC scope (cellsFrom (s3.heap.objs.size + 1) scope.names (bb X.env.cells scope.names [])) s3.heap.objs.size X.env = ce at I4 pg pt pe ⊢
 have cL : ce.locals = s3.heap.objs.size := by subst hce; rfl
 generalize hH3 : upd H2 D (.lst []) = H3 at I3 I4 pg pt pe w0 nfp f3
 generalize hs4 : ({ s3 with heap := pushCells (s3.heap.push { cls := .type "dict", data := .dict #[] }) scope.names } : Shared) = s4 at I4 ⊢
 have st4 : tn 0 s4.heap := T.keep _ _ _ st3 fun b _ o e => by rw [<- hs4]; exact pushCells_keeps _ _ _ _ (CW _ e)
 have stat : ∀ {σ' : St} {H' : Hp} {s' : Shared}, Inv (X.blk s3 H3 scope ce fp) [] σ' H' s' -> (∀ b ∈ fp, H' b = none) -> ∀ b ∈ fp, vt (X.blk s3 H3 scope ce fp) [] H' b := fun {σ' H' s'} I' hn b hb =>
  ⟨hn b hb, (I'.ok.exf b hb).1, I'.ok.exfs b hb, .inl hb, fun x c e => (I'.ok.exf b hb).2 x c e, fun p hp => absurd (show p ∈ ([] : List (Addr × Obj)) ++ [] from hp) (by simp)⟩
 have loop : codeAny (model X.prog X.w) X.A (.compLoop (.ListComp elt [⟨tg, iter, ifs, 0⟩] scope pos) 0 (.ref it) (.ref D) ce) (compPost (model X.prog X.w) X.A X.xe use Qf (.ref D) s3.heap.objs.size) s4 := by
  refine nc (fun n s' => ∃ i H', Inv (X.blk s3 H3 scope ce fp) [] (df σ (own.map (·.2))) H' s' /\ tn i s'.heap /\ (∀ b ∈ fp, H' b = none) /\ W i n H') ?_ m0 ⟨0, H3, I4, st4, nfp, w0⟩
  rintro n s5 ⟨i, H5, I5, st5, n5, w5⟩
  rcases turn i n H5 w5 with ⟨stop, qq⟩ | ⟨go, Nx, hNx, step⟩
  ·have td := T.done (X.blk s3 H3 scope ce fp) rfl rfl rfl hc i [] s5 _ H5 (fun _ _ => False) I5 (stat I5 n5) st5 stop
   refine zA td fun r s6 ⟨hr, I6⟩ => ?_
   subst hr
   -- back in the def's context
   have I7 : Inv X pins σ H5 s6 := I3.call' (ch := fp) I6.os I6.base I6.hok I6.bare fun b hb => ⟨(f3 b hb).1.2.2.2.1, (f3 b hb).1.2.1, (f3 b hb).1.2.2.2.2.1, (f3 b hb).1.2.2.2.2.2⟩
   have nC : H5 s3.heap.objs.size = none := by
    have z : H5 ce.locals = none := I6.free
    rw [cL] at z
    exact z
   obtain ⟨m, hn, _⟩ := I6.loc
   have hn : s6.heap.Ns ce.locals m := hn
   rw [cL] at hn
   exact hRR D s3.heap.objs.size s6 m H5 I7 qq hn (I3.fpOk (C7 _) nC)
  ·have ti := T.item (X.blk s3 H3 scope ce fp) rfl rfl rfl hc i [] s5 _ H5 (fun _ _ => False) I5 (stat I5 n5) st5 go
   refine zA ti fun r s6 ⟨u, hr, h6⟩ => ?_
   subst hr
   refine zA h6 fun _ s7 ⟨x, H7, I7, r7, y7, st7, n7⟩ => ?_
   have I7' := I7.pinned (stat I7 n7) (T.obj _ _ st7)
   refine zA (pg _ s7 _ H7 x u _ I7' r7 (step x H7 y7)) fun _ s8 ⟨σ8, H8, I8, hw8, q8⟩ => ?_
   refine zA (pt _ s8 σ8 H8 _ I8 q8) fun b s9 ⟨H9, I9, q9⟩ => ?_
   -- the turn's end
   have fin : ∀ {s' : Shared} {H' : Hp}, Inv (X.blk s3 H3 scope ce fp) ([] ++ mt fp s7.heap) σ8 H' s' -> Nx H' -> ∃ m, m < n /\ ∃ i H', Inv (X.blk s3 H3 scope ce fp) [] (df σ (own.map (·.2))) H' s' /\ tn i s'.heap /\ (∀ b ∈ fp, H' b = none) /\ W i m H' := fun {s' H'} I' nx => by
    obtain ⟨m', hm, w'⟩ := hNx H' nx
    have pin' : ∀ b ∈ fp, ∀ o, s7.heap.get? b = some o -> s'.heap.get? b = some o /\ H' b = none := fun b hb o e =>
     let z := I'.pin (b, o) (List.mem_append_right _ (List.mem_append_right _ (gM hb e)))
     ⟨z.1, z.2.1⟩
    have hl : (df σ (own.map (·.2))).length = σ8.length := by rw [<- hw8, eT]
    refine ⟨m', hm, i + 1, H', (I'.unpinned (pins := [])).weak hl (fun j v e => ?_), T.keep _ _ _ st7 fun b hb o e => (pin' b hb o e).1, fun b hb => ?_, w'⟩
    ·rw [<- hw8] at e
     exact (iC e).1
    ·obtain ⟨o, e, _⟩ := T.obj _ _ st7 b hb
     exact (pin' b hb o e).2
   cases b with
   | false =>
    simp only [Bool.false_eq_true, if_false] at q9 ⊢
    exact fin I9 q9
   | true =>
    simp only [if_true] at q9 ⊢
    refine zA (pe _ s9 σ8 H9 _ I9 q9) fun z s10 ⟨yv, H10, I10, r10, acc, hD10, hz10, nx⟩ => ?_
    exact Bg (X := X.blk s3 H3 scope ce fp) I10 hD10 hz10 r10 fun s11 I11 => fin I11 nx
 exact codeAny_compStart_list loop (T.self X.A 0 _ _ _ st4 loop)
theorem ja {elt tg iter : Expr} {ifs : List Expr} {scope : Scope} {own : List (Str × Nat)} {pos : Pos} {wi : TI} {g : TG} {tt : TT} {te : TE} (hc : X.calm = true) (hN : X.N.Nodup) (hi : PI X tg iter wi) (ok : dQ X.N X.env.scope scope own)
  (hg : ∀ (s : Shared) (H : Hp) (C : Addr) (cl : List (Str × Addr)) (fp : List Addr), PG (X.blk s H scope (compEnvC scope cl C X.env) fp) tg g) (ht : ∀ (s : Shared) (H : Hp) (C : Addr) (cl : List (Str × Addr)) (fp : List Addr), PTs (X.blk s H scope (compEnvC scope cl C X.env) fp) ifs tt)
  (he : ∀ (s : Shared) (H : Hp) (C : Addr) (cl : List (Str × Addr)) (fp : List Addr), PE (X.blk s H scope (compEnvC scope cl C X.env) fp) elt te) (hs : ∀ x, foldedSetIterable iter X.env x = pure x := by intro _; rfl) :
  PE X (.ListComp elt [⟨tg, iter, ifs, 0⟩] scope pos) (tLc wi g tt te (own.map (·.2))) := by
 intro pins s σ H Q I h
 rw [eval_ListComp]
 refine uv hc hN I hi ok hg ht he hs h fun D C s' m H' I' q hn f => ⟨m, hn, fun h'' sb => ?_⟩
 obtain ⟨f0, f1, f2, f3, f4, f5⟩ := f
 exact ⟨.ref D, H', I'.turned (t' := s'.toks) (fun b o hb e => (sb.2 b hb).trans e) f0 f1 f3 f4 f5, rfl, q⟩
theorem pN {i : Nat} {y : Str} {py : Pos} {elt tg iter : Expr} {ifs : List Expr} {scope : Scope} {own : List (Str × Nat)} {pos spos : Pos} {wi : TI} {g : TG} {tt : TT} {te : TE} (hc : X.calm = true) (hN : X.N.Nodup) (hy : X.N[i]? = some y) (hyl : X.env.scope.names.lookup y = some .local)
  (hsw : swapsWith (.ListComp elt [⟨tg, iter, ifs, 0⟩] scope pos) (some (.Name y py)) spos.line X.env = pure true) (hi : PI X tg iter wi) (ok : dQ X.N X.env.scope scope own)
  (hg : ∀ (s : Shared) (H : Hp) (C : Addr) (cl : List (Str × Addr)) (fp : List Addr), PG (X.blk s H scope (compEnvC scope cl C X.env) fp) tg g) (ht : ∀ (s : Shared) (H : Hp) (C : Addr) (cl : List (Str × Addr)) (fp : List Addr), PTs (X.blk s H scope (compEnvC scope cl C X.env) fp) ifs tt)
  (he : ∀ (s : Shared) (H : Hp) (C : Addr) (cl : List (Str × Addr)) (fp : List Addr), PE (X.blk s H scope (compEnvC scope cl C X.env) fp) elt te) (hs : ∀ x, foldedSetIterable iter X.env x = pure x := by intro _; rfl) :
  PS X (.Assign [.Name y py] (.ListComp elt [⟨tg, iter, ifs, 0⟩] scope pos) spos) (Bw (tLc wi g tt te (own.map (·.2))) (wP i)) := by
 intro pins s σ H D I h
 rw [exec_Assign_Name_used _ _ _ _ hsw]
 refine CQ (wpAny_standAt (CQ ?_))
 show wpAny _ X.A (do let _ <- comprehension (.ListComp elt [⟨tg, iter, ifs, 0⟩] scope pos) scope X.env (firstIterPos [⟨tg, iter, ifs, 0⟩] pos) (newList []) false (eval iter X.env) (some (assign (.Name y py) X.env))) _ _ s
 have h : tLc wi g tt te (own.map (·.2)) σ H (fun x H1 => wP i x σ H1 D.nx) := h
 refine CQ (thn (uv (Qf := fun _ s' => SP X pins D .next s') hc hN I hi ok hg ht he hs h fun L C s' m H' I' q hn f => ?_) fun _ s' hq => CT (CT hq))
 show wpAny _ _ (assign (.Name y py) X.env (.ref L)) _ _ _
 refine wpAny_assign_Name (l8 (v := V.ref L) I' hN hy (.inl hyl) rfl (fun s2 I2 ⟨a, sb, ha⟩ => ?_) (.inr hyl))
 obtain ⟨f0, f1, f2, f3, f4, f5⟩ := f
 have haC : C ≠ a := by
  rcases ha with z | z
  ·rw [z]; exact f1
  ·exact fun e => f4 y a z e.symm
 refine ⟨m, hn.sameBut sb haC, fun h3 sb3 => ?_⟩
 exact ⟨_, H', I2.turned (t' := s2.toks) (fun b o hb e => (sb3.2 b hb).trans e) f0 f1 f3 f4 f5, q⟩
end
theorem pY {lo : Int} {n : Nat} {g : TG} {tt : TT} {te : TE} {vs : List Nat} {σ : St} {H1 : Hp} {D : Addr} {Qd : Hp -> Prop} (Pv : Nat -> Hp -> Prop) (h0 : Pv 0 (upd H1 D (.lst [])))
  (hs : ∀ i H, i < n -> Pv i H -> g (.int (lo + i)) (df σ vs) H fun σ2 H2 => df σ2 vs = df σ vs /\ tt σ2 H2 fun b H3 =>
   if b = true then te σ2 H3 fun y H4 => ∃ acc, H4 D = some (.lst acc) /\ acc.length < sizeLine /\ Pv (i + 1) (upd H4 D (.lst (acc ++ [y]))) else Pv (i + 1) H3) (hd : ∀ H, Pv n H -> Qd H) :
  ∃ W : Nat -> Nat -> Hp -> Prop, (∃ m, W 0 m (upd H1 D (.lst []))) /\ ∀ i m H, W i m H ->
   ((Itr lo n).stop i H /\ Qd H) ∨ ((Itr lo n).go i H /\ ∃ Nx : Hp -> Prop, (∀ H', Nx H' -> ∃ m', m' < m /\ W (i + 1) m' H') /\ ∀ x H', (Itr lo n).yld i H x H' -> g x (df σ vs) H' fun σ2 H2 => df σ2 vs = df σ vs /\ tt σ2 H2 fun b H3 =>
    if b = true then te σ2 H3 fun y H4 => ∃ acc, H4 D = some (.lst acc) /\ acc.length < sizeLine /\ Nx (upd H4 D (.lst (acc ++ [y]))) else Nx H3) := by
 refine ⟨fun i m H => m = n - i /\ i <= n /\ Pv i H, ⟨n, by simp, De _, h0⟩, ?_⟩
 rintro i m H ⟨rfl, hi, p⟩
 by_cases hlt : i < n
 ·refine .inr ⟨hlt, Pv (i + 1), fun H' p' => ⟨n - (i + 1), by omega, rfl, hlt, p'⟩, fun x H' y => ?_⟩
  obtain ⟨e, y⟩ := y
  subst e y
  exact hs i _ hlt p
 ·have e : i = n := by omega
  subst e
  exact .inl ⟨C7 _, hd H p⟩
theorem cV {K : Fg} {a : Addr} {xs : List V} {g : TG} {tt : TT} {te : TE} {vs : List Nat} {σ : St} {H1 : Hp} {D : Addr} {Qd : Hp -> Prop} (Pv : Nat -> Hp -> Prop) (h0 : Pv 0 (upd H1 D (.lst []))) (hl : ∀ i H, i <= xs.length -> Pv i H -> SqL K H a xs)
  (hs : ∀ i x H, xs[i]? = some x -> Pv i H -> g x (df σ vs) H fun σ2 H2 => df σ2 vs = df σ vs /\ tt σ2 H2 fun b H3 =>
   if b = true then te σ2 H3 fun y H4 => ∃ acc, H4 D = some (.lst acc) /\ acc.length < sizeLine /\ Pv (i + 1) (upd H4 D (.lst (acc ++ [y]))) else Pv (i + 1) H3) (hd : ∀ H, Pv xs.length H -> Qd H) :
  ∃ W : Nat -> Nat -> Hp -> Prop, (∃ m, W 0 m (upd H1 D (.lst []))) /\ ∀ i m H, W i m H ->
   ((Itl K a).stop i H /\ Qd H) ∨ ((Itl K a).go i H /\ ∃ Nx : Hp -> Prop, (∀ H', Nx H' -> ∃ m', m' < m /\ W (i + 1) m' H') /\ ∀ x H', (Itl K a).yld i H x H' -> g x (df σ vs) H' fun σ2 H2 => df σ2 vs = df σ vs /\ tt σ2 H2 fun b H3 =>
    if b = true then te σ2 H3 fun y H4 => ∃ acc, H4 D = some (.lst acc) /\ acc.length < sizeLine /\ Nx (upd H4 D (.lst (acc ++ [y]))) else Nx H3) := by
 refine ⟨fun i m H => m = xs.length - i /\ i <= xs.length /\ Pv i H, ⟨xs.length, by simp, De _, h0⟩, ?_⟩
 rintro i m H ⟨rfl, hi, p⟩
 have q := hl i H hi p
 by_cases hlt : i < xs.length
 ·refine .inr ⟨⟨xs, xs[i], q, by simp [hlt]⟩, Pv (i + 1), fun H' p' => ⟨xs.length - (i + 1), by omega, rfl, hlt, p'⟩, fun x H' y => ?_⟩
  obtain ⟨e, y⟩ := y
  subst e
  exact hs i x _ (y xs q) p
 ·have e : i = xs.length := by omega
  subst e
  exact .inl ⟨⟨xs, q, C7 _⟩, hd H p⟩
end L2
namespace L2
open PySem PySem.Spec PyProof.Rows
section
variable {κ : Type} [DecidableEq κ]
def eJ (kvs : List (κ × V)) (k : κ) : Option V := (kvs.find? fun kv => decide (kv.1 = k)).map (·.2)
def gy (kvs : List (κ × V)) (k : κ) (v : V) : List (κ × V) :=
 if (kvs.any fun kv => decide (kv.1 = k)) = true then kvs.map (fun kv => if kv.1 = k then (kv.1, v) else kv) else kvs ++ [(k, v)]
theorem bw {p : κ × V} {r : List (κ × V)} {k : κ} (e : p.1 = k) : eJ (p :: r) k = some p.2 := by simp [eJ, List.find?_cons, e]
theorem bx {p : κ × V} {r : List (κ × V)} {k : κ} (e : ¬ p.1 = k) : eJ (p :: r) k = eJ r k := by simp [eJ, List.find?_cons, e]
theorem im (k : κ) : ∀ kvs : List (κ × V), (kvs.any fun kv => decide (kv.1 = k)) = (eJ kvs k).isSome
 | [] => rfl
 | p :: r => by
  rw [List.any_cons]
  by_cases e : p.1 = k
  ·simp only [bw e, C0 e, Bool.true_or, Option.isSome_some]
  ·rw [bx e, C6 e, Bool.false_or]; exact im k r
theorem pf (k j : κ) (y : V) : ∀ kvs : List (κ × V), eJ (kvs.map fun kv => if kv.1 = k then (kv.1, y) else kv) j = (eJ kvs j).map fun x => if j = k then y else x
 | [] => rfl
 | p :: r => by
  have ih := pf k j y r
  rw [List.map_cons]
  by_cases h : p.1 = k
  ·rw [if_pos h]
   by_cases e : p.1 = j
   ·rw [bw (p := (p.1, y)) e, bw e, Option.map_some, if_pos (e.symm.trans h)]
   ·rw [bx (p := (p.1, y)) e, bx e, ih]
  ·rw [if_neg h]
   by_cases e : p.1 = j
   ·rw [bw (p := p) e, bw e, Option.map_some, if_neg (fun z => h (e.trans z))]
   ·rw [bx (p := p) e, bx e, ih]
theorem lX (k j : κ) (y : V) : ∀ kvs : List (κ × V), eJ kvs k = none -> eJ (kvs ++ [(k, y)]) j = if j = k then some y else eJ kvs j
 | [], _ => by
  by_cases e : k = j
  ·rw [if_pos e.symm]; exact bw (p := (k, y)) e
  ·rw [if_neg (fun z => e z.symm)]; exact bx (p := (k, y)) e
 | p :: r, hn => by
  rw [List.cons_append]
  have hk : ¬ p.1 = k := fun z => by rw [bw z] at hn; cases hn
  rw [bx hk] at hn
  have ih := lX k j y r hn
  by_cases e : p.1 = j
  ·rw [bw e, bw e, if_neg (fun z => hk (e.trans z))]
  ·rw [bx e, bx e, ih]
theorem cG (kvs : List (κ × V)) (k j : κ) (y : V) : eJ (gy kvs k y) j = if j = k then some y else eJ kvs j := by
 unfold gy
 by_cases a : (kvs.any fun kv => decide (kv.1 = k)) = true
 ·rw [if_pos a, pf]
  rw [im] at a
  by_cases e : j = k
  ·obtain ⟨x, hx⟩ := Option.isSome_iff_exists.mp a
   rw [if_pos e, e, hx, Option.map_some, if_pos rfl]
  ·rw [if_neg e]
   cases eJ kvs j with
   | none => rfl
   | some x => rw [Option.map_some, if_neg e]
 ·rw [if_neg a]
  refine lX k j y kvs ?_
  rw [im] at a
  cases q : eJ kvs k with
  | none => rfl
  | some x => rw [q] at a; exact (a rfl).elim
theorem ji (kvs : List (κ × V)) (k : κ) (v : V) : (gy kvs k v).length <= kvs.length + 1 := by
 unfold gy
 split
 ·rw [CP]; omega
 ·rw [CV, CU, List.length_nil]; omega
theorem lQ.isSome_eq {o : Option V} {u : Option Value} (r : lQ o u) : o.isSome = u.isSome := by
 cases o with
 | none => cases u with
  | none => rfl
  | some _ => exact (show False from r).elim
 | some _ => cases u with
  | none => exact (show False from r).elim
  | some _ => rfl
theorem KV.val {kvs : List (κ × V)} {vs : List (κ × Value)} (r : KV kvs vs) (k : κ) : lQ (eJ kvs k) (valueAt vs k) := by
 unfold KV at r
 induction r with
 | nil => exact True.intro
 | @cons p q ps qs h t ih =>
  obtain ⟨h1, h2⟩ := h
  by_cases e : p.1 = k
  ·have e' : q.1 = k := h1.symm.trans e
   have b : valueAt (q :: qs) k = some q.2 := by simp [valueAt, List.find?_cons, e']
   rw [bw e, b]; exact h2
  ·have e' : ¬ q.1 = k := fun z => e (h1.trans z)
   have b : valueAt (q :: qs) k = valueAt qs k := by simp [valueAt, List.find?_cons, e']
   rw [bx e, b]; exact ih
theorem KV.any {kvs : List (κ × V)} {vs : List (κ × Value)} (r : KV kvs vs) (k : κ) : (kvs.any fun kv => decide (kv.1 = k)) = vs.any fun kv => decide (kv.1 = k) := by
 unfold KV at r
 induction r with
 | nil => rfl
 | cons h t ih => rw [List.any_cons, List.any_cons, ih, h.1]
theorem KV.repl {kvs : List (κ × V)} {vs : List (κ × Value)} (r : KV kvs vs) (k : κ) {y : V} {u : Value} (ry : bm y u) :
  KV (kvs.map fun kv => if kv.1 = k then (kv.1, y) else kv) (vs.map fun kv => if kv.1 = k then (kv.1, u) else kv) := by
 unfold KV at r ⊢
 induction r with
 | nil => exact .nil
 | @cons p q ps qs h t ih =>
  rw [List.map_cons, List.map_cons]
  refine .cons ?_ ih
  obtain ⟨h1, h2⟩ := h
  by_cases e : p.1 = k
  ·rw [if_pos e, if_pos (h1.symm.trans e)]; exact ⟨h1, ry⟩
  ·rw [if_neg e, if_neg (fun z => e (h1.trans z))]; exact ⟨h1, h2⟩
theorem KV.put {kvs : List (κ × V)} {vs : List (κ × Value)} (r : KV kvs vs) (k : κ) {y : V} {u : Value} (ry : bm y u) : KV (gy kvs k y) (stored vs k u) := by
 unfold gy stored
 rw [r.any k]
 by_cases e : (vs.any fun kv => decide (kv.1 = k)) = true
 ·rw [if_pos e, if_pos e]; exact r.repl k ry
 ·rw [if_neg e, if_neg e]; exact Paired.snoc r ⟨rfl, ry⟩
theorem KV.length {kvs : List (κ × V)} {vs : List (κ × Value)} (r : KV kvs vs) : kvs.length = vs.length := Paired.length r
end
theorem wI {P : Program} {w : World} {k : Key} {u : Value} (r : bm (kV k) u) : (bN P w).is k u = true := by
 cases k with
 | inl i => obtain ⟨t, e⟩ := (show ∃ t, u = Value.int i t from r); subst e; exact oS P w i t
 | inr x => obtain ⟨t, e⟩ := (show ∃ t, u = Value.str x t from r); subst e; exact oQ P w x t
theorem mG {P : Program} {w : World} : ∀ {ks : List Key} {us : List Value}, aV (ks.map kV) us -> ItemsAre (bN P w) ks us
 | [], _, r => by rw [List.map_nil] at r; cases r; exact .nil
 | k :: ks, _, r => by
  rw [List.map_cons] at r
  cases r with
  | cons h t => exact .cons (wI h) (mG t)
abbrev KT (H : Hp) : List (List Key × V) -> List (List Key × Addr × Value) -> Prop := Paired fun p q => p.1 = q.1 /\ H q.2.1 = some (.tup (p.1.map kV)) /\ bm p.2 q.2.2
theorem KT.val {H : Hp} {kvs : List (List Key × V)} {xs : List (List Key × Addr × Value)} (r : KT H kvs xs) (k : List Key) : lQ (eJ kvs k) ((atKey xs k).map (·.2)) := by
 induction r with
 | nil => exact True.intro
 | @cons p q ps qs h t ih =>
  obtain ⟨h1, _, h2⟩ := h
  by_cases e : p.1 = k
  ·have e' : q.1 = k := h1.symm.trans e
   have b : atKey (q :: qs) k = some q.2 := by simp [atKey, List.find?_cons, e']
   rw [bw e, b]; exact h2
  ·have e' : ¬ q.1 = k := fun z => e (h1.trans z)
   have b : atKey (q :: qs) k = atKey qs k := by simp [atKey, List.find?_cons, e']
   rw [bx e, b]; exact ih
theorem KT.repl {H : Hp} {kvs : List (List Key × V)} {xs : List (List Key × Addr × Value)} (r : KT H kvs xs) (k : List Key) {y : V} {u : Value} (ry : bm y u) :
  KT H (kvs.map fun kv => if kv.1 = k then (kv.1, y) else kv) (xs.map (putAt k u)) := by
 induction r with
 | nil => exact .nil
 | @cons p q ps qs h t ih =>
  rw [List.map_cons, List.map_cons]
  refine .cons ?_ ih
  obtain ⟨h1, h2, h3⟩ := h
  unfold putAt
  by_cases e : p.1 = k
  ·rw [if_pos e, if_pos (h1.symm.trans e)]; exact ⟨h1, h2, ry⟩
  ·rw [if_neg e, if_neg (fun z => e (h1.trans z))]; exact ⟨h1, h2, h3⟩
theorem KT.put {H : Hp} {kvs : List (List Key × V)} {xs : List (List Key × Addr × Value)} (r : KT H kvs xs) (k : List Key) {b : Addr} {y : V} {u : Value} (hb : H b = some (.tup (k.map kV))) (ry : bm y u) :
  KT H (gy kvs k y) (storedH xs k b u) := by
 have e : (kvs.any fun kv => decide (kv.1 = k)) = (atKey xs k).isSome := by
  rw [im, (r.val k).isSome_eq, Option.isSome_map]
 unfold gy storedH
 rw [e]
 by_cases q : (atKey xs k).isSome = true
 ·rw [if_pos q, if_pos q]; exact r.repl k ry
 ·rw [if_neg q, if_neg q]; exact Paired.snoc r ⟨rfl, hb, ry⟩
theorem KT.keeps {H H' : Hp} {kvs : List (List Key × V)} {xs : List (List Key × Addr × Value)} (r : KT H kvs xs) (ht : ∀ b ys, H b = some (.tup ys) -> H' b = some (.tup ys)) : KT H' kvs xs :=
 Paired.mapP r fun _ _ z => ⟨z.1, ht _ _ z.2.1, z.2.2⟩
section
variable {P : Program} {w : World} {H : Hp} {h : Heap} {a : Addr}
theorem Ae {u : HO} (ok : HOk P w H h) (e : Rd H a u) : bu P w H h a u := e.ok ok
theorem wX {kvs : List (Key × V)} (ok : HOk P w H h) (e : Rd H a (.dK kvs)) : kvs.length <= sizeLine /\ (a == sysModules) = false /\ ∃ vs, KV kvs vs /\ h.DictOf (bN P w) a vs :=
 show bu P w H h a (.dK kvs) from Ae ok e
theorem BT {kvs : List (Key × V)} (ok : HOk P w H h) (e : H a = some (.dK kvs)) : kvs.length <= sizeLine /\ (a == sysModules) = false /\ ∃ vs, KV kvs vs /\ h.DictOf (bN P w) a vs := wX ok (.inl e)
theorem qc {ks : List Key} (ok : HOk P w H h) (e : H a = some (.tup (ks.map kV))) : (tupleKind (bN P w)).is h ks a := by
 obtain ⟨_, its, r, o, h1, h2, n, h3⟩ := (show bu P w H h a (.tup (ks.map kV)) from ok a _ e)
 exact ⟨o, its.toArray, n, h1, h2, h3, by simpa using mG r⟩
theorem wT {kvs : List (List Key × V)} (ok : HOk P w H h) (e : Rd H a (.dT kvs)) : kvs.length <= sizeLine /\ (a == sysModules) = false /\
  ∃ xs, KT H kvs xs /\ h.DictOfH (tupleKind (bN P w)) a xs := by
 obtain ⟨z, y, xs, r, o, es, ep, h1, h2, h3, h4, h5⟩ := (show bu P w H h a (.dT kvs) from Ae ok e)
 refine ⟨z, y, xs, r, o, es, ep, h1, h2, h3, h4, fun x hx => ?_, h5⟩
 have all : ∀ {l : List (List Key × V)} {m : List (List Key × Addr × Value)}, KT H l m -> ∀ x ∈ m, (tupleKind (bN P w)).is h x.1 x.2.1 := by
  intro l m q
  induction q with
  | nil => intro x hx; exact nomatch hx
  | @cons p q ps qs hq t ih =>
   intro x hx
   rcases C5.mp hx with e | hx
   ·subst e
    exact qc ok (by rw [<- hq.1]; exact hq.2.1)
   ·exact ih x hx
 exact all r x hx
theorem BS {kvs : List (List Key × V)} (ok : HOk P w H h) (e : H a = some (.dT kvs)) : kvs.length <= sizeLine /\ (a == sysModules) = false /\
  ∃ xs, KT H kvs xs /\ h.DictOfH (tupleKind (bN P w)) a xs := wT ok (.inl e)
end
def lU (H : Hp) (a : Addr) (y : V) (r : Option V) : Prop :=
 (∃ kvs k, Rd H a (.dK kvs) /\ y = kV k /\ r = eJ kvs k) ∨ ∃ kvs k b, Rd H a (.dT kvs) /\ y = .ref b /\ H b = some (.tup (k.map kV)) /\ r = eJ kvs k
def vw (H : Hp) (a : Addr) (y v : V) (H' : Hp) : Prop :=
 (∃ kvs k, H a = some (.dK kvs) /\ y = kV k /\ kvs.length < sizeLine /\ H' = upd H a (.dK (gy kvs k v))) ∨
 ∃ kvs k b, H a = some (.dT kvs) /\ y = .ref b /\ H b = some (.tup (k.map kV)) /\ kvs.length < sizeLine /\ H' = upd H a (.dT (gy kvs k v))
theorem lU.k {H : Hp} {a : Addr} {kvs : List (Key × V)} {k : Key} (e : H a = some (.dK kvs)) : lU H a (kV k) (eJ kvs k) := .inl ⟨kvs, k, .inl e, rfl, rfl⟩
theorem vw.k {H : Hp} {a : Addr} {kvs : List (Key × V)} {k : Key} {v : V} (e : H a = some (.dK kvs)) (hl : kvs.length < sizeLine) : vw H a (kV k) v (upd H a (.dK (gy kvs k v))) := .inl ⟨kvs, k, e, rfl, hl, rfl⟩
section
variable {X : Cx} {pins : List (Addr × Obj)} {σ : St} {H : Hp} {s : Shared} {a : Addr} {y v : V} {u r : Value} {o : Option V} {A : Around} {E : Value -> Shared -> Prop}
theorem Inv.big (I : Inv X pins σ H s) : sysModules < s.heap.objs.size := by
 have h : mainGlobals < s.heap.objs.size := (I.mod.glob.keeps I.bk).lt
 exact Nat.lt_trans (by decide) h
theorem vc {Q : Value -> Shared -> Prop} (hu : A.units + 1 < cLine) (I : Inv X pins σ H s) (g : lU H a y (some v)) (ry : bm y u) (h : ∀ w' s', Inv X pins σ H s' -> bm v w' -> Q w' s') :
  wpAny (model X.prog X.w) A (getItem (.ref a) u) Q E s := by
 rcases g with ⟨kvs, k, e, ey, l⟩ | ⟨kvs, k, b, e, ey, eb, l⟩
 ·subst ey
  obtain ⟨z, hd, vs, rel, dd⟩ := wX I.hok e
  obtain ⟨w', hw, rw'⟩ := lQ.some_of (v := v) (o := valueAt vs k) (by rw [l]; exact rel.val k)
  exact wpAny_getItem_of (wI ry) dd.mapOf hw (h w' _ (I.tok _) rw')
 ·subst ey
  cases (show u = Value.ref b from ry)
  obtain ⟨z, hd, xs, rel, dd⟩ := wT I.hok e
  obtain ⟨w', hw, rw'⟩ := lQ.some_of (v := v) (o := (atKey xs k).map (·.2)) (by rw [l]; exact rel.val k)
  obtain ⟨p, hp, hp2⟩ := Option.map_eq_some_iff.mp hw
  refine wpAny_getItem_heap (tupleKind_room_in1 hu) (qc I.hok eb) dd hp ?_
  rw [hp2]
  exact h w' _ (I.tok _) rw'
theorem CI {Q : Value -> Shared -> Prop} (hu : A.units + 1 < cLine) (I : Inv X pins σ H s) (g : lU H a y o) (ry : bm y u) (h : ∀ s', Inv X pins σ H s' -> Q (.bool o.isSome) s') :
  wpAny (model X.prog X.w) A (compareOp .In u (.ref a)) Q E s := by
 rcases g with ⟨kvs, k, e, ey, l⟩ | ⟨kvs, k, b, e, ey, eb, l⟩
 ·subst ey
  obtain ⟨z, hd, vs, rel, dd⟩ := wX I.hok e
  refine wpAny_in_of (wI ry) hd dd.mapOf ?_
  rw [<- (rel.val k).isSome_eq, <- l]
  exact h _ (I.tok _)
 ·subst ey
  cases (show u = Value.ref b from ry)
  obtain ⟨z, hd, xs, rel, dd⟩ := wT I.hok e
  refine wpAny_in_heap (tupleKind_room_in1 hu) (qc I.hok eb) hd dd ?_
  have q := (rel.val k).isSome_eq
  rw [Option.isSome_map] at q
  rw [<- q, <- l]
  exact h _ (I.tok _)
theorem va {h' : Heap} {t' : Nat} {ob : HO} (I : Inv X pins σ H s) (mu : Mut (H a)) (hs : Heap.SameBut a s.heap h') (he : ∃ q, h'.get? a = some q) (new : bu X.prog X.w (upd H a ob) h' a ob) :
  Inv X pins σ (upd H a ob) { s with heap := h', toks := t' } :=
 I.write (x := a) (e := a) mu (.inl rfl) (fun b q hb z => (hs.2 b hb).trans z) he new
theorem AW {P : Program} {w : World} {H' : Hp} {h' : Heap} {kvs : List (Key × V)} {vs : List (Key × Value)} (z : kvs.length <= sizeLine) (hd : (a == sysModules) = false) (rel : KV kvs vs) (dd : h'.DictOf (bN P w) a vs) :
  bu P w H' h' a (.dK kvs) := ⟨z, hd, vs, rel, dd⟩
theorem vb {H' : Hp} {Q : Unit -> Shared -> Prop} (hu : A.units + 1 < cLine) (I : Inv X pins σ H s) (g : vw H a y v H') (ry : bm y u) (rv : bm v r) (h : ∀ s', Inv X pins σ H' s' -> Q () s') :
  wpAny (model X.prog X.w) A (setItem (.ref a) u r) Q E s := by
 rcases g with ⟨kvs, k, e, ey, l, eH⟩ | ⟨kvs, k, b, e, ey, eb, l, eH⟩
 ·subst ey eH
  obtain ⟨z, hd, vs, rel, dd⟩ := BT I.hok e
  have hz : vs.length <= sizeLine := by rw [<- rel.length]; exact z
  have hl : (gy kvs k v).length <= sizeLine := by have := ji kvs k v; omega
  refine wpAny_setItem_pairs (hsz := hz) (wI ry) dd fun h' dd' hs => h _ ?_
  have he : ∃ q, h'.get? a = some q := let ⟨q, _, _, hq, _⟩ := dd'; ⟨q, hq⟩
  exact va I (by rw [e]; exact True.intro) hs he (AW hl hd (rel.put k rv) dd')
 ·subst ey eH
  cases (show u = Value.ref b from ry)
  obtain ⟨z, hd, xs, rel, dd⟩ := BS I.hok e
  have hz : xs.length <= sizeLine := by rw [<- Paired.length rel]; exact z
  have hl : (gy kvs k v).length <= sizeLine := by have := ji kvs k v; omega
  refine wpAny_setItem_heap (hsz := hz) (tupleKind_room_in1 hu) (qc I.hok eb) dd fun h' dd' hs => h _ ?_
  obtain ⟨q, es, ep, hq, h2, h3, h4, _, h5⟩ := dd'
  refine va I (by rw [e]; exact True.intro) hs ⟨q, hq⟩ ⟨hl, hd, _, (rel.put k eb rv).keeps fun c ys ec => ?_, q, es, ep, hq, h2, h3, h4, h5⟩
  rw [ag (wD ec e (fun z => nomatch z))]
  exact ec
end
def BZ (i : Expr) : Prop := ∀ ov iv, subscripted i false ov iv = operate [ov, iv] (getItem ov iv)
theorem rO {prog : Program} {w : World} {A : Around} {E : Value -> Shared -> Prop} {s : Shared} {env : Env} {value slice : Expr} {pos : Pos} {T id : String} {Q : Value -> Shared -> Prop}
  (hl : typeLookup (.type T) "__getitem__" = pure (some (.builtin id))) (hs : BZ slice)
  (h : wpAny (model prog w) A (eval value env) (fun o s₁ => wpAny (model prog w) A (eval slice env) (fun i s₂ => s₂.TypeIs o T /\ wpAny (model prog w) A (getItem o i) Q E s₂) E s₁) E s) :
  wpAny (model prog w) A (eval (.Subscript value slice pos) env) Q E s := by
 refine Subscript_ (wpAny_mono h (fun o s₁ h₁ => wpAny_mono h₁ (fun i s₂ h₂ => ?_) fun _ _ x => x) fun _ _ x => x)
 obtain ⟨hT, h₂⟩ := h₂
 unfold subscriptTail
 refine CQ ?_
 rw [getitemInPython_of_ne hT.not_modules]
 refine CQ (wpAny_specialOf hT hl ?_)
 have fin : wpAny (model prog w) A (subscripted slice false o i) (fun r s₃ => wpAny (model prog w) A (letTemporaryGo value o r >>= fun _ => pure r) Q E s₃) E s₂ := by
  rw [hs o i]
  exact wpAny_operating (wpAny_mono h₂ (fun r s₃ h₃ => CQ (wpAny_letTemporaryGo (CT h₃))) fun _ _ x => x)
 first
  | exact CT (CQ fin)
  | exact CQ (CT (CQ fin))
  | exact CQ fin
theorem o5 {X : Cx} {pins : List (Addr × Obj)} {σ : St} {H : Hp} {s : Shared} {a : Addr} {y : V} {o : Option V} (I : Inv X pins σ H s) (g : lU H a y o) : s.TypeIs (.ref a) "dict" := by
 rcases g with ⟨kvs, k, e, _, _⟩ | ⟨kvs, k, b, e, _, _, _⟩
 ·obtain ⟨_, _, vs, _, dd⟩ := wX I.hok e
  exact dd.typeIs
 ·obtain ⟨_, _, xs, _, dd⟩ := wT I.hok e
  exact dd.typeIs
def Bu (td ty : TE) : TE := fun σ H Q => td σ H fun x H1 => ty σ H1 fun y H2 => ∃ a v, x = .ref a /\ lU H2 a y (some v) /\ Q v H2
def Cj (ty td : TE) : TE := fun σ H Q => ty σ H fun y H1 => td σ H1 fun x H2 => ∃ a o, x = .ref a /\ lU H2 a y o /\ Q (.bl o.isSome) H2
def BB (td ty tv : TE) : TS := fun D σ H => tv σ H fun v H1 => td σ H1 fun x H2 => ty σ H2 fun y H3 => ∃ a H4, x = .ref a /\ vw H3 a y v H4 /\ D.nx σ H4
section
variable {X : Cx} {o i e value : Expr} {pos pos' tpos : Pos} {td ty tv : TE}
theorem oM (hu : X.A.units + 1 < cLine) (ho : PE X o td) (hi : PE X i ty) (hs : BZ i) : PE X (.Subscript o i pos) (Bu td ty) := by
 intro pins s σ H Q I h
 refine rO PySem.F.slot_dict_getitem.lookup hs (thn (ho pins s σ H _ I h) fun u s1 ⟨x, H1, I1, rx, q1⟩ => thn (hi pins s1 σ H1 _ I1 q1) fun iv s2 ⟨y, H2, I2, ry, a, v, ex, g, q2⟩ => ?_)
 subst ex
 obtain rfl : u = Value.ref a := rx
 exact ⟨o5 I2 g, vc hu I2 g ry fun w' s3 I3 rw' => ⟨v, H2, I3, rw', q2⟩⟩
theorem xE (hu : X.A.units + 1 < cLine) (hi : PE X i ty) (ho : PE X o td) : PC X .In i o (Cj ty td) := by
 intro pins s σ H Q I h
 refine thn (hi pins s σ H _ I h) fun iv s1 ⟨y, H1, I1, ry, q1⟩ => thn (ho pins s1 σ H1 _ I1 q1) fun u s2 ⟨x, H2, I2, rx, a, ov, ex, g, q2⟩ => ?_
 subst ex
 obtain rfl : u = Value.ref a := rx
 exact CI hu I2 g ry fun s3 I3 => ⟨.bl ov.isSome, H2, I3, rfl, q2⟩
theorem oH (hu : X.A.units + 1 < cLine) (ho : PE X o td) (hi : PE X i ty) (hv : PE X value tv) (hs : swapsWith value (some (.Subscript o i pos')) pos.line X.env = pure false) :
  PS X (.Assign [.Subscript o i pos'] value pos) (BB td ty tv) := by
 intro pins s σ H D I h
 refine wpAny_Assign_Subscript (thn (hv pins s σ H _ I h) fun r s1 ⟨v, H1, I1, rv, q1⟩ => thn (ho pins s1 σ H1 _ I1 q1) fun u s2 ⟨x, H2, I2, rx, q2⟩ => thn (hi pins s2 σ H2 _ I2 q2) fun iv s3 ⟨y, H3, I3, ry, a, H4, ex, g, q3⟩ => ?_) hs
 subst ex
 obtain rfl : u = Value.ref a := rx
 exact vb hu I3 g ry rv fun s4 I4 => ⟨σ, H4, I4, q3⟩
end
theorem wY {P : Program} {w : World} {H : Hp} (h : Heap) (hb : sysModules < h.objs.size) : bu P w H (h.push { cls := .type "dict", data := .dict #[] }) h.objs.size (.dK []) :=
 ⟨De _, beq_eq_false_iff_ne.mpr (Ne.symm (Ds hb)), [], .nil, Heap.DictOf.new h⟩
def tDNewK : TE := fun _ H Q => ∀ p, H p = none -> Q (.ref p) (upd H p (.dK []))
section
variable {X : Cx} {pos : Pos}
theorem lg : PE X (.Dict [] [] pos) tDNewK := fun pins s σ H Q I h =>
 wpAny_Dict_empty ⟨.ref s.heap.objs.size, _, I.laid (a := s.heap.objs.size) (o := .dK []) (t' := s.toks) (fun _ _ q => CW _ q) (C7 _) (wY s.heap I.big), rfl, h _ (I.hok.fresh (C7 _))⟩
end
end L2
namespace L2
open PySem PySem.Spec PyProof.Rows
theorem jO : bootBuiltins "reversed" = some (.type "reversed") := by decide +kernel
section
variable {X : Cx} {pins : List (Addr × Obj)} {σ : St} {H : Hp} {s : Shared} {h' : Heap}
theorem Inv.turnedNew {t' : Nat} {ch : List Addr} {T : Addr} {ob : HO} (I : Inv X pins σ H s) (k : ∀ b o, b ∉ ch -> s.heap.get? b = some o -> h'.get? b = some o) (hf : ∀ b ∈ ch, vt X pins H b) (hT : s.heap.objs.size <= T)
  (new : bu X.prog X.w (upd H T ob) h' T ob) : Inv X pins σ (upd H T ob) { s with heap := h', toks := t' } := by
 have hn : H T = none := I.hok.fresh hT
 have nit : ∀ b u, H b = some u -> b ∉ ch := fun b u e z => by
  have q := (hf b z).1
  rw [q] at e; cases e
 refine I.step (g' := s.gens) (d' := s.drawn) (ch := ch) (fun b hb => ⟨(hf b hb).2.2.2.1, (hf b hb).2.1, (hf b hb).2.2.2.2.1, (hf b hb).2.2.2.2.2⟩) (fun b o _ _ hc e _ => k b o hc e) (fun b o _ _ hc e _ => ⟨o.slots, k b o hc e⟩)
  (fun b o _ e n => ?_) (fun b o hc e => ⟨o, k b o hc e⟩) (fun b xs e => ?_) (fun b o u e => ?_) (fun b ps e => ⟨#[], ?_⟩) (fun m hm => ?_) (fun b u e => ?_) I.bare
 ·rw [ag (Ds (Dl (Df e) hT))]; exact n
 ·rw [ag (ah e hn)]; exact e
 ·rw [ag (ah e hn)]; exact e
 ·rw [ag (ah e hn), e]; simp
 ·obtain ⟨o, es, ep, ho, r⟩ := hm
  exact ⟨o, es, ep, k _ o (fun z => (hf _ z).2.1 rfl) ho, r⟩
 ·by_cases hb : b = T
  ·subst hb
   rw [upd_same] at e
   cases e
   exact new
  ·rw [ag hb] at e
   refine (I.hok b u e).stay (fun c v hc q => k c v ?_ q) (fun c q => by rw [ag (ah q hn)]; exact q) fun c xs q => by rw [ag (ah q hn)]; exact q
   rcases hc with z | z
   ·rw [z]; exact nit b u e
   ·exact nit c _ z
end
section
variable {X : Cx}
theorem pS {tg : Expr} {pins : List (Addr × Obj)} {σ : St} {H : Hp} {s : Shared} {R : It -> Hp -> Prop} {J : It} {tn : Nat -> Heap -> Prop} {tk : Nat} (I : Inv X pins σ H s) (o : Obj)
  (T : xQ X.prog X.w X.K tg J [s.heap.objs.size] s.heap.objs.size tn) (st : tn 0 (s.heap.push o)) (q : R J H) : PIE X pins σ tg R (.ref s.heap.objs.size) { s with heap := s.heap.push o, toks := tk } := by
 refine ⟨s.heap.objs.size, [s.heap.objs.size], tn, J, H, rfl, I.kept fun b ob e => CW _ e, T, st, fun b hb => ?_, q⟩
 have e : b = s.heap.objs.size := by simpa using hb
 subst e
 exact I.fpOk (C7 _) (I.hok.fresh (C7 _))
end
def Itc (lo c : Int) (n : Nat) : It := ⟨fun i _ => i < n, fun i H x H' => H' = H /\ x = .int (lo + (i : Nat) * c), fun i _ => n <= i⟩
theorem nJ {P : Program} {w : World} {K : Fg} {tg : Expr} (it : Addr) (lo c : Int) (n : Nat) : xQ P w K tg (Itc lo c n) [it] it (fun i h => IsRangeIter h it (lo + (i : Nat) * c) ((n : Int) - (i : Nat)) c) where
 mem := by simp
 obj := fun i h st b hb => by
  have e : b = it := by simpa using hb
  subst e
  exact ⟨_, st, fun v z => nomatch z⟩
 keep := fun i h h' st k => k it (by simp) _ st
 item := by
  intro X hP hw hK hc i pins s σ H E I hf st hg
  subst hP hw hK
  obtain ⟨f0, f1, f2, f3, f4, f5⟩ := hf it (by simp)
  have W := Walks.range (prog := X.prog) (w := X.w) (I.ok.hd hc) it lo c n
  refine W.item i s _ _ hg st fun v h' tk hv st' kk => ?_
  obtain ⟨t, rfl⟩ := hv
  have I1 : Inv X pins σ H { s with heap := h', toks := tk } := I.turned (fun b o hb e => kk b o (by simpa using hb) e) f0 f1 f3 f4 f5
  exact ⟨_, rfl, uH (s := { s with heap := h', toks := tk }) (n := "range_iterator") st' rfl rfl (by decide) ⟨.int (lo + (i : Nat) * c), H, I1, ⟨t, rfl⟩, ⟨rfl, rfl⟩, st', fun b hb => (hf b hb).1⟩⟩
 done := by
  intro X hP hw hK hc i pins s σ H E I hf st hg
  subst hP hw hK
  obtain ⟨f0, f1, f2, f3, f4, f5⟩ := hf it (by simp)
  exact wpAny_pyNext_range_end (I.ok.hd hc) st (by have : n <= i := hg; omega) fun h' eb => ⟨rfl, I.turned (t' := s.toks) (fun b o hb e => eb b o hb e) f0 f1 f3 f4 f5⟩
 self := fun A i s Q E st h => wpAny_pyIter_rangeiter st h
def RgC (i j c : Int) (n : Nat) : Prop := c ≠ 0 /\ c.natAbs < 1073741824 /\ Builtin.Range.small i j c = true /\ Builtin.Range.rangeSize i j c = n
def BL (ta : TA) : TI := fun σ H R => ta σ H fun vs H1 => ∃ (i j c : Int) (n : Nat), vs = [.int i, .int j, .int c] /\ RgC i j c n /\ R (Itc i c n) H1
section
variable {X : Cx} {tg : Expr}
theorem mv {a b c : Expr} {ta : TA} {p pos : Pos} (hg : Gl X "range") (hm : X.mg "range" = none) (ha : PA X [a, b, c] ta)
  (hs : starEach [a, b, c] X.env = (false, eval a X.env) :: starEach [b, c] X.env := by rfl) (hpl : (backTo pos (starEach [b, c] X.env)).any (·.1) = false := by rfl) :
  PI X tg (.Call (.Name "range" p) [a, b, c] [] pos) (BL ta) := by
 intro pins s σ H R I h
 refine Call_ (jn I hg hm boot_range (PyProof.Rows.callWith_type1 (thn (ha pos pins s σ H _ I h) fun us s1 ⟨vs, H1, I1, r1, q1⟩ => ?_) hs hpl))
 obtain ⟨i, j, k, n, e, ⟨c0, c1, c2, c3⟩, q⟩ := q1
 subst e
 cases r1 with
 | cons r rr =>
  cases rr with
  | cons r' rr =>
   cases rr with
   | cons r'' rr =>
    cases rr
    obtain ⟨t, rfl⟩ := r
    obtain ⟨t', rfl⟩ := r'
    obtain ⟨t'', rfl⟩ := r''
    refine call_range_3 c0 ?_ (.inl (PyProof.noPylong_small c1))
    refine wpAny_pyIter_range (IsRange.new ..) c2 ?_
    have I2 : Inv X pins σ H1 { s1 with heap := s1.heap.push { cls := .type "range", data := .fields #[.int i t, .int j t', .int k t''] } } := I1.kept (t' := s1.toks) fun b o e => CW _ e
    refine pS (tk := s1.toks) I2 _ (nJ _ i k n) ?_ q
    have e1 : i + ((0 : Nat) : Int) * k = i := by simp
    have e2 : (n : Int) - ((0 : Nat) : Int) = Builtin.Range.rangeSize i j k := by rw [c3]; simp
    show IsRangeIter _ _ (i + ((0 : Nat) : Int) * k) ((n : Int) - ((0 : Nat) : Int)) k
    rw [e1, e2]
    exact Di _ rfl
end
theorem j8 {lo c : Int} {n : Nat} {g : TG} {tb : TS} {D : Ends} {σ : St} {H : Hp} (Pv : Nat -> St -> Hp -> Prop) (h0 : Pv 0 σ H)
  (hs : ∀ i σ H, i < n -> Pv i σ H -> g (.int (lo + (i : Nat) * c)) σ H fun σ2 H2 => tb { D with nx := Pv (i + 1), ct := Pv (i + 1), bk := D.nx } σ2 H2) (hd : ∀ σ H, Pv n σ H -> D.nx σ H) :
  ∃ W : Nat -> Nat -> St -> Hp -> Prop, (∃ m, W 0 m σ H) /\ ∀ i m σ H, W i m σ H ->
   ((Itc lo c n).stop i H /\ D.nx σ H) ∨ ((Itc lo c n).go i H /\ ∃ N : St -> Hp -> Prop, (∀ σ' H', N σ' H' -> ∃ m', m' < m /\ W (i + 1) m' σ' H') /\ ∀ x H', (Itc lo c n).yld i H x H' -> g x σ H' fun σ2 H2 => tb { D with nx := N, ct := N, bk := D.nx } σ2 H2) := by
 refine ⟨fun i m σ H => m = n - i /\ i <= n /\ Pv i σ H, ⟨n, by simp, De _, h0⟩, ?_⟩
 rintro i m σ H ⟨rfl, hi, p⟩
 by_cases hlt : i < n
 ·refine .inr ⟨hlt, Pv (i + 1), fun σ' H' p' => ⟨n - (i + 1), by omega, rfl, hlt, p'⟩, fun x H' y => ?_⟩
  obtain ⟨e, y⟩ := y
  subst e y
  exact hs i σ _ hlt p
 ·have e : i = n := by omega
  subst e
  exact .inl ⟨C7 _, hd σ H p⟩
def Itv (K : Fg) (a : Addr) (n : Nat) : It :=
 ⟨fun i H => i < n /\ ∃ (xs : List V) (x : V), SqL K H a xs /\ xs[n - 1 - i]? = some x, fun i H x H' => H' = H /\ ∀ xs, SqL K H a xs -> xs[n - 1 - i]? = some x, fun i _ => n <= i⟩
theorem vz {P : Program} {w : World} {K : Fg} {tg : Expr} (a it : Addr) (n : Nat) : xQ P w K tg (Itv K a n) [it] it (fun i h => i <= n /\ h.IsRevIter it a ((n : Int) - 1 - (i : Nat))) where
 mem := by simp
 obj := fun i h st b hb => by
  have e : b = it := by simpa using hb
  subst e
  obtain ⟨_, o, e, c, d⟩ := st
  exact ⟨o, e, fun v z => by rw [d] at z; cases z⟩
 keep := fun i h h' st k => ⟨st.1, st.2.at fun o e => k it (by simp) o e⟩
 item := by
  intro X hP hw hK hc i pins s σ H E I hf st hg
  subst hP hw hK
  obtain ⟨hin, xs, x, hq, hx⟩ := hg
  obtain ⟨its, rv, p, hz⟩ := I.list hq
  obtain ⟨u, hu, ru⟩ := rv.get hx
  obtain ⟨f0, f1, f2, f3, f4, f5⟩ := hf it (by simp)
  obtain ⟨_, hit⟩ := st
  have e1 : (n : Int) - 1 - ((i : Nat) : Int) = ((n - 1 - i : Nat) : Int) := by omega
  rw [e1] at hit
  refine wpAny_pyNext_rev_item hit p.isList (x := u) (by simpa using hu) fun h' st' sb => ?_
  have e2 : ((n - 1 - i : Nat) : Int) - 1 = (n : Int) - 1 - ((i + 1 : Nat) : Int) := by omega
  rw [e2] at st'
  have I1 : Inv X pins σ H { s with heap := h' } := I.turned (t' := s.toks) (fun b o hb e => (sb.2 b hb).trans e) f0 f1 f3 f4 f5
  obtain ⟨o, e, c, d⟩ := id st'
  exact ⟨u, rfl, uH (s := { s with heap := h' }) e c d (by decide) ⟨x, H, I1, ru, ⟨rfl, fun ys hy => by rw [I.list_inj hy hq]; exact hx⟩, ⟨hin, st'⟩, fun b hb => (hf b hb).1⟩⟩
 done := by
  intro X hP hw hK hc i pins s σ H E I hf st hg
  subst hP hw hK
  obtain ⟨f0, f1, f2, f3, f4, f5⟩ := hf it (by simp)
  obtain ⟨hin, hit⟩ := st
  have hge : n <= i := hg
  have e1 : (n : Int) - 1 - ((i : Nat) : Int) = -1 := by omega
  rw [e1] at hit
  exact wpAny_pyNext_rev_end (I.ok.hd hc) hit fun h' eb => ⟨rfl, I.turned (t' := s.toks) (fun b o hb e => eb b o hb e) f0 f1 f3 f4 f5⟩
 self := fun A i s Q E st h => wpAny_pyIter_revIter st.2 h
def CD (K : Fg) (ta : TA) : TI := fun σ H R => ta σ H fun vs H1 => ∃ (a : Addr) (xs : List V), vs = [.ref a] /\ SqL K H1 a xs /\ R (Itv K a xs.length) H1
section
variable {X : Cx} {tg : Expr}
theorem oJ {e : Expr} {ta : TA} {p pos : Pos} (hg : Gl X "reversed") (hm : X.mg "reversed" = none) (ha : PA X [e] ta) (hs : starEach [e] X.env = [(false, eval e X.env)] := by rfl) : PI X tg (.Call (.Name "reversed" p) [e] [] pos) (CD X.K ta) := by
 intro pins s σ H R I h
 refine Call_ (jn I hg hm jO (PyProof.Rows.callWith_type1 (thn (ha pos pins s σ H _ I h) fun us s1 ⟨vs, H1, I1, r1, q1⟩ => ?_) hs rfl))
 obtain ⟨a, xs, e, hq, q⟩ := q1
 subst e
 cases r1 with
 | cons r rr =>
  cases rr
  cases r
  obtain ⟨its, rv, p', hz⟩ := I1.list hq
  have hl := rv.length
  have e1 : ((its.toArray.size : Nat) : Int) - 1 = (xs.length : Int) - 1 - ((0 : Nat) : Int) := by simp only [Dk]; omega
  refine call_reversed_list p'.isList (wpAny_pyIter_revIter (l := a) (i := ((its.toArray.size : Nat) : Int) - 1) ⟨_, Di _ rfl, rfl, rfl⟩ ?_)
  refine pS (tk := s1.toks) I1 _ (vz a _ xs.length) ⟨De _, ?_⟩ q
  rw [<- e1]
  exact ⟨_, Di _ rfl, rfl, rfl⟩
end
def Its (x : Str) : It := ⟨fun i _ => i < x.cps.size, fun i H v H' => H' = H /\ ∃ c, x.cps[i]? = some c /\ v = .str ⟨#[c]⟩, fun i _ => x.cps.size <= i⟩
theorem pi {P : Program} {w : World} {K : Fg} {tg : Expr} (it : Addr) (x : Str) (t : Tok) (ty : String) (hty : ty = "str_ascii_iterator" ∨ ty = "str_iterator") :
  xQ P w K tg (Its x) [it] it (fun i h => h.IsStrIter it ty x t i) where
 mem := by simp
 obj := fun i h st b hb => by
  have e : b = it := by simpa using hb
  subst e
  obtain ⟨o, e, c, d⟩ := st
  exact ⟨o, e, fun v z => by rw [d] at z; cases z⟩
 keep := fun i h h' st k => let ⟨o, ho, r⟩ := st; ⟨o, k it (by simp) o ho, r⟩
 item := by
  intro X hP hw hK hc i pins s σ H E I hf st hg
  subst hP hw hK
  obtain ⟨f0, f1, f2, f3, f4, f5⟩ := hf it (by simp)
  have W : Walks X.prog X.w X.A it [it] [it] x.cps.size (SignAt x) (fun i h => h.IsStrIter it ty x t i) := by
   rcases hty with e | e
   ·rw [e]; exact Walks.strAscii (I.ok.hd hc) it x t
   ·rw [e]; exact Walks.strWide (I.ok.hd hc) it x t
  have hno : ["enumerate", "zip", "dict_itemiterator", "dict_reverseitemiterator", "odict_iterator", "itertools.zip_longest", "itertools.pairwise"].contains ty = false := by
   rcases hty with e | e
   ·rw [e]; decide
   ·rw [e]; decide
  refine W.item i s _ _ hg st fun v h' tk hv st' kk => ?_
  obtain ⟨c, u, hcx, rfl⟩ := hv
  have I1 : Inv X pins σ H { s with heap := h', toks := tk } := I.turned (fun b o hb e => kk b o (by simpa using hb) e) f0 f1 f3 f4 f5
  obtain ⟨oi, e, cc, dd⟩ := id st'
  exact ⟨_, rfl, uH (s := { s with heap := h', toks := tk }) e cc dd hno ⟨.str ⟨#[c]⟩, H, I1, ⟨u, rfl⟩, ⟨rfl, c, hcx, rfl⟩, st', fun b hb => (hf b hb).1⟩⟩
 done := by
  intro X hP hw hK hc i pins s σ H E I hf st hg
  subst hP hw hK
  obtain ⟨f0, f1, f2, f3, f4, f5⟩ := hf it (by simp)
  have hx : x.cps[i]? = none := Array.getElem?_eq_none hg
  rcases hty with e | e
  ·rw [e] at st
   exact wpAny_pyNext_ascii_end (I.ok.hd hc) st hx fun h' eb => ⟨rfl, I.turned (t' := s.toks) (fun b o hb e => eb b o hb e) f0 f1 f3 f4 f5⟩
  ·rw [e] at st
   exact wpAny_pyNext_wide_end (I.ok.hd hc) st hx fun h' eb => ⟨rfl, I.turned (t' := s.toks) (fun b o hb e => eb b o hb e) f0 f1 f3 f4 f5⟩
 self := fun A i s Q E st h => by
  rcases hty with e | e
  ·rw [e] at st; exact wpAny_pyIter_striter_ascii st h
  ·rw [e] at st; exact wpAny_pyIter_striter_wide st h
def CC (te : TE) : TI := fun σ H R => te σ H fun v H1 => ∃ x, v = .str x /\ R (Its x) H1
theorem xB {X : Cx} {tg e : Expr} {te : TE} (he : PE X e te) : PI X tg e (CC te) := by
 intro pins s σ H R I h
 refine thn (he pins s σ H _ I h) fun v s1 ⟨y, H1, I1, r1, x, ex, q⟩ => ?_
 subst ex
 obtain ⟨t, rfl⟩ := r1
 cases ha : x.cps.all (· < 128)
 ·exact wpAny_pyIter_wide ha (pS (tk := s1.toks) I1 _ (pi _ x t "str_iterator" (.inr rfl)) ⟨_, Di _ rfl, rfl, rfl⟩ q)
 ·exact wpAny_pyIter_ascii ha (pS (tk := s1.toks) I1 _ (pi _ x t "str_ascii_iterator" (.inl rfl)) ⟨_, Di _ rfl, rfl, rfl⟩ q)
def Ite (K : Fg) (a : Addr) : It :=
 ⟨fun i H => ∃ (xs : List V) (x : V), SqL K H a xs /\ xs[i]? = some x, fun i H v H' => ∃ T x, v = .ref T /\ H T = none /\ H' = upd H T (.tup [.int (i : Nat), x]) /\ ∀ xs, SqL K H a xs -> xs[i]? = some x, fun i H => ∃ xs : List V, SqL K H a xs /\ xs.length <= i⟩
theorem rE {P : Program} {w : World} {K : Fg} {elts : List Expr} {kk : Nat} {tpos : Pos} (a e it : Addr) :
  xQ P w K (.Tuple elts kk tpos) (Ite K a) [e, it] e (fun i h => (∃ old, IsEnum h e it ((i : Nat) : Int) old) /\ h.IsListIter it a i /\ e ≠ it) where
 mem := by simp
 obj := fun i h st b hb => by
  obtain ⟨⟨old, he⟩, ⟨o, ho, hc, hd⟩, _⟩ := st
  have e' : b = e ∨ b = it := by simpa using hb
  rcases e' with z | z
  ·rw [z]; exact ⟨_, he, fun v q => nomatch q⟩
  ·rw [z]; exact ⟨o, ho, fun v q => by rw [hd] at q; cases q⟩
 keep := fun i h h' st k => let ⟨⟨old, he⟩, hi, hne⟩ := st; ⟨⟨old, k e (by simp) _ he⟩, hi.at fun o q => k it (by simp) o q, hne⟩
 item := by
  intro X hP hw hK hc i pins s σ H E I hf st hg
  subst hP hw hK
  obtain ⟨⟨old, he⟩, hit, hne⟩ := st
  obtain ⟨xs, x, hq, hx⟩ := hg
  obtain ⟨its, rv, p, hz⟩ := I.list hq
  obtain ⟨u, hu, ru⟩ := rv.get hx
  have hel : e < s.heap.objs.size := Df he
  have hil : it < s.heap.objs.size := by obtain ⟨_, q, _⟩ := hit; exact Df q
  refine wpAny_pyNext_enum_item he hit p.isList (x := u) (by simpa using hu) hne fun h' ho hit' hT hsz hk => ?_
  refine ⟨_, rfl, wpAny_letOwnedTupleGo_enum (s := { s with heap := h', toks := s.toks + 1 }) ho fun h'' he' sb => ?_⟩
  have hT2 : h''.get? s.heap.objs.size = some { cls := .type "tuple", data := .seq #[.int i s.toks, u] } := (sb.2 _ (Nat.ne_of_gt hel)).trans hT
  have new : bu X.prog X.w (upd H s.heap.objs.size (.tup [.int (i : Nat), x])) h'' s.heap.objs.size (.tup [.int (i : Nat), x]) :=
   ⟨by show 2 <= sizeLine; decide, [.int i s.toks, u], .cons ⟨_, rfl⟩ (.cons ru .nil), ⟨_, hT2, rfl, _, rfl⟩⟩
  have I1 : Inv X pins σ (upd H s.heap.objs.size (.tup [.int (i : Nat), x])) { s with heap := h'', toks := s.toks + 1 } :=
   I.turnedNew (ch := [e, it]) (fun b ob hb q => (sb.2 b (fun z => hb (by simp [z]))).trans (hk b ob (fun z => hb (by simp [z])) (fun z => hb (by simp [z])) q)) hf (C7 _) new
  refine ⟨.ref s.heap.objs.size, _, I1, rfl, ⟨_, x, rfl, I.hok.fresh (C7 _), rfl, fun ys hy => by rw [I.list_inj hy hq]; exact hx⟩, ⟨⟨u, ?_⟩, hit'.at fun o q => (sb.2 it (Ne.symm hne)).trans q, hne⟩, fun b hb => ?_⟩
  ·have e1 : ((i + 1 : Nat) : Int) = (i : Int) + 1 := by omega
   rw [e1]; exact he'
  ·have hb' : b < s.heap.objs.size := by
    have e' : b = e ∨ b = it := by simpa using hb
    rcases e' with z | z
    ·rw [z]; exact hel
    ·rw [z]; exact hil
   rw [ag (Ds hb')]
   exact (hf b hb).1
 done := by
  intro X hP hw hK hc i pins s σ H E I hf st hg
  subst hP hw hK
  obtain ⟨⟨old, he⟩, hit, hne⟩ := st
  obtain ⟨xs, hq, hx⟩ := hg
  obtain ⟨its, rv, p, hz⟩ := I.list hq
  obtain ⟨f0, f1, f2, f3, f4, f5⟩ := hf it (by simp)
  have hl := rv.length
  exact wpAny_pyNext_enum_end (I.ok.hd hc) he hit p.isList (by simp; omega) fun h' eb => ⟨rfl, I.turned (t' := s.toks) (fun b o hb q => eb b o hb q) f0 f1 f3 f4 f5⟩
 self := fun A i s Q E st h => let ⟨⟨_, he⟩, _⟩ := st; wpAny_pyIter_enum he h
def BP (K : Fg) (ta : TA) : TI := fun σ H R => ta σ H fun vs H1 => ∃ a xs, vs = [.ref a] /\ SqL K H1 a xs /\ R (Ite K a) H1
theorem oK {X : Cx} {e : Expr} {ta : TA} {p pos tpos : Pos} {elts : List Expr} {kk : Nat} (hg : Gl X "enumerate") (hm : X.mg "enumerate" = none) (ha : PA X [e] ta) (hs : starEach [e] X.env = [(false, eval e X.env)] := by rfl) :
  PI X (.Tuple elts kk tpos) (.Call (.Name "enumerate" p) [e] [] pos) (BP X.K ta) := by
 intro pins s σ H R I h
 refine Call_ (jn I hg hm boot_enumerate (PyProof.Rows.callWith_type1 (thn (ha pos pins s σ H _ I h) fun us s1 ⟨vs, H1, I1, r1, q1⟩ => ?_) hs rfl))
 obtain ⟨a, xs, ex, hq, q⟩ := q1
 subst ex
 cases r1 with
 | cons r rr =>
  cases rr
  cases r
  obtain ⟨its, rv, p', hz⟩ := I1.list hq
  refine call_enumerate_list p'.isList fun h' he hit hsz hk => wpAny_pyIter_enum he ?_
  have I2 : Inv X pins σ H1 { s1 with heap := h' } := I1.kept (t' := s1.toks) hk
  refine ⟨s1.heap.objs.size + 1, [s1.heap.objs.size + 1, s1.heap.objs.size], _, _, H1, rfl, I2, rE a (s1.heap.objs.size + 1) s1.heap.objs.size, ⟨⟨.none, he⟩, hit, Nat.succ_ne_self _⟩, fun b hb => ?_, q⟩
  have e' : b = s1.heap.objs.size + 1 ∨ b = s1.heap.objs.size := by simpa using hb
  have hle : s1.heap.objs.size <= b := by
   rcases e' with z | z
   ·rw [z]; exact Nat.le_add_right _ _
   ·rw [z]; exact C7 _
  exact I1.fpOk hle (I1.hok.fresh hle)
end L2
section
namespace TL
open PySem PySem.Builtin PySem.Builtin.Str PySem.StrLaws
abbrev tl (x : Str) : List Nat := x.cps.toList
theorem len_tl (x : Str) : x.length = (tl x).length := by simp [tl, Str.length]
theorem bW (x y : Str) : tl (x ++ y) = tl x ++ tl y := by
 show (x ++ y).cps.toList = _
 rw [Str.cps_append, Array.toList_append]
def jN (S : List Nat) : List (List Nat) -> List Nat
 | [] => []
 | [p] => p
 | p :: q :: r => p ++ (S ++ jN S (q :: r))
theorem nO (y : Str) : ∀ parts : List Str, tl (Str.join y parts) = jN (tl y) (parts.map tl)
 | [] => rfl
 | [_] => rfl
 | x :: z :: r => by
  show tl (x ++ y ++ Str.join y (z :: r)) = tl x ++ (tl y ++ jN (tl y) ((z :: r).map tl))
  rw [bW, bW, nO y (z :: r), Dr]
theorem uz (y : Str) (parts : List Str) : Txt.join y parts = Str.join y parts := glued_eq_join y parts
def numL (n : Nat) : List Nat := (Nat.toDigits 10 n).map Char.toNat
theorem pj (n : Nat) : tl (Str.ofString (toString ((n : Nat) : Int))) = numL n := PySem.W.KIN.signs_num n
end TL
end
namespace L2
open PySem PySem.Spec PyProof.Rows
theorem dm : ∀ {ys : List Str} {us : List Value}, aV (ys.map V.str) us -> StrsAre us ys
 | [], _, .nil => .nil
 | y :: ys, _, .cons r t => by
  obtain ⟨k, rfl⟩ := r
  exact .cons y k (dm t)
section
variable {X : Cx}
theorem yT : MtR X "str.join" (fun x xs H Q => ∃ a p, ∃ ys : List Str, x = .str a /\ xs = [.ref p] /\ (SqL X.K H p (ys.map V.str) ∨ SqT X.K H p (ys.map V.str)) /\
  (ys.map (·.length)).sum + ys.length * a.length <= 16777216 /\ Q (.str (Txt.join a ys)) H) := by
 intro pins s σ H x xs v us Q I rx rs h
 obtain ⟨a, p, ys, rfl, rfl, hp, hz, h⟩ := h
 obtain ⟨t, rfl⟩ := rx
 cases rs with
 | cons r1 rs =>
  cases rs
  cases r1
  rcases hp with hp | hp
  ·obtain ⟨its, r, ⟨o, n, ho, hc, _, hd⟩, _⟩ := I.list hp
   exact PyProof.Rows.join_list (items := its.toArray) ⟨o, ho, hc, n, hd⟩ (by rw [List.toList_toArray]; exact dm r) hz fun t' k => ⟨.str _, H, I.tok k, ⟨t', rfl⟩, h⟩
  ·obtain ⟨its, r, ht, _⟩ := I.tuple hp
   exact PyProof.Rows.join_tuple (items := its.toArray) ht (by rw [List.toList_toArray]; exact dm r) hz fun t' k => ⟨.str _, H, I.tok k, ⟨t', rfl⟩, h⟩
end
section
variable {X : Cx} {o e : Expr} {to te : TE}
def tM1 (r : V -> List V -> Hp -> VK -> Prop) (to te : TE) : TE := fun σ H Q => to σ H fun x H1 => (∃ a, x = .str a) /\ te σ H1 fun y H2 => r x [y] H2 Q
theorem BH {id : String} {name : Str} {apos pos : Pos} {r : V -> List V -> Hp -> VK -> Prop} (slot : Slot "str" name id) (ty : typeOf (.builtin id) = pure (.type "method_descriptor")) (rule : MtR X id r) (ho : PE X o to) (he : PE X e te)
  (hs : starEach [e] X.env = [(false, eval e X.env)] := by rfl) (hbase : attributeBase o name X.env (eval o X.env) = eval o X.env := by rfl) (hline : (apos.endLine == pos.line) = true := by rfl) :
  PE X (.Call (.Attribute o name apos) [e] [] pos) (tM1 r to te) := by
 intro pins s σ H Q I h
 refine PySem.Call_method1 hbase hs hline (thn (ho pins s σ H _ I h) fun v s1 ⟨x, H1, I1, r1, q1⟩ => ?_)
 obtain ⟨⟨a, rfl⟩, q1⟩ := q1
 obtain ⟨t, rfl⟩ := _root_.id r1
 refine ⟨"str", _, F.plainAttrs_str, slot, ty, typeIs_str _ _ _, (fun _ e => nomatch e), Calls.callWith_builtin rfl (Calls.evalArgs_plain (Calls.spliced_cons ?_))⟩
 exact thn (he pins s1 σ H1 _ I1 q1) fun u s2 ⟨y, H2, I2, r2, q2⟩ => Calls.spliced_nil (rule pins s2 σ H2 _ [y] _ [u] Q I2 r1 (.cons r2 .nil) q2)
theorem tI {apos pos : Pos} (ho : PE X o to) (he : PE X e te) (hs : starEach [e] X.env = [(false, eval e X.env)] := by rfl) (hbase : attributeBase o "join" X.env (eval o X.env) = eval o X.env := by rfl) (hline : (apos.endLine == pos.line) = true := by rfl) :
  PE X (.Call (.Attribute o "join" apos) [e] [] pos) (tM1 (fun x xs H Q => ∃ a p, ∃ ys : List Str, x = .str a /\ xs = [.ref p] /\ (SqL X.K H p (ys.map V.str) ∨ SqT X.K H p (ys.map V.str)) /\
   (ys.map (·.length)).sum + ys.length * a.length <= 16777216 /\ Q (.str (Txt.join a ys)) H) to te) :=
 BH F.slot_str_join F.type_str_join yT ho he hs hbase hline
end
end L2
namespace L2
open PySem PySem.Spec PyProof.Rows
def dJ (s : Stmt) (j : Nat) : Stmt := match s with
 | .ClassDef _ _ _ body _ _ _ _ _ _ _ => body.getD j (.Pass ⟨0, 0, 0, 0⟩)
 | _ => .Pass ⟨0, 0, 0, 0⟩
def fC (s : Stmt) : Arguments := match s with
 | .FunctionDef _ a _ _ _ _ _ _ _ _ => a
 | _ => { posonlyargs := [], args := [], vararg := none, kwonlyargs := [], kw_defaults := [], kwarg := none, defaults := [] }
def cb (s : Stmt) : List Stmt := match s with
 | .FunctionDef _ _ b _ _ _ _ _ _ _ => b
 | _ => []
def ae (s : Stmt) : Scope := match s with
 | .FunctionDef _ _ _ _ _ _ sc _ _ _ => sc
 | _ => { kind := .function, names := [], isGenerator := false, isCoroutine := false }
abbrev CX0 : CXT := fun _ _ _ _ _ _ => False
abbrev E0 : XK := fun _ _ _ => False
theorem aC {X : Cx} : gw CX0 X E0 := fun _ _ _ _ _ _ _ h => h.elim
structure Fun (K : Fg) (x qual : Str) (st : Stmt) (f : Addr) (fd : FuncData) : Prop where
 ex : ∃ (oc : Value) (od : Option Addr) (kV doc pm : Value) (an : Option Addr) (cdv ct : Value) (osl : Array (Option Value)),
  fd = PySem.W.fnOf x qual (fC st) (cb st) (ae st) .none kV doc pm an cdv ct /\ K.lookup f = some ⟨oc, od, .func fd, osl⟩ /\ PySem.W.codeIn K cdv qual = true
 kp : PySem.W.keepIn K (.ref f) = true
section
variable {P : Program} {w : World} {K : Fg} {mg : Str -> Option Value} {base : Heap}
theorem Fun.ok {x qual : Str} {st : Stmt} {f : Addr} {fd : FuncData} {N ps : List Str} {k : Nat} {sp : Sp} (F : Fun K x qual st f fd) (S : al N ps (ae st)) (len : ∀ vs H Q E, sp vs H Q E -> vs.length = ps.length)
  (hbody : ∀ (cdv : Value) (A : Around) (outer : List Env) (s : Shared) (H : Hp) (vs : List V) (Q : VK) (E : XK), bG k (A.deeper (envOfC qual (ae st) s.heap.objs.size f cdv)) -> sp vs H Q E ->
   ∃ t, PSs (lT CX0 P w K mg base N qual (ae st) f cdv A outer s H E).nox (cb st) t /\ t { nx := fun _ H' => Q .non H', rt := Q } (start N vs) H) : bc P w K mg base CX0 (k + 1) f fd ps sp := by
 obtain ⟨oc, od, kV, doc, pm, an, cdv, ct, osl, rfl, lk, hcd⟩ := F.ex
 refine AQ lk hcd S len fun A outer s H vs Q E hr hsp => ?_
 obtain ⟨t, h, q⟩ := hbody cdv A outer s H vs Q E hr hsp
 exact ⟨t, h.nox, q⟩
theorem Fun.binds {x qual : Str} {st : Stmt} {f : Addr} {fd : FuncData} {ps : List Str} (F : Fun K x qual st f fd)
  (h : ∀ (kV doc pm : Value) (an : Option Addr) (cdv ct : Value) (us : List Value), us.length = ps.length -> bindArgs (PySem.W.fnOf x qual (fC st) (cb st) (ae st) .none kV doc pm an cdv ct) ⟨us, []⟩ = pure (ps.zip us)) : ci K fd ps [] := by
 obtain ⟨oc, od, kV, doc, pm, an, cdv, ct, osl, rfl, lk, hcd⟩ := F.ex
 exact .all (h kV doc pm an cdv ct)
theorem uK {x qual : Str} {st : Stmt} {f : Addr} {oc : Value} {od an : Option Addr} {osl : Array (Option Value)} {kV doc pm cdv ct : Value} (l : K.lookup f = some ⟨oc, od, .func (PySem.W.fnOf x qual (fC st) (cb st) (ae st) .none kV doc pm an cdv ct), osl⟩)
  (c : PySem.W.codeIn K cdv qual = true) (k : PySem.W.keepIn K (.ref f) = true) : Fun K x qual st f (PySem.W.fnOf x qual (fC st) (cb st) (ae st) .none kV doc pm an cdv ct) := ⟨⟨oc, od, kV, doc, pm, an, cdv, ct, osl, rfl, l, c⟩, k⟩
end
theorem AO {A : Around} {k : Nat} (hr : bG k A) : A.units + 1 < cLine := Nat.lt_of_le_of_lt (Nat.add_le_add_left (by decide : 1 <= 64) _) hr.units
theorem sv {n : Nat} (h : n <= 1000) : n < sizeLine := Nat.lt_of_le_of_lt h (by decide)
section
variable {X : Cx}
theorem pv (i : Nat) {x : Str} {pos : Pos} (hN : X.N[i]? = some x := by rfl) (hv : Vis X.env.scope x := by first | exact Or.inl rfl | exact Or.inr (Or.inl rfl) | exact Or.inr (Or.inr rfl)) (hd : (x == ("__debug__" : Str)) = false := by decide)
  (hcd : (x == ("__classdict__" : Str)) = false := by decide) : PE X (.Name x pos) (lZ i) := Am hN hv hd hcd
end
theorem eR {c A B : Prop} [Decidable c] (h1 : c -> A) (h2 : ¬ c -> B) : if c then A else B := by
 by_cases h : c
 ·rw [if_pos h]
  exact h1 h
 ·rw [if_neg h]
  exact h2 h
def aq (H H' : Hp) : Prop := ∀ b o, H b = some o -> H' b = some o
theorem aq.refl (H : Hp) : aq H H := fun _ _ h => h
theorem aq.trans {H H1 H2 : Hp} (a : aq H H1) (b : aq H1 H2) : aq H H2 := fun c o h => b c o (a c o h)
theorem aq.free {H H' : Hp} (e : aq H H') {l : Addr} (h : H' l = Option.none) : H l = Option.none := by
 cases q : H l with
 | none => rfl
 | some o =>
  rw [e l o q] at h
  cases h
theorem aq.seq {K : Fg} {H H' : Hp} {a : Addr} {xs : List V} (e : aq H H') (h : SqL K H a xs) : SqL K H' a xs := by
 rcases h with (h | ⟨o, h⟩) | h
 ·exact .inl (.inl (e _ _ h))
 ·exact .inl (.inr ⟨o, e _ _ h⟩)
 ·exact .inr h
section
variable {κ : Type} [DecidableEq κ]
theorem uk : ∀ {l : List κ} {k : κ}, l.Nodup -> ¬ k ∈ l -> (l ++ [k]).Nodup
 | [], k, _, _ => by simp
 | a :: r, k, h, hk => by
  obtain ⟨h1, h2⟩ := List.nodup_cons.mp h
  show (a :: (r ++ [k])).Nodup
  refine List.nodup_cons.mpr ⟨fun m => ?_, uk h2 fun m => hk (C5.mpr (Or.inr m))⟩
  rcases Dh.mp m with q | q
  ·exact h1 q
  ·exact hk (C5.mpr (Or.inl (Db.mp q).symm))
end
theorem aQ {xs : List V} {z : Int} {j : Nat} {v : V} (e : z = (j : Int)) (h : xs[j]? = some v) : atI xs z = some v := by
 rw [e]
 exact zp h
theorem BJ {α : Type} {l : List α} (hN : l.Nodup) {i j : Nat} {x : α} (a : l[i]? = some x) (b : l[j]? = some x) : i = j := by
 obtain ⟨h1, e1⟩ := CY.mp a
 obtain ⟨h2, e2⟩ := CY.mp b
 exact (List.getElem_inj hN).mp (e1.trans e2.symm)
theorem aq.made {H H1 : Hp} {x dx C : Addr} (nx : H x = Option.none) (nd : H dx = Option.none) (k : ∀ b o, (upd (upd H dx (.own x)) x (.ins C dx [])) b = some o -> b ≠ x -> H1 b = some o) : aq H H1 := fun b o e =>
 k b o (by rw [ag (ah e nx), ag (ah e nd)]; exact e) (ah e nx)
end L2
end
section
namespace L2
open PySem PyProof.Rows PySem.Spec
abbrev bmX : List Value := [.type "Exception", .type "BaseException", .type "object"]
abbrev B3 (nm q : Str) (C N : Addr) (bs : List Value) (sn : List Str) (sub : List Value) (ab : Bool) (col : Option Bool) (dd : Option Addr) (k0 k1 k2 k3 k5 : Option Value) : Obj :=
 excClassObj nm q C N bs bmX true sn sub ab col dd k0 k1 k2 k3 k5 "Exception.__new__"
structure lP (K : Fg) (C N fI : Addr) : Prop where
 ob : ∃ nm q bs sn sub ab col dd k0 k1 k2 k3 k5, K.lookup C = some (B3 nm q C N bs sn sub ab col dd k0 k1 k2 k3 k5)
 ns : PySem.W.nsOkIn K N = true
 init : PySem.W.nsIn K N "__init__" = some (some (.ref fI))
 fn : PySem.W.isFn K (.ref fI) = true
 kp : PySem.W.keepIn K (.ref C) = true
 sa : PySem.W.findIn K (.ref C) "__setattr__" = some (some (.builtin "object.__setattr__"))
 ga : PySem.W.findIn K (.ref C) "__getattribute__" = some (some (.builtin "BaseException.__getattribute__"))
 gh : PySem.W.findIn K (.ref C) "__getattr__" = some none
section
variable {K : Fg} {C N fI : Addr} {M : Model} {h : Heap}
theorem lP.cd (c : lP K C N fI) : ∃ cd, PySem.W.clsIn K C = some cd /\ cd.mro = .ref C :: bmX /\ cd.hasDict = true := by
 obtain ⟨nm, q, bs, sn, sub, ab, col, dd, k0, k1, k2, k3, k5, e⟩ := c.ob
 unfold PySem.W.clsIn
 rw [e]
 exact ⟨_, rfl, rfl, rfl⟩
theorem lP.mro (c : lP K C N fI) (X : K.In h) : PySem.W.Looks M h (mroOf (.ref C)) (.ref C :: bmX) := by
 obtain ⟨cd, h1, h2, _⟩ := c.cd
 rw [<- h2]
 exact (PySem.W.looks_clsIn X h1).andThen .now
theorem lP.sub (c : lP K C N fI) (X : K.In h) {b : Value} {r : Bool} (e : (Value.ref C :: bmX).contains b = r) : PySem.W.Looks M h (isSubtype (.ref C) b) r := by
 obtain ⟨cd, h1, h2, _⟩ := c.cd
 refine PySem.W.looks_mroIn X ?_
 unfold PySem.W.mroIn
 rw [h1, Option.bind_some, h2]
 exact congrArg some e
theorem xT {x : Addr} {o : Obj} (hx : h.get? x = some o) (hc : o.cls = .ref C) : PySem.W.Looks M h (typeOf (.ref x)) (.ref C) := hc ▸ (PySem.W.Looks.ld hx).andThen .now
theorem lP.inst (c : lP K C N fI) (X : K.In h) {x : Addr} {o : Obj} (hx : h.get? x = some o) (hc : o.cls = .ref C) {b : Value} {r : Bool} (e : (Value.ref C :: bmX).contains b = r) : PySem.W.Looks M h (isInstance (.ref x) b) r :=
 (xT hx hc).andThen (c.sub X e)
end
section
open Builtin Builtin.ObjectAttr
variable {prog : Program} {w : World} {A : Around} {E : Value -> Shared -> Prop} {s : Shared} {K : Fg} {C N fI x : Addr} {name : Str} {v : Value} {dat : Array Value} {sl : Array (Option Value)}
theorem uY {Q : Fin -> Shared -> Prop} {o : Obj} {tk : Tok} (c : lP K C N fI) (X : K.In s.heap) (hx : s.heap.get? x = some o) (hc : o.cls = .ref C) (hn : o.dict = none) (hd : o.data = .fields dat) {b : Bool}
  (h : ∀ h' t', h'.get? x = some { o with dict := some s.heap.objs.size } -> h'.Ns1 s.heap.objs.size (fun y => if y = name then some v else none) -> (∀ b u, b ≠ x -> s.heap.get? b = some u -> h'.get? b = some u) ->
   Q (.done (.ret .none)) { s with heap := h', toks := t' }) : wpAny (model prog w) A (storeInOwnDict (.ref x) (.ref C) (.str name tk) name v b) Q E s := by
 obtain ⟨cd, c1, _, c3⟩ := c.cd
 have hlt : x < s.heap.objs.size := Df hx
 have free : ({ o with dict := some s.heap.objs.size } : Obj).isFreed = false := by
  obtain ⟨oc, od, ot, os⟩ := o
  cases hd
  rfl
 have px : (s.heap.push PySem.W.emptyDict).get? x = some o := CW _ hx
 have atD : ((s.heap.push PySem.W.emptyDict).update x fun u => { u with dict := some s.heap.objs.size }).get? s.heap.objs.size = some PySem.W.emptyDict := by
  rw [Heap.get?_update_ne _ _ _ _ (Nat.ne_of_gt hlt)]
  exact Di _ rfl
 have e0 : ((s.heap.push PySem.W.emptyDict).update x fun u => { u with dict := some s.heap.objs.size }).Ns1 s.heap.objs.size (fun _ => none) :=
  Heap.Ns1.of_empty ⟨_, #[], _, atD, rfl, (fun _ z => absurd z (by simp)), fun _ => rfl⟩
 refine CQ (CT (CQ (CQ (wpAny_loadPart hx ?_))))
 rw [hc]
 refine CQ ((PySem.W.looks_clsIn X c1).here ?_)
 rw [c3, hn]
 show wpAny _ _ (match o.data with
  | .cls _ => pure none
  | _ => do let d <- alloc PySem.W.emptyDict; update x (fun u => { u with dict := some d }); dictMade (.ref C) x d) _ _ s
 rw [hd]
 refine CQ (wpAny_alloc' (CQ (wpAny_update' px (CT (CQ (CT (CQ (wpAny_nsSet1 e0 fun h' n1 sb => ?_))))))))
 obtain ⟨od, es, ep, q1, q2, q3⟩ := n1.count (Within.cons name v Within.nil)
 have small : es.size <= sizeLine + 1 := Nat.le_trans q3 (by show 1 <= sizeLine + 1; decide)
 refine CQ (wpAny_lookBehind q1 (by rw [q2]; exact pastItsLine_dict small) (CT (h h' _ ?_ n1 fun b u hb q => ?_)))
 ·rw [sb.2 x (Ds hlt)]
  exact Heap.get?_update_self _ px free
 ·rw [sb.2 b (Ds (Df q)), Heap.get?_update_ne _ _ _ _ hb]
  exact CW _ q
theorem yY (C : Addr) : (Value.ref C :: bmX).contains (.type "object") = true := by rw [List.contains_cons]; rfl
theorem qi (C : Addr) : (Value.ref C :: bmX).contains (.type "BaseException") = true := by rw [List.contains_cons]; rfl
theorem Cb {Q : Unit -> Shared -> Prop} {o : Obj} (c : lP K C N fI) (X : K.In s.heap) (hf : PySem.W.findIn K (.ref C) name = some none) (hx : s.heap.get? x = some o) (hc : o.cls = .ref C) (hn : o.dict = none) (hd : o.data = .fields dat)
  (h : ∀ h' t', h'.get? x = some { o with dict := some s.heap.objs.size } -> h'.Ns1 s.heap.objs.size (fun y => if y = name then some v else none) -> (∀ b u, b ≠ x -> s.heap.get? b = some u -> h'.get? b = some u) ->
   Q () { s with heap := h', toks := t' }) : wpAny (model prog w) A (setAttr (.ref x) name v) Q E s := by
 obtain ⟨hp, g, d, tk, os⟩ := s
 have J : PySem.W.InstAt hp x o C none := ⟨hx, hc, by unfold PySem.W.notCls; rw [hd], by rw [hn]; trivial⟩
 have SF := PySem.F.store_object
 have sub : PySem.W.Looks (model prog w) hp (isInstance (.ref x) (.type "object")) true := c.inst X hx hc (yY C)
 refine PySem.W.set_plain X J c.sa ?_
 refine codeAny_call_builtin SF.slot.plain SF.entry (@PySem.W.check_slot (model prog w) _ _ ⟨hp, g, d, tk + 1, os⟩ "object.__setattr__" "object" "__setattr__" (.ref x) [.str name tk, v] [] _ SF.kind SF.split sub (SF.args (.ref x) (.str name tk) v) ?_)
 rw [PySem.W.osa_eq, refuse_eq]
 refine CQ (CQ (J.type.at (CQ ((c.mro X).at ?_))))
 rw [refuseLoop_ref, PySem.F.store_Exception.passes]
 refine CT (CQ (J.type.at (CQ ((PySem.W.looks_findIn X hf).at (CQ (CT ?_))))))
 exact uY (s := ⟨hp, g, d, tk + 1, os⟩) c X hx hc hn hd fun h' t' e1 e2 e3 => h h' t' e1 e2 e3
theorem AD (self : Value) (name : Str) (tk : Tok) : ∃ k : Value -> Sem Fin, Builtin.«object.__getattribute__» ⟨[self, .str name tk], []⟩ = (typeOf self >>= fun tp => find self tp name >>= fun r => match r with
  | .value v => ret v
  | .bind g a => bindTo g a self tp
  | .missing => k tp) := ⟨_, rfl⟩
theorem Cc {Q : Value -> Shared -> Prop} {o : Obj} {dx : Addr} {mA : Str -> Option Value} (c : lP K C N fI) (X : K.In s.heap) (hf : PySem.W.findIn K (.ref C) name = some none) (hx : s.heap.get? x = some o) (hc : o.cls = .ref C) (hn : o.dict = some dx) (hd : o.data = .fields dat)
  (hm : s.heap.Ns dx mA) (hv : mA name = some v) (hh : handedOut v = pure v) (h : Q v { s with toks := s.toks + 1 }) : wpAny (model prog w) A (getAttr (.ref x) name true) Q E s := by
 obtain ⟨hp, g, d, tk, os⟩ := s
 obtain ⟨cd, c1, _, c3⟩ := c.cd
 have T := xT (M := model prog w) hx hc
 have sub : PySem.W.Looks (model prog w) hp (isInstance (.ref x) (.type "BaseException")) true := c.inst X hx hc (qi C)
 have idict : PySem.W.Looks (model prog w) hp (instanceDict x false) (some dx) := by
  refine (PySem.W.Looks.ld hx).andThen ?_
  rw [hc]
  refine (PySem.W.looks_clsIn X c1).andThen ?_
  rw [c3, hn]
  exact .now
 have own : PySem.W.Looks (model prog w) hp (inOwnDict name (.ref x)) (some v) := by
  refine PySem.W.Looks.andThen (a := some dx) ?_ (fun A Q E s k q => wpAny_nsGet (hm.keeps k) (by rw [hv]; exact q))
  refine (PySem.W.Looks.ld hx).andThen ?_
  rw [hd]
  exact idict
 have fnd : PySem.W.Looks (model prog w) hp (find (.ref x) (.ref C) name) (.value v) :=
  (PySem.W.looks_findIn X hf).andThen (PySem.W.Looks.now.andThen (PySem.W.Looks.now.andThen (own.andThen (PySem.W.Looks.tag .now))))
 refine CQ (wpAny_mkText (wpAny_holding (CQ (T.at (CQ ((PySem.W.looks_findIn X c.ga).at ?_))))))
 show wpAny _ _ (getAttrByItsOwn (.ref x) (.str name tk) (.ref C) (.builtin "BaseException.__getattribute__") true true) _ _ _
 refine CQ ((PySem.W.looks_findIn X c.gh).at (CQ (wpAny_attempt (wpAny_holding ?_))))
 show wpAny _ _ (boundAndCalled (.builtin "BaseException.__getattribute__") (.ref x) (.str name tk)) _ _ _
 unfold boundAndCalled
 rw [PySem.F.attr_Exception.ga.bind]
 refine CQ (CT (wpAny_call (codeAny_call_builtin PySem.F.attr_Exception.ga.plain PySem.F.entry_bexc_ga
  (@PySem.W.check_slot (model prog w) _ _ ⟨hp, g, d, tk + 1, os⟩ "BaseException.__getattribute__" "BaseException" "__getattribute__" (.ref x) [.str name tk] [] _ (by decide +kernel) (by decide +kernel) sub (PySem.F.args_bexc_ga _ _) ?_))))
 obtain ⟨k, ek⟩ := AD (.ref x) name tk
 show wpAny _ _ (Builtin.«object.__getattribute__» ⟨[.ref x, .str name tk], []⟩) _ _ _
 rw [ek]
 refine CQ (T.at (CQ (fnd.at (CT ?_))))
 show wpAny _ _ (handedOut v) _ _ _
 rw [hh]
 exact CT h
end
end L2
end
section
namespace L2
open PySem PyProof.Rows PySem.Spec
structure cf (ch F : List Addr) (h h' : Heap) : Prop where
 keep : ∀ b o, b ∉ ch -> b ∉ F -> h.get? b = some o -> h'.get? b = some o
 slot : ∀ b o, b ∉ ch -> b ∈ F -> h.get? b = some o -> ∃ sl, h'.get? b = some { o with slots := sl }
 sz : h.objs.size <= h'.objs.size
theorem cf.trans {ch1 ch2 ch F : List Addr} {h h1 h2 : Heap} (a : cf ch1 F h h1) (b : cf ch2 F h1 h2) (s1 : ∀ x ∈ ch1, x ∈ ch) (s2 : ∀ x ∈ ch2, x ∈ ch) : cf ch F h h2 where
 keep := fun c o hc hf e => b.keep c o (fun z => hc (s2 c z)) hf (a.keep c o (fun z => hc (s1 c z)) hf e)
 slot := fun c o hc hf e => by
  obtain ⟨sl, e1⟩ := a.slot c o (fun z => hc (s1 c z)) hf e
  obtain ⟨sl2, e2⟩ := b.slot c _ (fun z => hc (s2 c z)) hf e1
  exact ⟨sl2, e2⟩
 sz := Nat.le_trans a.sz b.sz
theorem cf.one {F : List Addr} {h : Heap} {a : Addr} {f : Obj -> Obj} : cf [a] F h (h.update a f) := by
 have k : ∀ b o, b ∉ [a] -> h.get? b = some o -> (h.update a f).get? b = some o := fun b o hb e => by
  rw [Heap.get?_update_ne _ _ _ _ (fun z => hb (by simp [z]))]
  exact e
 exact ⟨fun b o hb _ e => k b o hb e, fun b o hb _ e => ⟨o.slots, k b o hb e⟩, Nat.le_of_eq (Heap.size_update _ _ _).symm⟩
theorem cf.more {F : List Addr} {h : Heap} {o : Obj} : cf [] F h (h.push o) :=
 ⟨fun b u _ _ e => CW _ e, fun b u _ _ e => ⟨u.slots, CW _ e⟩, by rw [Heap.size_push]; exact Nat.le_succ _⟩
theorem cf.slots {F : List Addr} {h h' : Heap} (x : Heap.SlotsOnly F h h') : cf [] F h h' :=
 ⟨fun b o _ hf e => (x.2.1 b hf).trans e, fun b o _ _ e => x.2.2 b o e, Nat.le_of_eq x.1.symm⟩
section
variable {P : Program} {w : World} {ch F : List Addr} {H : Hp} {h h' : Heap}
theorem cf.hok (k : cf ch F h h') (x : HOk P w H h) (hc : ∀ b ∈ ch, H b = none) (hf : ∀ b ∈ F, H b = none) : HOk P w H h' := fun a o e => by
 have no : ∀ b u, H b = some u -> b ∉ ch /\ b ∉ F := fun b u q => ⟨fun z => (by rw [hc b z] at q; cases q), fun z => (by rw [hf b z] at q; cases q)⟩
 refine (x a o e).stay (fun b u hb q => ?_) (fun _ q => q) fun _ _ q => q
 rcases hb with z | z
 ·subst z
  exact k.keep b u (no b o e).1 (no b o e).2 q
 ·exact k.keep b u (no b _ z).1 (no b _ z).2 q
theorem cf.there (k : cf ch F h h') {b : Addr} {o : Obj} (hc : b ∉ ch) (e : h.get? b = some o) : ∃ sl, h'.get? b = some { o with slots := sl } := by
 by_cases hf : b ∈ F
 ·exact k.slot b o hc hf e
 ·exact ⟨o.slots, k.keep b o hc hf e⟩
theorem bu.there {a : Addr} : ∀ {o : HO}, bu P w H h a o -> ∃ u, h.get? a = some u
 | .lst _, ⟨_, _, _, _, e⟩ => ⟨_, e⟩
 | .tup _, ⟨_, _, _, _, e, _⟩ => ⟨_, e⟩
 | .dK _, ⟨_, _, _, _, _, _, _, e, _⟩ => ⟨_, e⟩
 | .dT _, ⟨_, _, _, _, _, _, _, e, _⟩ => ⟨_, e⟩
 | .set _ _, ⟨_, _, _, _, e, _⟩ => ⟨_, e⟩
 | .ins _ _ _, ⟨_, _, _, e, _⟩ => ⟨_, e⟩
 | .own _, e => e
 | .xd _, ⟨_, ⟨_, _, _, e, _⟩, _⟩ => ⟨_, e⟩
 | .rng _ _, ⟨_, _, _, e⟩ => ⟨_, e⟩
 | .frz _ _, ⟨e, _⟩ => ⟨_, e⟩
 | .tbl _, e => ⟨_, e⟩
 | .met _ _, e => ⟨_, e⟩
 | .ext _, ⟨_, e, _⟩ => e
theorem HOk.gone (x : HOk P w H h) {a : Addr} (e : h.get? a = none) : H a = none := by
 cases q : H a with
 | none => rfl
 | some o =>
  obtain ⟨u, z⟩ := (x a o q).there
  rw [e] at z
  cases z
end
def Trc (Y : Addr -> Prop) (H : Hp) (h : Heap) (e : Addr) (vs : Array Value) (fl : Value) : Prop :=
 ∃ (T : Addr) (oT : Obj) (ts : Array Value), vs[1]? = some (.ref T) /\ Y T /\ H T = none /\ T ≠ e /\ h.get? T = some oT /\ oT.data = .fields ts /\ ts[3]? = some fl
def gu (Y : Addr -> Prop) (H : Hp) (h : Heap) (e C dx : Addr) : Prop :=
 ∃ (vs : Array Value) (sl : Array (Option Value)), Y e /\ H e = none /\ h.get? e = some ⟨.ref C, some dx, .fields vs, sl⟩ /\ 1 < vs.size /\ (vs[1]? = some .none ∨ Trc Y H h e vs .none)
def kn (Y : Addr -> Prop) (H : Hp) (h : Heap) (e C dx : Addr) (fl : Value) : Prop :=
 ∃ (vs : Array Value) (sl : Array (Option Value)), Y e /\ H e = none /\ h.get? e = some ⟨.ref C, some dx, .fields vs, sl⟩ /\ 1 < vs.size /\ Trc Y H h e vs fl
theorem gu.young {Y Y' : Addr -> Prop} {H : Hp} {h : Heap} {e C dx : Addr} (x : gu Y H h e C dx) (k : ∀ b, Y b -> Y' b) : gu Y' H h e C dx := by
 obtain ⟨vs, sl, y, n, he, z, t⟩ := x
 refine ⟨vs, sl, k _ y, n, he, z, ?_⟩
 rcases t with t | ⟨T, oT, ts, h1, h2, r⟩
 ·exact .inl t
 ·exact .inr ⟨T, oT, ts, h1, k _ h2, r⟩
theorem kn.raised {Y : Addr -> Prop} {H : Hp} {h : Heap} {e C dx : Addr} (x : kn Y H h e C dx .none) : gu Y H h e C dx := by
 obtain ⟨vs, sl, y, n, he, hz, t⟩ := x
 exact ⟨vs, sl, y, n, he, hz, .inr t⟩
section
variable {M : Model} {A : Around} {E : Value -> Shared -> Prop} {s : Shared}
theorem AN (T : Addr) : (Value.ref T != Value.none) = true := rfl
theorem Ak {a b c d e : Value} {r : List Value} : (([a, b, c, d, e] ++ r).toArray)[3]? = some d := by simp
theorem xI {base : Heap} {env : Env} {outer : List Env} {L e : Addr} {oe : Obj} {vs : Array Value} {head : Value} {had : Bool} {Q : Unit -> Shared -> Prop}
  (fr : A.frames = some (env :: outer)) (ff : s.heap.FunFrames base (env :: outer)) (fe : env.frame = some L) (at_ : s.heap.get? e = some oe) (dat : oe.data = .fields vs) (two : 1 < vs.size)
  (h : ∀ (h' : Heap) (T : Addr) (oT : Obj) (ts : Array Value), s.heap.objs.size <= T -> T ≠ e -> h'.get? e = some (Obj.mapFields (·.setIfInBounds 1 (.ref T)) oe) -> h'.get? T = some oT -> oT.data = .fields ts -> ts[3]? = some (rawInt L) ->
   cf [e] (frs (env :: outer)) s.heap h' -> Q () { s with heap := h' }) :
  wpAny M A (frameOf env >>= fun a => entryPlaceOf L had >>= fun pl => EntryCells.newEntry head a .none (rawInt L) .none pl >>= fun b => setField (.ref e) 1 b) Q E s := by
 have out : e ∉ frs (env :: outer) := fun z => by
  obtain ⟨_, o, q, nf⟩ := ff.mem z
  cases at_.symm.trans q
  exact nf vs dat
 refine CQ (wpAny_frameOf_fun fr ff fe fun hA only => CQ (wpAny_entryPlaceOf fun pl isPl => CQ (wpAny_newObj_type ?_ (isPl.sizeOk5 _ _ _ _ _))))
 have k1 : cf [] (frs (env :: outer)) s.heap hA := .slots only
 have eA : hA.get? e = some oe := k1.keep e oe (by simp) out at_
 have far : hA.objs.size ≠ e := Nat.ne_of_gt (Df eA)
 refine wpAny_setField (CW _ eA) dat two ?_
 exact h _ hA.objs.size _ _ k1.sz far (Heap.get?_update_self _ (CW _ eA) (Obj.isFreed_of_fields (Obj.data_mapFields dat _))) ((Heap.get?_update_ne _ _ _ _ far).trans (Di _ rfl)) rfl Ak
  ((k1.trans (ch := [e]) .more (by simp) (by simp)).trans .one (by simp) (by simp))
theorem AE {Y : Addr -> Prop} {H : Hp} {base : Heap} {env : Env} {outer : List Env} {L e C dx : Addr} {Q : Unit -> Shared -> Prop}
  (fr : A.frames = some (env :: outer)) (ff : s.heap.FunFrames base (env :: outer)) (fe : env.frame = some L) (R : gu Y H s.heap e C dx) (hY : ∀ b, s.heap.objs.size <= b -> Y b) (hH : ∀ b, s.heap.objs.size <= b -> H b = none)
  (h : ∀ h' ch, (∀ b ∈ ch, Y b /\ H b = none) -> cf ch (frs (env :: outer)) s.heap h' -> kn Y H h' e C dx (rawInt L) -> Q () { s with heap := h' }) :
  wpAny M A (noteFrame (.ref e) env) Q E s := by
 obtain ⟨vs, sl, y, n, he, two, tr⟩ := R
 have tag : ∀ (vs : Array Value) (T : Addr), 1 < vs.size -> (vs.setIfInBounds 1 (Value.ref T))[1]? = some (.ref T) /\ 1 < (vs.setIfInBounds 1 (Value.ref T)).size := fun vs T z => ⟨by simp [z], by simpa using z⟩
 unfold noteFrame
 simp only [fe]
 rcases tr with none1 | ⟨T, oT, ts, one, hY1, hn1, ne, atT, datT, th⟩
 ·refine CQ (wpAny_field he rfl none1 ?_)
  refine xI fr ff fe he rfl two fun h' T oT ts z1 z2 z3 z4 z5 z6 k => h h' [e] (fun b hb => ?_) k ⟨_, sl, y, n, z3, (tag vs T two).2, T, oT, ts, (tag vs T two).1, hY T z1, hH T z1, z2, z4, z5, z6⟩
  rw [Db.mp hb]
  exact ⟨y, n⟩
 ·refine CQ (wpAny_field he rfl one ?_)
  rw [if_pos (AN T)]
  refine CQ (wpAny_field atT datT th ?_)
  rw [if_neg (by simp [rawInt])]
  refine CQ (wpAny_setField atT datT (Array.getElem?_eq_some_iff.mp th).1 ?_)
  have k0 : cf [T] (frs (env :: outer)) s.heap (s.heap.update T (Obj.mapFields (·.setIfInBounds 3 Value.none))) := .one
  have apart : ∀ b o, s.heap.get? b = some o -> (∀ us, o.data ≠ .fields us) -> b ∉ [T] := fun b o q nf z => by
   rw [Db.mp z, atT] at q
   cases q
   exact nf ts datT
  refine xI (s := { s with heap := s.heap.update T (Obj.mapFields (·.setIfInBounds 3 Value.none)) }) fr (ff.of_keeps fun b o q nf => (k0.there (apart b o q nf) q).elim fun u z => ⟨_, z, rfl⟩) fe (by rw [Heap.get?_update_ne _ _ _ _ (Ne.symm ne)]; exact he) rfl two
   fun h' T' oT' ts' z1 z2 z3 z4 z5 z6 k => ?_
  have far : s.heap.objs.size <= T' := Nat.le_trans k0.sz z1
  refine h h' [e, T] (fun b hb => ?_) (k0.trans k (by simp) (by simp)) ⟨_, sl, y, n, z3, (tag vs T' two).2, T', oT', ts', (tag vs T' two).1, hY T' far, hH T' far, z2, z4, z5, z6⟩
  rcases C5.mp hb with q | q
  ·rw [q]
   exact ⟨y, n⟩
  ·rw [Db.mp q]
   exact ⟨hY1, hn1⟩
theorem BR {Y : Addr -> Prop} {H : Hp} {F : List Addr} {e C dx : Addr} {fl : Value} {Q : Unit -> Shared -> Prop} (R : kn Y H s.heap e C dx fl)
  (h : ∀ h' ch, (∀ b ∈ ch, Y b /\ H b = none) -> cf ch F s.heap h' -> kn Y H h' e C dx .none -> Q () { s with heap := h' }) : wpAny M A (setFlight (.ref e) none) Q E s := by
 obtain ⟨vs, sl, y, n, he, two, T, oT, ts, one, hY1, hn1, ne, atT, datT, th⟩ := R
 have big : 3 < ts.size := (Array.getElem?_eq_some_iff.mp th).1
 unfold setFlight
 refine CQ (wpAny_field he rfl one ?_)
 rw [if_pos (AN T)]
 refine wpAny_setField atT datT big (h _ [T] (fun b hb => ?_) .one
  ⟨vs, sl, y, n, by rw [Heap.get?_update_ne _ _ _ _ (Ne.symm ne)]; exact he, two, T, _, _, one, hY1, hn1, ne, Heap.get?_update_self _ atT (Obj.isFreed_of_fields (Obj.data_mapFields datT _)), Obj.data_mapFields datT _, by simp [big]⟩)
 rw [Db.mp hb]
 exact ⟨hY1, hn1⟩
theorem AG {Y : Addr -> Prop} {H : Hp} {base : Heap} {env : Env} {outer : List Env} {L e C dx : Addr} {Q : Unit -> Shared -> Prop}
  (fr : A.frames = some (env :: outer)) (ff : s.heap.FunFrames base (env :: outer)) (fe : env.frame = some L) (R : gu Y H s.heap e C dx) (hY : ∀ b, s.heap.objs.size <= b -> Y b) (hH : ∀ b, s.heap.objs.size <= b -> H b = none)
  (h : ∀ h' ch, (∀ b ∈ ch, Y b /\ H b = none) -> cf ch (frs (env :: outer)) s.heap h' -> kn Y H h' e C dx .none -> Q () { s with heap := h' }) :
  wpAny M A (leaving env (.ref e)) Q E s := by
 refine CQ (AE fr ff fe R hY hH fun h1 ch1 c1 k1 m1 => ?_)
 refine BR (s := { s with heap := h1 }) (F := frs (env :: outer)) m1 fun h2 ch2 c2 k2 m2 => ?_
 exact h h2 (ch1 ++ ch2) (fun b hb => (Dh.mp hb).elim (c1 b) (c2 b)) (k1.trans k2 (fun b hb => List.mem_append_left _ hb) fun b hb => List.mem_append_right _ hb) m2
end
end L2
end
section
namespace L2
open PySem PyProof.Rows PySem.Spec
def nG (X : Cx) (pins : List (Addr × Obj)) (b : Addr) : Prop :=
 X.s_0.heap.get? b = none /\ b ≠ X.env.locals /\ (∀ x c, X.env.cells.lookup x = some c -> c ≠ b) /\ ∀ p ∈ X.pn ++ pins, p.1 ≠ b
section
variable {X : Cx} {pins : List (Addr × Obj)} {σ : St} {H H' : Hp} {s : Shared}
theorem Inv.young (I : Inv X pins σ H s) (hx : X.ex = []) {b : Addr} (hb : s.heap.get? b = none) : nG X pins b := by
 have ne : ∀ {c : Addr} {o : Obj}, s.heap.get? c = some o -> c ≠ b := fun {c o} e z => by
  rw [z, hb] at e
  cases e
 refine ⟨?_, ?_, fun x c e => ?_, fun p hp => ne (I.pin p hp).1⟩
 ·cases q : X.s_0.heap.get? b with
  | none => rfl
  | some o =>
   obtain ⟨o', z⟩ := I.base.there b o q (by rw [hx]; simp)
   rw [hb] at z
   cases z
 ·obtain ⟨m, ⟨o, _, _, e, _⟩, _⟩ := I.loc
  exact (ne e).symm
 ·obtain ⟨v, o, z, _⟩ := I.cell x c e
  exact ne z
theorem Inv.youngS (I : Inv X pins σ H s) (hx : X.ex = []) {b : Addr} (hb : s.heap.objs.size <= b) : nG X pins b := I.young hx (Heap.get?_none_of_le hb)
theorem Inv.keptC {h' : Heap} {ch : List Addr} (I : Inv X pins σ H s) (k : cf ch (frs X.stack) s.heap h') (hc : ∀ b ∈ ch, nG X pins b /\ H b = none) : Inv X pins σ H { s with heap := h' } := by
 have old : ∀ b o, X.s_0.heap.get? b = some o -> b ∉ ch := fun b o e z => by
  rw [(hc b z).1.1] at e
  cases e
 have oldL : ∀ b o, X.s_0.heap.get? b = some o -> b ≠ X.env.locals := fun b o e => Ds (Dl (Df e) I.ok.above)
 have keep : ∀ b o, b ∉ ch -> b ≠ X.env.locals -> b ∉ X.fs -> s.heap.get? b = some o -> h'.get? b = some o := fun b o h1 h2 h3 e =>
  k.keep b o h1 (fun z => (C5.mp (I.stkSub b z)).elim h2 h3) e
 have cellK : ∀ x c v, X.env.cells.lookup x = some c -> s.heap.IsCell c v -> h'.IsCell c v := fun x c v e ⟨o, q, d⟩ => by
  obtain ⟨sl, z⟩ := k.there (fun w => (hc c w).1.2.2.1 x c e rfl) q
  exact ⟨_, z, d⟩
 refine ⟨I.ok, I.os, I.bare, ⟨fun b o e n hf hx => ?_, fun b o e n hf hx => ?_, I.base.free, fun b o e hx => ?_, I.base.tups, I.base.frzs, I.base.tbls⟩, ?_, fun x c e => ?_, I.free, I.freeC, fun p hp => ?_, k.hok I.hok (fun b hb => (hc b hb).2) I.stkFree, I.len⟩
 ·exact keep b o (old b o e) (oldL b o e) hf (I.base.keep b o e n hf hx)
 ·obtain ⟨sl, z⟩ := I.base.slot b o e n hf hx
  obtain ⟨sl', z'⟩ := k.there (old b o e) z
  exact ⟨sl', z'⟩
 ·obtain ⟨o', z⟩ := I.base.there b o e hx
  obtain ⟨sl', z'⟩ := k.there (old b o e) z
  exact ⟨_, z'⟩
 ·obtain ⟨m, ⟨o, es, ep, q, r⟩, hl⟩ := I.loc
  obtain ⟨sl, z⟩ := k.there (fun w => (hc _ w).1.2.1 rfl) q
  refine ⟨m, ⟨_, es, ep, z, r⟩, fun i x v e1 e2 e3 => ?_⟩
  obtain ⟨u, ru, l⟩ := hl i x v e1 e2 e3
  refine ⟨u, ru, ?_⟩
  rcases l with l | ⟨kd, c, e, cl⟩
  ·exact .inl l
  ·exact .inr ⟨kd, c, e, cellK x c _ e cl⟩
 ·obtain ⟨v, cl⟩ := I.cell x c e
  exact ⟨v, cellK x c v e cl⟩
 ·obtain ⟨e, n, ne, nf, d⟩ := I.pin p hp
  exact ⟨keep p.1 p.2 (fun w => (hc _ w).1.2.2.2 p hp rfl) ne nf e, n, ne, nf, d⟩
theorem Inv.come {h' : Heap} {t' : Nat} {a : Addr} {o : HO} (I : Inv X pins σ H s) (k : ∀ b u, s.heap.get? b = some u -> h'.get? b = some u) (hn : s.heap.get? a = none) (new : ∀ H, bu X.prog X.w H h' a o) : Inv X pins σ (upd H a o) { s with heap := h', toks := t' } := by
 have ha : H a = none := I.hok.gone hn
 have ne : ∀ b u, s.heap.get? b = some u -> b ≠ a := fun b u e z => by
  rw [z, hn] at e
  cases e
 refine I.un (s := s) ⟨fun b u e _ _ _ => k b u e, fun b u e _ _ _ => ⟨u.slots, k b u e⟩, fun b u e n _ => by rw [ag (ne b u e)]; exact n, fun b u e _ => ⟨u, k b u e⟩, fun b xs e => by rw [ag (ah e ha)]; exact e,
  fun b u xs e => by rw [ag (ah e ha)]; exact e, fun b ps e => ⟨#[], by rw [ag (ah e ha), e]; simp⟩⟩ fun b u e => ?_
 by_cases hb : b = a
 ·subst hb
  rw [upd_same] at e
  cases e
  exact new _
 ·rw [ag hb] at e
  exact (I.hok b u e).stay (fun c v _ q => k c v q) (fun c q => by rw [ag (ah q ha)]; exact q) fun c xs q => by rw [ag (ah q ha)]; exact q
end
def CX1 (P : Program) (w : World) : CXT := fun outer H s E ev s' => ∃ e C dx H', ev = .ref e /\ s'.os = s.os /\ AllBare s'.gens /\ Un (frs outer) [] H H' s.heap s'.heap /\ HOk P w H' s'.heap /\ gu (fun b => s.heap.get? b = none) H' s'.heap e C dx /\ E (.ref C) (some dx) H'
def vo (X : Cx) (EX : St -> XK) : Prop := ∀ (pins : List (Addr × Obj)) (σ : St) (H : Hp) (s : Shared) (e C dx : Addr), Inv X pins σ H s -> gu (nG X pins) H s.heap e C dx -> EX σ (.ref C) (some dx) H -> X.xe (.ref e) s
def fH (CX : CXT) (X : Cx) (EX : St -> XK) : Prop := ∀ (pins : List (Addr × Obj)) (σ : St) (H : Hp) (s : Shared) (e : Value) (s' : Shared), Inv X pins σ H s -> CX X.stack H s (EX σ) e s' -> X.xe e s'
theorem gw.s {CX : CXT} {X : Cx} {E : XK} (h : gw CX X E) : fH CX X fun _ => E := h
theorem vo.passes {X : Cx} {EX : St -> XK} (T : vo X EX) (hx : X.ex = []) : fH (CX1 X.prog X.w) X EX := fun pins σ H s ev s' I h => by
 obtain ⟨e, C, dx, H', rfl, os, bare, un, hok, R, hE⟩ := h
 have I' : Inv X pins σ H' s' := I.call' (ch := []) os un hok bare (fun b z => absurd z (by simp))
 exact T pins σ H' s' e C dx I' (R.young fun b hb => I.young hx hb) hE
theorem ip {P : Program} {w : World} {K : Fg} {mg : Str -> Option Value} {base : Heap} {N : List Str} {qual : Str} {scope : Scope} {f : Addr} {cd : Value} {A : Around} {outer : List Env} {s : Shared} {H : Hp} {E : XK} :
  vo (lT (CX1 P w) P w K mg base N qual scope f cd A outer s H E) (fun _ => E) := by
 intro pins σ H' s' e C dx I R hE
 show wpAny (model P w) _ (leaving _ (.ref e)) _ _ s'
 refine AG (Y := nG (lT (CX1 P w) P w K mg base N qual scope f cd A outer s H E) pins) (outer := outer) I.ok.frames I.stack rfl R (fun b => I.youngS rfl) (fun b => I.hok.fresh) fun h' ch hc k m => ?_
 have I' : Inv (lT (CX1 P w) P w K mg base N qual scope f cd A outer s H E) pins σ H' { s' with heap := h' } := I.keptC k hc
 exact ⟨e, C, dx, H', rfl, I'.os, I'.bare, I'.base, I'.hok, m.raised.young fun b hb => hb.1, hE⟩
theorem bC {P : Program} {w : World} {K : Fg} {mg : Str -> Option Value} {base : Heap} {N : List Str} {qual : Str} {scope : Scope} {f : Addr} {cd : Value} {A : Around} {outer : List Env} {s : Shared} {H : Hp} {E : XK} :
  fH (CX1 P w) (lT (CX1 P w) P w K mg base N qual scope f cd A outer s H E) (fun _ => E) := ip.passes rfl
theorem tK {P : Program} {w : World} {K : Fg} {mg : Str -> Option Value} {base : Heap} {N : List Str} {qual : Str} {scope : Scope} {f : Addr} {cd : Value} {A : Around} {outer : List Env} {s : Shared} {H : Hp} {E : XK} {CX : CXT} :
  PassesOwn (model P w) (lT CX P w K mg base N qual scope f cd A outer s H E).A (lT CX P w K mg base N qual scope f cd A outer s H E).env (lT CX P w K mg base N qual scope f cd A outer s H E).xe := PassesOwn.leaving
theorem Fun.okX {P : Program} {w : World} {K : Fg} {mg : Str -> Option Value} {base : Heap} {x qual : Str} {st : Stmt} {f : Addr} {fd : FuncData} {N ps : List Str} {k : Nat} {sp : Sp} (F : Fun K x qual st f fd) (S : al N ps (ae st)) (len : ∀ vs H Q E, sp vs H Q E -> vs.length = ps.length)
  (hbody : ∀ (cdv : Value) (A : Around) (outer : List Env) (s : Shared) (H : Hp) (vs : List V) (Q : VK) (E : XK), bG k (A.deeper (envOfC qual (ae st) s.heap.objs.size f cdv)) -> sp vs H Q E ->
   ∃ t, PSs (lT (CX1 P w) P w K mg base N qual (ae st) f cdv A outer s H E) (cb st) t /\ t { nx := fun _ H' => Q .non H', rt := Q } (start N vs) H) : bc P w K mg base (CX1 P w) (k + 1) f fd ps sp := by
 obtain ⟨oc, od, kV, doc, pm, an, cdv, ct, osl, rfl, lk, hcd⟩ := F.ex
 exact AQ lk hcd S len fun A outer s H vs Q E hr hsp => hbody cdv A outer s H vs Q E hr hsp
def zT (sp : Sp) (dvs : List V) (EX : St -> XK) (t : TA) : TE := fun σ H Q => t σ H fun vs H1 => sp (vs ++ dvs) H1 Q (EX σ)
def xp (C : Addr) (m : Str) (sp : Sp) (dvs : List V) (EX : St -> XK) (ta : TE) (t : TA) : TE := fun σ H Q => ta σ H fun x H1 => ∃ a dx fs, x = .ref a /\ H1 a = some (.ins C dx fs) /\ fs.lookup m = none /\
 t σ H1 fun vs H2 => sp (x :: (vs ++ dvs)) H2 Q (EX σ)
section
variable {X : Cx} {CX : CXT} {k : Nat} {f C : Addr} {fd : FuncData} {ps : List Str} {sp : Sp} {dvs : List V} {ds : List Value} {EX : St -> XK} {x m : Str} {p pos apos : Pos} {e o : Expr} {es : List Expr} {ta : TE} {t : TA}
theorem oy {pins : List (Addr × Obj)} {σ : St} {H : Hp} {s : Shared} {Q : VK} {us : List Value} {vs : List V} (F : bc X.prog X.w X.K X.mg X.base CX k f fd ps sp) (hr : bG k X.A) (hb : ci X.K fd ps ds) (hd : aV dvs ds) (hx : fH CX X EX)
  (I : Inv X pins σ H s) (r : aV vs us) (h : sp (vs ++ dvs) H Q (EX σ)) : wpAny (model X.prog X.w) X.A (call (.ref f) us) (EP X pins σ Q) X.xe s := by
 have r2 : aV (vs ++ dvs) (us ++ ds) := r.append hd
 have hl : (us ++ ds).length = ps.length := by rw [<- r2.length]; exact F.len _ _ _ _ h
 refine wpAny_call (codeAny_mono (F.run X.A X.stack s H ⟨us, []⟩ (us ++ ds) (vs ++ dvs) Q (EX σ) hr I.env0 (hb s us I.kIn hl) r2 h) fun r s' hq => ?_)
 cases r with
 | error e => exact hx pins σ H s e s' I hq
 | ok fl =>
  cases fl with
  | ret u => exact I.after hq
  | next => exact False.elim hq
  | brk => exact False.elim hq
  | cont => exact False.elim hq
theorem lh (F : bc X.prog X.w X.K X.mg X.base CX k f fd ps sp) (hr : bG k X.A) (hg : Gl X x) (hm : X.mg x = some (.ref f)) (hk : PySem.W.keepIn X.K (.ref f) = true) (hb : ci X.K fd ps ds) (hd : aV dvs ds) (hx : fH CX X EX)
  (ha : PA X (e :: es) t) (hdb : (x == ("__debug__" : Str)) = false := by decide) (he : starEach (e :: es) X.env = (false, eval e X.env) :: starEach es X.env := by rfl) (hpl : (backTo pos (starEach es X.env)).any (·.1) = false := by rfl) :
  PE X (.Call (.Name x p) (e :: es) [] pos) (zT sp dvs EX t) := by
 intro pins s σ H Q I h
 refine wpAny_Call_Name_kw (fw I hg hm ?_ hdb)
 refine PySem.W.callWith_K (h₀ := X.base) I.ok.mod.kin hk (thn (ha pos pins s σ H _ I h) fun us s1 ⟨vs, H1, I1, r, q⟩ => ⟨I1.kIn, ?_⟩) he hpl
 exact oy F hr hb hd hx I1 r q
theorem cU {pl : Sem Bool} (he : PE X o ta) (c : Cls X.K C) (hm : zy X.K C m f) (F : bc X.prog X.w X.K X.mg X.base CX k f fd ps sp) (hr : bG k X.A) (hb : ci X.K fd ps ds) (hd : aV dvs ds) (hx : fH CX X EX) (ha : PA X (e :: es) t)
  (hst : starEach (e :: es) X.env = (false, eval e X.env) :: starEach es X.env := by rfl) (hpl : (backTo pos (starEach es X.env)).any (·.1) = false := by rfl)
  (ht : eval (.Call (.Attribute o m apos) (e :: es) [] pos) X.env = (do
   let ov <- eval o X.env
   standAt apos.atName
   let (f, first) <- holding [ov] (getMethod ov m pl)
   callWith pos f first (backTo pos (starEach (e :: es) X.env)) (backToKw pos (keywordEach [] X.env))) := by rfl) :
  PE X (.Call (.Attribute o m apos) (e :: es) [] pos) (xp C m sp dvs EX ta t) := by
 intro pins s σ H Q I h
 refine PySem.W.methodCall_KW (pl := pl) (thn (he pins s σ H _ I h) fun u s1 ⟨x, H1, I1, rx, a, dx, fs, ex, ea, l, q⟩ => ?_) ht
 subst ex
 obtain rfl : u = Value.ref a := rx
 refine eE I1 ea c hm l ?_
 refine PySem.W.callWith_K (first := [.ref a]) (h₀ := X.base) I.ok.mod.kin hm.kp (thn (ha pos pins s1 σ H1 _ I1 q) fun us s2 ⟨vs, H2, I2, r, q2⟩ => ⟨I2.kIn, ?_⟩) hst hpl
 exact oy (us := .ref a :: us) (vs := .ref a :: vs) F hr hb hd hx I2 (.cons rfl r) q2
end
end L2
end
section
namespace L2
open PySem PyProof.Rows PySem.Spec
def XcN (a C : Addr) : HO := .ext fun h => ∃ t : Addr, h.get? a = some ⟨.ref C, none, .fields #[.ref t, .none, .none, .none, .bool false, .none], #[]⟩
def XcR (a C dx : Addr) : HO := .ext fun h => ∃ t : Addr, h.get? a = some ⟨.ref C, some dx, .fields #[.ref t, .none, .none, .none, .bool false, .none], #[]⟩
def XcH (a C dx : Addr) : HO := .ext fun h => ∃ (vs : Array Value) (sl : Array (Option Value)), h.get? a = some ⟨.ref C, some dx, .fields vs, sl⟩
section
variable {P : Program} {w : World} {H : Hp} {h : Heap} {a C dx t : Addr}
theorem zD (x : HOk P w H h) (e : H a = some (XcN a C)) : ∃ t : Addr, h.get? a = some ⟨.ref C, none, .fields #[.ref t, .none, .none, .none, .bool false, .none], #[]⟩ := (x a _ e).1
theorem zB (x : HOk P w H h) (e : H a = some (XcR a C dx)) : ∃ t : Addr, h.get? a = some ⟨.ref C, some dx, .fields #[.ref t, .none, .none, .none, .bool false, .none], #[]⟩ := (x a _ e).1
theorem zF (x : HOk P w H h) (e : H a = some (XcH a C dx)) : ∃ (vs : Array Value) (sl : Array (Option Value)), h.get? a = some ⟨.ref C, some dx, .fields vs, sl⟩ := (x a _ e).1
theorem zE (e : h.get? a = some ⟨.ref C, none, .fields #[.ref t, .none, .none, .none, .bool false, .none], #[]⟩) : bu P w H h a (XcN a C) := ⟨⟨t, e⟩, ⟨_, e⟩, fun _ _ ⟨t, e⟩ k => ⟨t, k _ e⟩⟩
theorem zC (e : h.get? a = some ⟨.ref C, some dx, .fields #[.ref t, .none, .none, .none, .bool false, .none], #[]⟩) : bu P w H h a (XcR a C dx) := ⟨⟨t, e⟩, ⟨_, e⟩, fun _ _ ⟨t, e⟩ k => ⟨t, k _ e⟩⟩
theorem zG {vs : Array Value} {sl : Array (Option Value)} (e : h.get? a = some ⟨.ref C, some dx, .fields vs, sl⟩) : bu P w H h a (XcH a C dx) := ⟨⟨vs, sl, e⟩, ⟨_, e⟩, fun _ _ ⟨vs, sl, e⟩ k => ⟨vs, sl, k _ e⟩⟩
end
theorem lw {v : V} {u : Value} (r : bm v u) : handedOut u = pure u := by
 cases v with
 | non => cases (show u = Value.none from r); rfl
 | bl b => cases (show u = Value.bool b from r); rfl
 | int i => obtain ⟨t, e⟩ := (show ∃ t, u = Value.int i t from r); cases e; rfl
 | str x => obtain ⟨t, e⟩ := (show ∃ t, u = Value.str x t from r); cases e; rfl
 | byt b => obtain ⟨t, e⟩ := (show ∃ t, u = Value.bytes b t from r); cases e; rfl
 | flt b => obtain ⟨t, e⟩ := (show ∃ t, u = Value.float b t from r); cases e; rfl
 | ref a => cases (show u = Value.ref a from r); rfl
 | ty n => cases (show u = Value.type n from r); rfl
def drp (H : Hp) (e : Addr) : Hp := fun b => if b = e then none else H b
theorem eF {H : Hp} {e : Addr} : drp H e e = none := by unfold drp; rw [if_pos rfl]
theorem bo {H : Hp} {e b : Addr} (h : b ≠ e) : drp H e b = H b := by unfold drp; rw [if_neg h]
theorem Cz {K : Fg} {h : Heap} {N : Addr} {mg : Str -> Option Value} {n : Str} {v : Value} (X : K.In h) (G : h.Ns N mg) (e : PySem.W.nsIn K N n = some (some v)) : mg n = some v := by
 obtain ⟨ob, rows, ep, here_, dat, _, look⟩ := G
 rw [<- look n]
 unfold PySem.W.nsIn at e
 split at e
 ·rename_i q
  cases here_.symm.trans (X _ _ q)
  cases dat
  split at e
  ·rename_i en z
   cases e
   show (rows.find? _).map _ = _
   rw [<- Array.find?_toList, z]
   rfl
  ·split at e <;> cases e
 ·cases e
section
variable {X : Cx} {C N fI : Addr} {f : Str} {pos pos' : Pos} {e o : Expr} {te to : TE}
def BA (C : Addr) (f : Str) (te to : TE) : TS := fun D σ H => te σ H fun y H1 => to σ H1 fun x H2 => ∃ a, x = .ref a /\ H2 a = some (XcN a C) /\ ∀ dx, H2 dx = none -> dx ≠ a -> D.nx σ (upd (upd H2 dx (.xd [(f, y)])) a (XcR a C dx))
def Bt (C : Addr) (f : Str) (to : TE) : TE := fun σ H Q => to σ H fun x H1 => ∃ a dx fs v, x = .ref a /\ H1 a = some (XcH a C dx) /\ H1 dx = some (.xd fs) /\ fs.lookup f = some v /\ Q v H1
theorem yt (c : lP X.K C N fI) (hf : PySem.W.findIn X.K (.ref C) f = some none)
  (ho : PE X o to) (hv : PE X e te) (hsw : swapsWith e (some (.Attribute o f pos')) pos.line X.env = pure false := by rfl) : PS X (.Assign [.Attribute o f pos'] e pos) (BA C f te to) := by
 intro pins s σ H D I h
 refine plainObj_wpAny_Assign_Attribute (thn (hv pins s σ H _ I h) fun u s1 ⟨y, H1, I1, ry, q⟩ => thn (ho pins s1 σ H1 _ I1 q) fun ov s2 ⟨x, H2, I2, rx, a, ex, ea, q2⟩ => ?_) hsw
 subst ex
 obtain rfl : ov = Value.ref a := rx
 obtain ⟨t, hx⟩ := zD I2.hok ea
 have hfr : H2 s2.heap.objs.size = none := I2.hok.fresh (C7 _)
 have hne : s2.heap.objs.size ≠ a := Nat.ne_of_gt (Df hx)
 refine Cb c I2.kIn hf hx rfl rfl rfl fun h' tk' e1 e2 e3 => ⟨σ, _, ?_, q2 s2.heap.objs.size hfr hne⟩
 have nb : ∀ b u, H2 b = some u -> b ≠ s2.heap.objs.size := fun b u z w => by rw [w, hfr] at z; cases z
 have na : ∀ b u, H2 b = some u -> u ≠ XcN a C -> b ≠ a := fun b u z w v => by rw [v, ea] at z; exact w (C8 z).symm
 have nn : ∀ b, H2 b = none -> b ≠ a := fun b n w => by rw [w, ea] at n; cases n
 have up : ∀ b u, H2 b = some u -> u ≠ XcN a C -> upd (upd H2 s2.heap.objs.size (.xd [(f, y)])) a (XcR a C s2.heap.objs.size) b = some u := fun b u z w => by
  rw [ag (na b u z w), ag (nb b u z)]
  exact z
 refine I2.un (s := s2) (h' := h') (t' := tk') ⟨fun b ob z n _ _ => e3 b ob (nn b n) z, fun b ob z n _ _ => ⟨ob.slots, e3 b ob (nn b n) z⟩, fun b ob z n _ => ?_, fun b ob z _ => ?_, fun b xs z => up b _ z (by intro w; cases w), fun b ob u z => up b _ z (by intro w; cases w),
  fun b ps z => ⟨#[], by rw [up b _ z (by intro w; cases w)]; simp⟩⟩ fun b ob z => ?_
 ·rw [ag (nn b n), ag (Ds (Df z))]
  exact n
 ·by_cases w : b = a
  ·rw [w]
   exact ⟨_, e1⟩
  ·exact ⟨ob, e3 b ob w z⟩
 ·by_cases w : b = a
  ·subst w
   rw [upd_same] at z
   cases z
   exact zC e1
  ·rw [ag w] at z
   by_cases w2 : b = s2.heap.objs.size
   ·subst w2
    rw [upd_same] at z
    cases z
    refine ⟨_, e2, fun g => ?_⟩
    show lQ (([(f, y)] : List (Str × V)).lookup g) (if g = f then some u else none)
    by_cases hg : g = f
    ·subst hg
     rw [if_pos rfl, List.lookup_cons, beq_self_eq_true]
     exact ry
    ·rw [if_neg hg, List.lookup_cons, beq_eq_false_iff_ne.mpr hg]
     trivial
   ·rw [ag w2] at z
    refine (I2.hok b ob z).stay (fun b' u' hb' z' => e3 b' u' (fun v => ?_) z') (fun b' z' => up b' _ z' (by intro w; cases w)) fun b' xs z' => up b' _ z' (by intro w; cases w)
    rcases hb' with v' | v'
    ·exact w (v'.symm.trans v)
    ·rw [v, ea] at v'
     cases v'
theorem yx (c : lP X.K C N fI) (hf : PySem.W.findIn X.K (.ref C) f = some none) (ho : PE X o to) (hb : attributeBase o f X.env (eval o X.env) = eval o X.env := by rfl) : PE X (.Attribute o f pos) (Bt C f to) := by
 intro pins s σ H Q I h
 refine vh hb (thn (ho pins s σ H _ I h) fun u s1 ⟨x, H1, I1, rx, a, dx, fs, v, ex, ea, ed, l, q⟩ => ?_)
 subst ex
 obtain rfl : u = Value.ref a := rx
 obtain ⟨vs, sl, hx⟩ := zF I1.hok ea
 obtain ⟨mA, hN, hr⟩ := I1.hok dx _ ed
 obtain ⟨u', hu, ru⟩ := lQ.some_of (show lQ (some v) (mA f) by rw [<- l]; exact hr f)
 exact Cc c I1.kIn hf hx rfl rfl rfl hN.ns hu (lw ru) ⟨v, H1, I1.tok _, ru, q⟩
theorem Inv.drop {pins : List (Addr × Obj)} {σ : St} {H : Hp} {s : Shared} {a dx : Addr} (I : Inv X pins σ H s) (ea : H a = some (XcR a C dx)) : Inv X pins σ (drp H a) s := by
 have up : ∀ b u, H b = some u -> u ≠ XcR a C dx -> drp H a b = some u := fun b u z w => by
  rw [bo (fun v => by rw [v, ea] at z; exact w (C8 z).symm)]
  exact z
 refine I.un (s := s) (h' := s.heap) (t' := s.toks) ⟨fun b ob z n _ _ => z, fun b ob z n _ _ => ⟨ob.slots, z⟩, fun b ob z n _ => ?_, fun b ob z _ => ⟨ob, z⟩, fun b xs z => up b _ z (by intro w; cases w), fun b ob u z => up b _ z (by intro w; cases w),
  fun b ps z => ⟨#[], by rw [up b _ z (by intro w; cases w)]; simp⟩⟩ fun b ob z => ?_
 ·unfold drp
  split
  ·rfl
  ·exact n
 ·have hb : b ≠ a := fun w => by rw [w, eF] at z; cases z
  rw [bo hb] at z
  exact (I.hok b ob z).stay (fun b' u' _ z' => z') (fun b' z' => up b' _ z' (by intro w; cases w)) fun b' xs z' => up b' _ z' (by intro w; cases w)
theorem Inv.track {pins : List (Addr × Obj)} {σ : St} {H : Hp} {s : Shared} {a : Addr} {u : HO} (I : Inv X pins σ H s) (hy : nG X pins a) (hn : H a = none) (new : ∀ H, bu X.prog X.w H s.heap a u) : Inv X pins σ (upd H a u) s := by
 have up : ∀ b v, H b = some v -> upd H a u b = some v := fun b v z => by
  rw [ag (ah z hn)]
  exact z
 refine ⟨I.ok, I.os, I.bare, ⟨I.base.keep, I.base.slot, fun b o e n hx => ?_, I.base.there, fun b xs z => up b _ (I.base.tups b xs z), fun b o v z => up b _ (I.base.frzs b o v z), fun b ps z => ?_⟩, I.loc, I.cell, ?_, fun x c e => ?_, fun p hp => ?_, fun b o z => ?_, I.len⟩
 ·rw [ag (fun z => by rw [z, hy.1] at e; cases e)]
  exact I.base.free b o e n hx
 ·obtain ⟨m, z'⟩ := I.base.tbls b ps z
  exact ⟨m, up b _ z'⟩
 ·rw [ag hy.2.1.symm]
  exact I.free
 ·rw [ag (hy.2.2.1 x c e)]
  exact I.freeC x c e
 ·obtain ⟨e, n, ne, nf, d⟩ := I.pin p hp
  exact ⟨e, by rw [ag (hy.2.2.2 p hp)]; exact n, ne, nf, d⟩
 ·by_cases hb : b = a
  ·subst hb
   rw [upd_same] at z
   cases z
   exact new _
  ·rw [ag hb] at z
   exact (I.hok b o z).stay (fun _ _ _ q => q) (fun c q => up c _ q) fun c xs q => up c _ q
end
theorem qC {M : Model} {A : Around} {E : Value -> Shared -> Prop} {env : Env} {s : Shared} {K : Fg} {C N fI : Addr} {x : Sem Value} {Q : Flow -> Shared -> Prop} (c : lP K C N fI) (hh : A.handled = none)
  (h : wpAny M A x (fun v s₁ => ∃ e o t, v = .ref e /\ K.In s₁.heap /\ s₁.heap.get? e = some o /\ o.cls = .ref C /\ o.data = .fields #[.ref t, .none, .none, .none, .bool false, .none] /\ E (.ref e) s₁) E s) :
  wpAny M A (raiseStmt env (some x) none) Q E s := by
 refine CQ (thn h fun v s1 h1 => ?_)
 obtain ⟨e, o, t, rfl, X, he, hc, hd, hE⟩ := h1
 obtain ⟨cd, c1, _, _⟩ := c.cd
 have noT : PySem.W.Looks M s1.heap (isType (.ref e)) false := (PySem.W.Looks.ld he).andThen (by rw [hd]; exact .now)
 have isX : PySem.W.Looks M s1.heap (isInstance (.ref e) (.type "BaseException")) true := c.inst X he hc (qi C)
 have tyC : PySem.W.Looks M s1.heap (typeOf (.ref C)) (.type "type") := by
  obtain ⟨nm, q, bs, sn, sub, ab, col, dd, k0, k1, k2, k3, k5, z⟩ := c.ob
  exact (PySem.W.Looks.ld (X _ _ z)).andThen .now
 have ri : PySem.W.Looks M s1.heap (raisedInstance (.ref e)) (.ref e) := (xT he hc).andThen (tyC.andThen .now)
 have ev : PySem.W.Looks M s1.heap (excFromValue (.ref e) "exceptions must derive from BaseException") (.ref e) := by
  have ec : PySem.W.Looks M s1.heap (isExcClass (.ref e)) false := noT.andThen .now
  unfold excFromValue
  exact ec.andThen (isX.andThen .now)
 refine CQ (CT (CQ (wpAny_holding (ev.here (CQ (noT.here (CQ (ri.here (CQ ?_)))))))))
 unfold setFlight
 refine CQ (wpAny_field he hd (x := .none) rfl (CT (wpAny_raiseNew_none hh hE)))
end L2
end
section
namespace L2
open PySem PyProof.Rows PySem.Spec
section
variable {X : Cx} {C N fI : Addr} {k : Nat} {fd : FuncData} {ps : List Str} {sp : Sp} {EX : St -> XK} {x : Str} {np cpos pos : Pos} {a : Expr} {as : List Expr} {t : TA}
def zP (C : Addr) (sp : Sp) (EX : St -> XK) (t : TA) : TS := fun _ σ H => t σ H fun vs H1 => vs.length <= 1000 /\ ∀ e, H1 e = none ->
 sp (.ref e :: vs) (upd H1 e (XcN e C)) (fun v H2 => v = .non /\ ∃ dx, H2 e = some (XcR e C dx) /\ EX σ (.ref C) (some dx) (drp H2 e)) E0
theorem kZ (hcalm : X.calm = true) (hex : X.ex = []) (c : lP X.K C N fI) (F : bc X.prog X.w X.K X.mg X.base CX0 k fI fd ps sp) (hr : bG (k + 1) X.A) (hg : Gl X x) (hm : X.mg x = some (.ref C)) (hb : ci X.K fd ps []) (ha : PA X (a :: as) t) (hT : vo X EX)
  (hdb : (x == ("__debug__" : Str)) = false := by decide) (he : starEach (a :: as) X.env = (false, eval a X.env) :: starEach as X.env := by rfl) (hpl : (backTo cpos (starEach as X.env)).any (·.1) = false := by rfl) :
  PS X (.Raise (some (.Call (.Name x np) (a :: as) [] cpos)) none pos) (zP C sp EX t) := by
 intro pins s σ H D I h
 obtain ⟨nm, qn, bs, sn, sub, ab, col, dd, k0, k1, k2, k3, k5, hC⟩ := c.ob
 rw [arm_exec_Raise]
 refine CQ (wpAny_standAt (qC c (I.ok.hd hcalm) (CQ (thn ?_ fun v s3 h3 => CQ (wpAny_standAt (CT h3))))))
 refine wpAny_Call_Name_kw (fw I hg hm ?_ hdb)
 refine PySem.W.callWith_K (h₀ := X.base) I.ok.mod.kin c.kp (thn (ha cpos pins s σ H _ I h) fun us s1 ⟨vs, H1, I1, r, hlen, q⟩ => ⟨I1.kIn, ?_⟩) he hpl
 have G : s1.heap.Ns N (s1.heap.nsMap N) := .of_isNs (PySem.W.isNs_of_in I1.kIn c.ns)
 have hz : us.length <= sizeLine := by rw [<- r.length]; exact Nat.le_of_lt (sv hlen)
 obtain ⟨oI, hfI, hfc⟩ : ∃ o, s1.heap.get? fI = some o /\ o.cls = .type "function" := by
  have e : PySem.W.typeIn X.K (.ref fI) = some (.type "function") := beq_iff_eq.mp c.fn
  obtain ⟨o, ho, hc⟩ := Option.map_eq_some_iff.mp e
  exact ⟨o, I1.kIn _ _ ho, hc⟩
 have hC1 := I1.kIn _ _ hC
 have gi := Cz I1.kIn G c.init
 refine wpAny_call_exc_init (h := s1.heap) PySem.F.excBase_Exception hC1 G gi hfI hfc (fun h' e mk => ?_) hz
 obtain ⟨t0, atE, _, _⟩ := mk.there
 have I2 : Inv X pins σ (upd H1 e (XcN e C)) { s1 with heap := h', toks := s1.toks } := I1.come mk.keeps mk.new fun H => zE atE
 have hq := q e (I1.hok.gone mk.new)
 have hy : nG X pins e := I1.young hex mk.new
 have r2 : aV (V.ref e :: vs) (Value.ref e :: us) := .cons rfl r
 have hl : (Value.ref e :: us ++ []).length = ps.length := by
  rw [Dq, <- r2.length]
  exact F.len _ _ _ _ hq
 refine wpAny_call (codeAny_mono (F.run _ X.stack _ _ ⟨Value.ref e :: us, []⟩ (Value.ref e :: us) _ _ E0 (hr.make C us []) (I2.env0.make C us []) (by have z := hb _ (Value.ref e :: us) I2.kIn hl; rw [Dq] at z; exact z) r2 hq) fun r s' hq' => ?_)
 cases r with
 | error e => exact hq'.elim
 | ok fl =>
  cases fl with
  | ret u =>
   obtain ⟨v, H', I3, rv, ev, dx, eH, hE⟩ := I2.after hq'
   subst ev
   obtain ⟨tt, ho⟩ := zB I3.hok eH
   exact ⟨rv, e, _, tt, rfl, I3.kIn, ho, rfl, rfl, hT pins σ _ s' e C dx (I3.drop eH) ⟨_, _, hy, eF, ho, (by show 1 < 6; decide), .inl rfl⟩ hE⟩
  | next => exact False.elim hq'
  | brk => exact False.elim hq'
  | cont => exact False.elim hq'
end
section
variable {X : Cx}
abbrev Cx.tried (X : Cx) (xe : Value -> Shared -> Prop) (pn : List (Addr × Obj)) : Cx := { X with xe := xe, pn := pn }
abbrev Cx.suite (X : Cx) (e : Addr) : Cx := { X with A := X.A.mark (some (.ref e)), calm := false, xe := fun _ _ => False }
theorem Cx.Ok.tried (ok : X.Ok) (xe : Value -> Shared -> Prop) (pn : List (Addr × Obj)) : (X.tried xe pn).Ok :=
 ⟨ok.mod, ok.kind, ok.glob, ok.blt, ok.above, ok.inj, ok.has, ok.cab, ok.hd, ok.frames, ok.stk, ok.exf, ok.bs, ok.bsz, ok.noex, ok.exfs, ok.funs, ok.frf⟩
theorem Cx.Ok.untried {xe : Value -> Shared -> Prop} {pn : List (Addr × Obj)} (ok : (X.tried xe pn).Ok) : X.Ok :=
 ⟨ok.mod, ok.kind, ok.glob, ok.blt, ok.above, ok.inj, ok.has, ok.cab, ok.hd, ok.frames, ok.stk, ok.exf, ok.bs, ok.bsz, ok.noex, ok.exfs, ok.funs, ok.frf⟩
theorem Cx.Ok.suite (ok : X.Ok) (e : Addr) : (X.suite e).Ok :=
 ⟨ok.mod, ok.kind, ok.glob, ok.blt, ok.above, ok.inj, ok.has, ok.cab, fun z => Bool.noConfusion z, ok.frames, ok.stk, ok.exf, ok.bs, ok.bsz, ok.noex, ok.exfs, ok.funs, ok.frf⟩
variable {pins : List (Addr × Obj)} {σ : St} {H : Hp} {s : Shared}
theorem Inv.tried (I : Inv X pins σ H s) (xe : Value -> Shared -> Prop) : Inv (X.tried xe (X.pn ++ pins)) [] σ H s :=
 ⟨I.ok.tried _ _, I.os, I.bare, I.base, I.loc, I.cell, I.free, I.freeC, fun p hp => I.pin p (by simpa using hp), I.hok, I.len⟩
theorem Inv.untried {xe : Value -> Shared -> Prop} {more : List (Addr × Obj)} (I : Inv (X.tried xe (X.pn ++ pins)) more σ H s) : Inv X pins σ H s :=
 ⟨I.ok.untried, I.os, I.bare, I.base, I.loc, I.cell, I.free, I.freeC, fun p hp => I.pin p (List.mem_append_left _ hp), I.hok, I.len⟩
theorem Inv.suite (I : Inv X pins σ H s) (e : Addr) : Inv (X.suite e) pins σ H s :=
 ⟨I.ok.suite e, I.os, I.bare, I.base, I.loc, I.cell, I.free, I.freeC, I.pin, I.hok, I.len⟩
theorem Inv.unsuite {e : Addr} (ok : X.Ok) (I : Inv (X.suite e) pins σ H s) : Inv X pins σ H s :=
 ⟨ok, I.os, I.bare, I.base, I.loc, I.cell, I.free, I.freeC, I.pin, I.hok, I.len⟩
theorem Inv.unbound {M : Model} {A : Around} {E : Value -> Shared -> Prop} {i : Nat} {n : Str} {pos : Pos} {Q : Unit -> Shared -> Prop} (I : Inv X pins σ H s) (hi : X.N[i]? = some n) (hN : X.N.Nodup) (hk : X.env.scope.names.lookup n = some .local)
  (h : ∀ s', Inv X pins (σ.set i none) H s' -> Q () s') : wpAny M A (do bindName X.env n .none; unbindBehindTheSuite X.env n pos) Q E s := by
 obtain ⟨m, hn, hl⟩ := id I.loc
 refine wpAny_nameGoes_keeps hk hn (by rw [I.ok.kind]; rfl) fun h' v hn' sb => h _ ?_
 have L0 : ∀ b o, X.s_0.heap.get? b = some o -> b ≠ X.env.locals := fun b o e => Ds (Dl (Df e) I.ok.above)
 refine ⟨I.ok, I.os, I.bare, ⟨fun b o e z hb hx => (sb.2 b (L0 b o e)).trans (I.base.keep b o e z hb hx), fun b o e z hb hx => ?_, I.base.free, fun b o e hx => ?_, I.base.tups, I.base.frzs, I.base.tbls⟩, ⟨_, hn', fun j y u e1 e2 e3 => ?_⟩, fun y c e => ?_, I.free, I.freeC, fun p hp => ?_, fun b o e => ?_, by simpa using I.len⟩
 ·obtain ⟨sl, q⟩ := I.base.slot b o e z hb hx
  exact ⟨sl, (sb.2 b (L0 b o e)).trans q⟩
 ·obtain ⟨o', q⟩ := I.base.there b o e hx
  exact ⟨o', (sb.2 b (L0 b o e)).trans q⟩
 ·have hj : i ≠ j := fun z => by
   subst z
   rw [List.getElem?_set] at e2
   simp at e2
  rw [List.getElem?_set_ne hj] at e2
  obtain ⟨u', ru, l⟩ := hl j y u e1 e2 e3
  refine ⟨u', ru, ?_⟩
  rcases l with ⟨kd, q⟩ | ⟨kd, c, q, cl⟩
  ·have : y ≠ n := fun z => hj (iy hN hi (z ▸ e1))
   exact .inl ⟨kd, by simp only [if_neg this]; exact q⟩
  ·exact .inr ⟨kd, c, q, cl.sameBut sb (I.cne y c q)⟩
 ·obtain ⟨v', cl⟩ := I.cell y c e
  exact ⟨v', cl.sameBut sb (I.cne y c e)⟩
 ·obtain ⟨e, z, ne, nf, d⟩ := I.pin p hp
  exact ⟨(sb.2 p.1 ne).trans e, z, ne, nf, d⟩
 ·have free : ∀ b u, H b = some u -> b ≠ X.env.locals := fun b u q w => by
   rw [w, I.free] at q
   cases q
  refine (I.hok b o e).stay (fun c v' hc q => (sb.2 c ?_).trans q) (fun _ q => q) fun _ _ q => q
  rcases hc with w | w
  ·rw [w]
   exact free b o e
  ·exact free c _ w
def Ce (C : Addr) (i : Nat) (EX : St -> XK) (tb : TS) (th : Addr -> TS) : TS := fun D σ H => tb D σ H /\ ∀ σ' c d H', EX σ' c d H' -> c = .ref C /\ ∀ e dx, d = some dx -> H' e = none ->
 th e { nx := fun σ H => D.nx (σ.set i none) H, rt := D.rt, bk := fun σ H => D.bk (σ.set i none) H, ct := fun σ H => D.ct (σ.set i none) H } (σ'.set i (some (.ref e))) (upd H' e (XcH e C dx))
variable {C N fI : Addr} {EX : St -> XK} {x n : Str} {i : Nat} {tb : TS} {th : Addr -> TS} {body : List Stmt} {b0 : Stmt} {suite : List Stmt} {np hpos pos : Pos}
theorem Ag (hex : X.ex = []) (hst : X.stack = X.env :: X.outer) (hfr : X.env.frame = some X.env.locals) (c : lP X.K C N fI) (hg : Gl X x) (hm : X.mg x = some (.ref C)) (hN : X.N.Nodup) (hi : X.N[i]? = some n) (hk : X.env.scope.names.lookup n = some .local)
  (hb : ∀ (xe : Value -> Shared -> Prop) (pn : List (Addr × Obj)), vo (X.tried xe pn) EX -> PassesOwn (model X.prog X.w) X.A X.env xe -> PSs (X.tried xe pn) body tb) (hh : ∀ e, PSs (X.suite e) (b0 :: suite) (th e)) (hdb : (x == ("__debug__" : Str)) = false := by decide) :
  PS X (.Try body [.ExceptHandler (some (.Name x np)) (some n) (b0 :: suite) hpos] [] [] pos) (Ce C i EX tb th) := by
 intro pins s σ H D I h
 obtain ⟨h1, h2⟩ := h
 refine wpAny_Try_except ?_
 refine wpAny_mono (hb (fun e s₁ => wpAny (model X.prog X.w) X.A (noteFrame e X.env) (fun _ s₂ => wpAny (model X.prog X.w) X.A (setFlight e none) (fun _ s₃ => wpAny (model X.prog X.w) X.A (handleBy e X.env [.ExceptHandler (some (.Name x np)) (some n) (b0 :: suite) hpos]) (SP X pins D) X.xe s₃) X.xe s₂) X.xe s₁)
  (X.pn ++ pins) ?_ PassesOwn.looking [] s σ H D (I.tried _) h1) (fun f s1 q => ?_) fun _ _ z => z
 ·intro more σ' H' s' e C' dx I' R hE
  obtain ⟨rfl, h3⟩ := (h2 σ' _ _ H' hE).imp_left fun z => (Value.ref.inj z).symm
  have J : Inv X pins σ' H' s' := I'.untried
  have R' : gu (nG X pins) H' s'.heap e C dx := R.young fun b hy => ⟨hy.1, hy.2.1, hy.2.2.1, fun p hp => hy.2.2.2 p (List.mem_append_left _ hp)⟩
  have fr : X.A.frames = some (X.env :: X.outer) := by rw [<- hst]; exact J.ok.frames
  have sub : ∀ {h h' : Heap} {ch : List Addr}, cf ch (frs (X.env :: X.outer)) h h' -> cf ch (frs X.stack) h h' := fun k => by rw [hst]; exact k
  refine AE (base := X.base) (outer := X.outer) fr (by rw [<- hst]; exact J.stack) hfr R' (fun b => J.youngS hex) (fun b => J.hok.fresh) fun g1 ch1 c1 k1 m1 => ?_
  have J1 := J.keptC (sub k1) c1
  refine BR (s := { s' with heap := g1 }) (F := frs X.stack) m1 fun g2 ch2 c2 k2 m2 => ?_
  have J2 : Inv X pins σ' H' { s' with heap := g2 } := J1.keptC k2 c2
  have S2 := J2.suite e
  refine wpAny_handleBy_cons (codeAny_handlers_test (fw S2 hg hm ?_ hdb)) (by intro z; cases z)
  obtain ⟨nm, qn, bs, sn, sb, ab, col, dd, k0, k1', k2', k3, k5, hC⟩ := c.ob
  obtain ⟨vs, sl, y, hn, atE, _⟩ := id m2
  refine wpAny_excMatches_sub_self (h := g2) (J2.kIn _ _ hC) atE rfl PySem.F.excBase_Exception.hasBase (codeAny_handlers_suite_as ?_)
  refine BR (s := { s' with heap := g2 }) (F := frs X.stack) m2 fun g3 ch3 c3 k3' m3 => ?_
  have J3 : Inv X pins σ' H' { s' with heap := g3 } := J2.keptC k3' c3
  obtain ⟨vs3, sl3, y3, hn3, atE3, _⟩ := m3
  have J4 : Inv X pins σ' (upd H' e (XcH e C dx)) { s' with heap := g3 } := J3.track y3 hn3 fun H => zG atE3
  refine iq J4 hN hi (.inl hk) (v := V.ref e) rfl (fun s5 J5 => ?_) (.inr hk)
  refine wpAny_mono (hh e pins s5 _ _ _ (J5.suite e) (h3 e dx rfl hn)) (fun f s6 q => ?_) fun _ _ z => z.elim
  cases f with
  | next =>
   obtain ⟨σ6, H6, I6, q6⟩ := q
   exact (I6.unsuite J.ok).unbound hi hN hk fun s7 I7 => ⟨_, H6, I7, q6⟩
  | brk =>
   obtain ⟨σ6, H6, I6, q6⟩ := q
   exact (I6.unsuite J.ok).unbound hi hN hk fun s7 I7 => ⟨_, H6, I7, q6⟩
  | cont =>
   obtain ⟨σ6, H6, I6, q6⟩ := q
   exact (I6.unsuite J.ok).unbound hi hN hk fun s7 I7 => ⟨_, H6, I7, q6⟩
  | ret u =>
   obtain ⟨v, σ6, H6, I6, r6, q6⟩ := q
   exact (I6.unsuite J.ok).unbound hi hN hk fun s7 I7 => ⟨v, _, H6, I7, r6, q6⟩
 ·cases f with
  | next =>
   obtain ⟨σ6, H6, I6, q6⟩ := q
   exact wpAny_execs_nil ⟨σ6, H6, I6.untried, q6⟩
  | brk =>
   obtain ⟨σ6, H6, I6, q6⟩ := q
   exact ⟨σ6, H6, I6.untried, q6⟩
  | cont =>
   obtain ⟨σ6, H6, I6, q6⟩ := q
   exact ⟨σ6, H6, I6.untried, q6⟩
  | ret u =>
   obtain ⟨v, σ6, H6, I6, r6, q6⟩ := q
   exact ⟨v, σ6, H6, I6.untried, r6, q6⟩
end
end L2
end
section
namespace L2
open PySem PyProof.Rows PySem.Spec
section
variable {X : Cx}
def pM (K : Fg) : List V -> Hp -> VK -> Prop := fun vs H Q => ∃ (a : Addr) (ns : List Int), vs = [V.ref a] /\ SqL K H a (ns.map V.int) /\
 ∀ (ns' : List Int) (p : Addr), ns'.Perm ns -> ns'.Pairwise (· <= ·) -> H p = none -> Q (.ref p) (upd H p (.lst (ns'.map V.int)))
theorem qW : eL X (.builtin "sorted") (pM X.K) := by
 intro pins s σ H vs us Q I r h
 obtain ⟨a, ns, rfl, hs, q⟩ := h
 obtain ⟨its, rv, hl, hz⟩ := I.list hs
 rw [aV.ref1 r]
 have hi := rv.ints
 have hn : its.length <= sizeLine := by rw [<- rv.length]; exact hz
 refine PyProof.Rows.sorted_intsAny hl.isList hi hn fun out ns' h1 h2 h3 => ?_
 obtain ⟨ep, he'⟩ := PyProof.Rows.sortedAll_at s.heap its out
 have hlen : (ns'.map V.int).length <= sizeLine := by rw [CP, h2.length_eq, <- hi.length]; exact hn
 exact ⟨.ref _, upd H (s.heap.objs.size + 1) (.lst (ns'.map V.int)), I.laid (t' := s.toks) (fun _ _ => PyProof.Rows.sortedAll_old) (Nat.le_succ _) ⟨hlen, out.toList, ep, dj h1, he'⟩, rfl, q ns' _ h2 h3 (I.hok.fresh (Nat.le_succ _))⟩
end
def rowOf (e : DictEntry) : Option (Int × Value) := match e.key with
 | .int i _ => if e.hash == hashInt i then some (i, e.val) else none
 | _ => none
def jV : List DictEntry -> Option (List (Int × Value))
 | [] => some []
 | e :: r => (rowOf e).bind fun p => (jV r).map (p :: ·)
def kC (K : Fg) (a : Addr) : Option (List (Int × Value)) := match K.lookup a with
 | some ⟨.type "dict", none, .dict es _, sl⟩ => if sl.isEmpty then jV es.toList else none
 | _ => none
theorem vW {e : DictEntry} {p : Int × Value} (h : rowOf e = some p) : ∃ t, e.key = .int p.1 t /\ e.hash = hashInt p.1 /\ e.val = p.2 := by
 unfold rowOf at h
 split at h
 ·rename_i i t q
  split at h
  ·rename_i z
   cases h
   exact ⟨t, q, beq_iff_eq.mp z, rfl⟩
  ·cases h
 ·cases h
theorem iP {P : Program} {w : World} : ∀ {l : List DictEntry} {rows : List (Int × Value)}, jV l = some rows -> (∀ e ∈ l, ∃ k, (intKind P w).is k e.key = true /\ e.hash = (intKind P w).hash k) /\
  ∀ k, (l.find? fun e => (intKind P w).is k e.key).map (·.val) = rows.lookup k
 | [], rows, h => by
  cases h
  exact ⟨fun e he => absurd he (by simp), fun k => rfl⟩
 | e :: r, rows, h => by
  obtain ⟨p, h1, h2⟩ := Option.bind_eq_some_iff.mp h
  obtain ⟨rest, h3, rfl⟩ := Option.map_eq_some_iff.mp h2
  obtain ⟨i1, i2⟩ := iP (P := P) (w := w) h3
  obtain ⟨t, q1, q2, q3⟩ := vW h1
  have is : (intKind P w).is p.1 e.key = true := by rw [q1]; exact intKind_is P w p.1 t
  refine ⟨fun e' he => ?_, fun k => ?_⟩
  ·rcases C5.mp he with z | z
   ·rw [z]
    exact ⟨p.1, is, q2⟩
   ·exact i1 e' z
  ·rw [List.find?_cons, List.lookup_cons, KeyKind.is_eq_decide is k]
   by_cases z : k = p.1
   ·rw [C0 z, beq_iff_eq.mpr z]
    exact congrArg some q3
   ·rw [C6 z, beq_eq_false_iff_ne.mpr z]
    exact i2 k
theorem xY {P : Program} {w : World} {K : Fg} {h : Heap} {a : Addr} {rows : List (Int × Value)} (X : K.In h) (e : kC K a = some rows) : h.MapOf (intKind P w) a (fun k => rows.lookup k) := by
 unfold kC at e
 split at e
 ·rename_i es ep sl q
  split at e
  ·rename_i z
   obtain ⟨k1, k2⟩ := iP (P := P) (w := w) e
   refine ⟨_, es, ep, X _ _ q, ⟨rfl, rfl, Array.isEmpty_iff.mp z⟩, rfl, fun e he => k1 e (Array.mem_toList_iff.mpr he), fun k => ?_⟩
   show _ = rows.lookup k
   rw [<- k2 k]
   unfold findBy
   rw [<- Array.find?_toList]
  ·cases e
 ·cases e
section
variable {X : Cx} {o i : Expr} {pos : Pos} {td ty : TE} {rows : List (Int × Value)} {a : Addr}
def B4 (a : Addr) (rows : List (Int × Value)) (td ty : TE) : TE := fun σ H Q => td σ H fun x H1 => x = .ref a /\ ty σ H1 fun y H2 => ∃ k v u, y = .int k /\ rows.lookup k = some u /\ bm v u /\ Q v H2
theorem tD (ht : kC X.K a = some rows) (ho : PE X o td) (hi : PE X i ty) (hs : BZ i) : PE X (.Subscript o i pos) (B4 a rows td ty) := by
 intro pins s σ H Q I h
 refine rO PySem.F.slot_dict_getitem.lookup hs (thn (ho pins s σ H _ I h) fun u s1 ⟨x, H1, I1, rx, ex, q1⟩ => thn (hi pins s1 σ H1 _ I1 q1) fun iv s2 ⟨y, H2, I2, ry, k, v, u2, ey, l, ru, q2⟩ => ?_)
 subst ex
 subst ey
 obtain rfl : u = Value.ref a := rx
 obtain ⟨t, rfl⟩ := (show ∃ t, iv = Value.int k t from ry)
 have M : s2.heap.MapOf (intKind X.prog X.w) a (fun k => rows.lookup k) := xY I2.kIn ht
 exact ⟨M.typeIs, wpAny_getItem_of (intKind_is X.prog X.w k t) M l ⟨v, H2, I2.tok _, ru, q2⟩⟩
end
section
variable {X : Cx} {CX : CXT} {k : Nat} {f : Addr} {fd : FuncData} {ps : List Str} {sp : Sp} {EX : St -> XK} {pos p : Pos} {o i e : Expr} {es : List Expr} {tf : TE} {t : TA}
def xq (f : Addr) (sp : Sp) (EX : St -> XK) (tf : TE) (t : TA) : TE := fun σ H Q => tf σ H fun x H1 => x = .ref f /\ t σ H1 fun vs H2 => sp vs H2 Q (EX σ)
theorem v1 (hf : PE X (.Subscript o i p) tf) (F : bc X.prog X.w X.K X.mg X.base CX k f fd ps sp) (hr : bG k X.A) (hk : PySem.W.keepIn X.K (.ref f) = true) (hb : ci X.K fd ps []) (hx : fH CX X EX)
  (ha : PA X (e :: es) t) (he : starEach (e :: es) X.env = (false, eval e X.env) :: starEach es X.env := by rfl) (hpl : (backTo pos (starEach es X.env)).any (·.1) = false := by rfl) :
  PE X (.Call (.Subscript o i p) (e :: es) [] pos) (xq f sp EX tf t) := by
 intro pins s σ H Q I h
 show wpAny _ _ (eval (.Subscript o i p) X.env >>= fun f => callWith pos f [] (backTo pos (starEach (e :: es) X.env)) (backToKw pos (keywordEach [] X.env))) _ _ _
 refine CQ (thn (hf pins s σ H _ I h) fun u s1 ⟨x, H1, I1, rx, ex, q1⟩ => ?_)
 subst ex
 obtain rfl : u = Value.ref f := rx
 refine PySem.W.callWith_K (h₀ := X.base) I.ok.mod.kin hk (thn (ha pos pins s1 σ H1 _ I1 q1) fun us s2 ⟨vs, H2, I2, r, q⟩ => ⟨I2.kIn, ?_⟩) he hpl
 exact oy (dvs := []) F hr hb .nil hx I2 r (by rw [Dq]; exact q)
end
structure jB (k : Nat) (A : Around) : Prop where
 dp : A.depth + 3 * k + 5 < recursionLimit
 un : A.units + 16 * k + 200 < cLine
theorem bG.h {k : Nat} {A : Around} (r : bG k A) : jB k A := ⟨r.dp, r.un⟩
theorem jB.mark {k : Nat} {A : Around} (r : jB k A) (v : Option Value) : jB k (A.mark v) := ⟨r.dp, r.un⟩
theorem jB.deeper {k : Nat} {A : Around} (r : jB (k + 1) A) (env : Env) : jB k (A.deeper env) :=
 ⟨by have := r.dp; show A.depth + 1 + 3 * k + 5 < _; omega, by have := r.un; show A.units + 3 + 16 * k + 200 < _; omega⟩
structure rj (P : Program) (w : World) (K : Fg) (mg : Str -> Option Value) (base : Heap) (CX : CXT) (k : Nat) (f : Addr) (fd : FuncData) (ps : List Str) (sp : Sp) : Prop where
 len : ∀ vs H Q E, sp vs H Q E -> vs.length = ps.length
 run : ∀ (A : Around) (outer : List Env) (s : Shared) (H : Hp) (args : Args) (us : List Value) (vs : List V) (Q : VK) (E : XK), jB k A -> vv P w K mg base A outer s H -> BindsTo s fd args (ps.zip us) -> aV vs us -> sp vs H Q E ->
  codeAny (model P w) A (.call (.ref f) args) (CR CX outer P w H s Q E) s
theorem rj.ok {P : Program} {w : World} {K : Fg} {mg : Str -> Option Value} {base : Heap} {CX : CXT} {k : Nat} {f : Addr} {fd : FuncData} {ps : List Str} {sp : Sp} (F : rj P w K mg base CX k f fd ps sp) : bc P w K mg base CX k f fd ps sp :=
 ⟨F.len, fun A outer s H args us vs Q E hr => F.run A outer s H args us vs Q E hr.h⟩
abbrev Cx.uncalm (X : Cx) : Cx := { X with calm := false }
theorem Fun.okH {P : Program} {w : World} {K : Fg} {mg : Str -> Option Value} {base : Heap} {x qual : Str} {st : Stmt} {f : Addr} {fd : FuncData} {N ps : List Str} {k : Nat} {sp : Sp} (F : Fun K x qual st f fd) (S : al N ps (ae st)) (len : ∀ vs H Q E, sp vs H Q E -> vs.length = ps.length)
  (hbody : ∀ (cdv : Value) (A : Around) (outer : List Env) (s : Shared) (H : Hp) (vs : List V) (Q : VK) (E : XK), jB k (A.deeper (envOfC qual (ae st) s.heap.objs.size f cdv)) -> sp vs H Q E ->
   ∃ t, PSs (lT CX0 P w K mg base N qual (ae st) f cdv A outer s H E).uncalm.nox (cb st) t /\ t { nx := fun _ H' => Q .non H', rt := Q } (start N vs) H) : rj P w K mg base CX0 (k + 1) f fd ps sp := by
 obtain ⟨oc, od, kV, doc, pm, an, cdv, ct, osl, rfl, lk, hcd⟩ := F.ex
 refine ⟨len, fun A outer s H args us vs Q E hr e0 hb r hsp => ?_⟩
 have hl := len _ _ _ _ hsp
 have old : ∀ b o, base.get? b = some o -> s.heap.get? b = some o := fun b o e => (e0.bs b o e).1
 have KX : K.In s.heap := e0.mod.kin.keeps old
 have lim : s.heap.NoLimit := e0.mod.nolimit.keeps old
 have kinds : ∀ y ∈ ps.zip us, (ae st).names.lookup y.1 = some .local ∨ ((ae st).names.lookup y.1 = some .cell /\ ((cellsFrom (s.heap.objs.size + 1) (ae st).names []).lookup y.1).isSome = true) := fun y hy =>
  (S.par y.1 (List.of_mem_zip (show (y.1, y.2) ∈ ps.zip us from hy)).1).imp_right fun q => ⟨q, PySem.W.cellsFrom_some _ _ _ (.inl q)⟩
 have dep : A.depth < recursionLimit := by have := hr.dp; omega
 refine codeAny_call_function dep (KX _ _ lk) rfl S.co S.gen rfl (PySem.W.codeRec_of KX hcd) (hb _ _ _ _ ?_)
 refine wpAny_newFunctionEnv_cells S.kind kinds fun env he s1 x => ?_
 subst he
 refine ⟨lim.keeps x.toInCall.keep, codeAny_func ?_⟩
 obtain ⟨t, ht, hq⟩ := hbody cdv A outer s H vs Q E (hr.deeper _) hsp
 have calm : vv P w K mg base { A with handled := none } outer s H := ⟨e0.frames, e0.mod, e0.bs, e0.bsz, e0.funs, e0.frf, e0.hok, e0.bare⟩
 have J := mH (CX := CX0) (E := E) (cd := cdv) (qual := qual) (f := f) S rfl calm hl r x
 have I : Inv (lT CX0 P w K mg base N qual (ae st) f cdv A outer s H E).uncalm [] (start N vs) H s1 :=
  ⟨⟨J.ok.mod, J.ok.kind, J.ok.glob, J.ok.blt, J.ok.above, J.ok.inj, J.ok.has, J.ok.cab, fun z => Bool.noConfusion z, J.ok.frames, J.ok.stk, J.ok.exf, J.ok.bs, J.ok.bsz, J.ok.noex, J.ok.exfs, J.ok.funs, J.ok.frf⟩, J.os, J.bare, J.base, J.loc, J.cell, J.free, J.freeC, J.pin, J.hok, J.len⟩
 refine wpAny_mono (ht.nox [] s1 (start N vs) H _ I hq) (fun fl s' hs => ?_) fun e s' hs => hs
 have fin : ∀ {σ' : St} {H' : Hp} {v : V} {u : Value}, Inv (lT CX0 P w K mg base N qual (ae st) f cdv A outer s H E).uncalm [] σ' H' s' -> bm v u -> Q v H' -> CE outer P w H s Q u s' :=
  fun {σ' H' v u} J rv q => ⟨v, H', J.os, J.bare, J.base, J.hok, rv, q⟩
 cases fl with
 | ret u =>
  obtain ⟨v, σ', H', J, rv, q⟩ := hs
  exact fin J rv q
 | next =>
  obtain ⟨σ', H', J, q⟩ := hs
  exact fin (v := V.non) (u := Value.none) J rfl q
 | brk =>
  obtain ⟨_, _, _, q⟩ := hs
  exact False.elim q
 | cont =>
  obtain ⟨_, _, _, q⟩ := hs
  exact False.elim q
section
variable {X : Cx} {k : Nat} {f : Addr} {fd : FuncData} {ps : List Str} {sp : Sp} {x : Str} {p pos : Pos} {e : Expr} {es : List Expr} {t : TA}
theorem wa (F : rj X.prog X.w X.K X.mg X.base CX0 k f fd ps sp) (hr : jB k X.A) (hg : Gl X x) (hm : X.mg x = some (.ref f)) (hk : PySem.W.keepIn X.K (.ref f) = true) (hb : ci X.K fd ps [])
  (ha : PA X (e :: es) t) (hdb : (x == ("__debug__" : Str)) = false := by decide) (he : starEach (e :: es) X.env = (false, eval e X.env) :: starEach es X.env := by rfl) (hpl : (backTo pos (starEach es X.env)).any (·.1) = false := by rfl) :
  PE X (.Call (.Name x p) (e :: es) [] pos) (zU sp [] E0 t) := by
 intro pins s σ H Q I h
 refine wpAny_Call_Name_kw (fw I hg hm ?_ hdb)
 refine PySem.W.callWith_K (h₀ := X.base) I.ok.mod.kin hk (thn (ha pos pins s σ H _ I h) fun us s1 ⟨vs, H1, I1, r, q⟩ => ⟨I1.kIn, ?_⟩) he hpl
 have q : sp vs H1 Q E0 := by
  have z : sp (vs ++ []) H1 Q E0 := q
  rw [Dq] at z
  exact z
 have hl : (us ++ []).length = ps.length := by rw [Dq, <- r.length]; exact F.len _ _ _ _ q
 refine wpAny_call (codeAny_mono (F.run X.A X.stack s1 H1 ⟨us, []⟩ us vs Q E0 hr I1.env0 (by have z := hb s1 us I1.kIn hl; rw [Dq] at z; exact z) r q) fun r s' hq => ?_)
 cases r with
 | error e => exact hq.elim
 | ok fl =>
  cases fl with
  | ret u => exact I1.after hq
  | next => exact False.elim hq
  | brk => exact False.elim hq
  | cont => exact False.elim hq
end
end L2
end
section
namespace L2
open PySem PyProof.Rows PySem.Spec
theorem jv {K : Fg} {H : Hp} : ∀ ns : List Int, pc K H (ns.map V.int) (ns.map PyData.int)
 | [] => .nil
 | n :: r => .cons (.int n) (jv r)
theorem lD : ∀ m n : List Int, PyData.eqvAll (m.map PyData.int) (n.map PyData.int) = decide (m = n)
 | [], [] => by simp [PyData.eqvAll]
 | [], _ :: _ => by simp [PyData.eqvAll]
 | _ :: _, [] => by simp [PyData.eqvAll]
 | a :: m, b :: n => by
  rw [List.map_cons, List.map_cons, PyData.eqvAll, lD m n, PyData.eqv]
  by_cases c : a = b <;> simp [c]
theorem pZ : ∀ ns : List Int, PyData.canLayAll0 (ns.map PyData.int) = true
 | [] => by simp [PyData.canLayAll0]
 | n :: r => by
  rw [List.map_cons, PyData.canLayAll0, pZ r]
  simp [PyData.canLay0]
theorem ki : ∀ ns : List Int, PyData.depthAll (ns.map PyData.int) = 0
 | [] => by simp [PyData.depthAll]
 | n :: r => by
  rw [List.map_cons, PyData.depthAll, ki r]
  simp [PyData.depth]
theorem cJ (ns : List Int) : SeqAt.shaped (.list (ns.map PyData.int)) = true := by
 unfold SeqAt.shaped
 rw [PyData.canLay0, PyData.depth, pZ, ki]
 rfl
section
variable {X : Cx}
def Cq (K : Fg) : R2 := fun x y H Q => ∃ (a b : Addr) (m n : List Int), x = .ref a /\ y = .ref b /\ SqL K H a (m.map V.int) /\ SqL K H b (n.map V.int) /\ Q (.bl (!decide (m = n))) H
def Cv (K : Fg) : R2 := fun x y H Q => ∃ (a b : Addr) (m n : List Int), x = .ref a /\ y = .ref b /\ SqL K H a (m.map V.int) /\ SqL K H b (n.map V.int) /\ Q (.bl (decide (m = n))) H
theorem xG (hu : X.A.units + 64 < cLine) : OpR X (compareOp .NotEq) (Cq X.K) := by
 intro pins s σ H x y v u Q I rx ry h
 obtain ⟨a, b, m, n, rfl, rfl, ha, hb, q⟩ := h
 refine Aq hu pins s σ H _ _ v u Q I rx ry ⟨.list (m.map .int), .list (n.map .int), .lst ha (jv m), .lst hb (jv n), cJ m, cJ n, ?_⟩
 rw [PyData.eqv, lD]
 exact q
theorem Aw (hu : X.A.units + 64 < cLine) : OpR X (compareOp .Eq) (Cv X.K) := by
 intro pins s σ H x y v u Q I rx ry h
 obtain ⟨a, b, m, n, rfl, rfl, ha, hb, q⟩ := h
 refine Ax hu pins s σ H _ _ v u Q I rx ry ⟨.list (m.map .int), .list (n.map .int), .lst ha (jv m), .lst hb (jv n), cJ m, cJ n, ?_⟩
 rw [PyData.eqv, lD]
 exact q
def BD (K : Fg) : V -> V -> Hp -> VK -> Prop := fun x y H Q => ∃ (p : Addr) (xs : List V) (j : Nat) (v : V), x = .ref p /\ y = .int j /\ SqL K H p xs /\ xs[j]? = some v /\ Q v H
theorem mN : Ca X (BD X.K) := by
 intro pins s σ H x y v u Q I rx ry h
 obtain ⟨p, xs, j, z, rfl, rfl, hq, he, q⟩ := h
 cases rx
 obtain ⟨t, rfl⟩ := ry
 obtain ⟨its, r, pl, hz⟩ := I.list hq
 obtain ⟨wv, ew, rw'⟩ := r.get he
 have hj : j < xs.length := (CY.mp he).1
 rw [sizeLine_eq] at hz
 exact wpAny_getItem_list pl.isList (Int.natCast_nonneg j) (by omega) (by simpa using ew) ⟨z, H, I, rw', q⟩
end
end L2
end
section
namespace L2
open PySem PySem.Spec PyProof.Rows
def zX (sp : Sp) : Sp := fun vs H Q E => ∃ (g : Addr) (xs : List V), H g = some (.lst xs) /\ sp vs (drp H g) (fun v H2 => H2 g = none -> Q v (upd H2 g (.lst xs))) E
theorem bc.hid {P : Program} {w : World} {K : Fg} {mg : Str -> Option Value} {base : Heap} {k : Nat} {f : Addr} {fd : FuncData} {ps : List Str} {sp : Sp} (F : bc P w K mg base CX0 k f fd ps sp) : bc P w K mg base CX0 k f fd ps (zX sp) := by
 refine ⟨fun vs H Q E h => ?_, fun A outer s H args us vs Q E hr e0 hb hv hs => ?_⟩
 ·obtain ⟨g, xs, _, h⟩ := h
  exact F.len _ _ _ _ h
 ·obtain ⟨g, xs, hg, h⟩ := hs
  have dn : ∀ {b : Addr}, H b = none -> drp H g b = none := fun {b} e => by
   unfold drp
   split
   ·rfl
   ·exact e
  have nb : ∀ {b : Addr} {o : HO}, drp H g b = some o -> b ≠ g /\ H b = some o := fun {b o} e => by
   unfold drp at e
   split at e
   ·cases e
   ·rename_i z
    exact ⟨z, e⟩
  have hok : HOk P w (drp H g) s.heap := fun a o e => by
   obtain ⟨n, e⟩ := nb e
   refine (e0.hok a o e).stay (fun _ _ _ q => q) (fun b q => ?_) (fun b ys q => ?_)
   ·rw [bo (fun z => by rw [z, hg] at q; cases q)]
    exact q
   ·rw [bo (fun z => by rw [z, hg] at q; cases q)]
    exact q
  have e1 : vv P w K mg base A outer s (drp H g) := ⟨e0.frames, e0.mod, fun b o e => ⟨(e0.bs b o e).1, dn (e0.bs b o e).2⟩, e0.bsz, e0.funs, fun b hb => dn (e0.frf b hb), hok, e0.bare⟩
  refine codeAny_mono (F.run A outer s (drp H g) args us vs _ E hr e1 hb hv h) fun r s' hq => ?_
  obtain ⟨hz, its, n, rv, eg⟩ := e0.hok g _ hg
  have nfr : g ∉ frs outer := fun z => by
   rw [e0.frf g z] at hg
   cases hg
  cases r with
  | error e => exact hq
  | ok fl =>
   cases fl with
   | next => exact hq
   | brk => exact hq
   | cont => exact hq
   | ret u =>
    obtain ⟨v, H', os, bare, un, hok', rvu, q⟩ := hq
    have hn : H' g = none := un.free g _ eg eF (by simp)
    have hk := un.keep g _ eg eF nfr (by simp)
    refine ⟨v, upd H' g (.lst xs), os, bare, ⟨fun b o e1 e2 e3 e4 => un.keep b o e1 (dn e2) e3 e4, fun b o e1 e2 e3 e4 => un.slot b o e1 (dn e2) e3 e4, fun b o e1 e2 e3 => ?_, un.there, fun b ys e => ?_, fun b o y e => ?_, fun b ys e => ?_⟩, fun a o e => ?_, rvu, q hn⟩
    ·rw [ag (fun z => by rw [z, hg] at e2; cases e2)]
     exact un.free b o e1 (dn e2) e3
    ·have ne : b ≠ g := fun z => by rw [z, hg] at e; cases e
     rw [ag ne]
     exact un.tups b ys (by rw [bo ne]; exact e)
    ·have ne : b ≠ g := fun z => by rw [z, hg] at e; cases e
     rw [ag ne]
     exact un.frzs b o y (by rw [bo ne]; exact e)
    ·have ne : b ≠ g := fun z => by rw [z, hg] at e; cases e
     rw [ag ne]
     exact un.tbls b ys (by rw [bo ne]; exact e)
    ·by_cases z : a = g
     ·subst z
      rw [upd_same] at e
      cases e
      exact ⟨hz, its, n, rv, hk⟩
     ·rw [ag z] at e
      refine (hok' a o e).stay (fun _ _ _ y => y) (fun b y => ?_) (fun b ys y => ?_)
      ·rw [ag (ah y hn)]
       exact y
      ·rw [ag (ah y hn)]
       exact y
end L2
end
section
namespace SX
open PySem
abbrev rc (l : List Nat) : Prop := l.Pairwise (· < ·)
theorem uJ {xs : Array Nat} {i d : Nat} (h : i < xs.size) : xs.getD i d = xs[i] := by simp [Array.getD, h]
theorem oA {xs : Array Nat} (hr : rc xs.toList) {a b : Nat} (ha : a < xs.size) (hb : b < xs.size) (h : a < b) : xs[a] < xs[b] := by
 have q := List.pairwise_iff_getElem.mp hr a b (by rw [Da]; exact ha) (by rw [Da]; exact hb) h
 rw [Array.getElem_toList, Array.getElem_toList] at q
 exact q
theorem lH {xs : Array Nat} (hr : rc xs.toList) (j : Nat) : ∀ (f lo hi : Nat), hi - lo <= f -> lo <= hi -> hi <= xs.size -> (∀ i (h : i < xs.size), i < lo -> xs[i] < j) -> (∀ i (h : i < xs.size), hi <= i -> j <= xs[i]) ->
  let r := SetTable.below.go xs j f lo hi
  r <= xs.size /\ (∀ i (h : i < xs.size), i < r -> xs[i] < j) /\ ∀ i (h : i < xs.size), r <= i -> j <= xs[i]
 | 0, lo, hi, hf, hl, hs, h1, h2 => by
  have e : lo = hi := by omega
  subst e
  exact ⟨hs, h1, h2⟩
 | f + 1, lo, hi, hf, hl, hs, h1, h2 => by
  have mono : ∀ a b (ha : a < xs.size) (hb : b < xs.size), a <= b -> xs[a] <= xs[b] := fun a b ha hb hab => by
   rcases Nat.lt_or_eq_of_le hab with z | z
   ·exact Nat.le_of_lt (oA hr ha hb z)
   ·subst z
    exact C7 _
  unfold SetTable.below.go
  by_cases c : lo < hi
  ·rw [if_pos c]
   have hm : (lo + hi) / 2 < xs.size := by omega
   by_cases d : xs.getD ((lo + hi) / 2) j < j
   ·dsimp only
    rw [if_pos d]
    rw [uJ hm] at d
    exact lH hr j f _ _ (by omega) (by omega) hs (fun i hi' hlt => Nat.lt_of_le_of_lt (mono i _ hi' hm (by omega)) d) h2
   ·dsimp only
    rw [if_neg d]
    rw [uJ hm] at d
    exact lH hr j f _ _ (by omega) (by omega) (by omega) h1 fun i hi' hle => Nat.le_trans (Nat.le_of_not_lt d) (mono _ i hm hi' (by omega))
  ·rw [if_neg c]
   have e : lo = hi := by omega
   subst e
   exact ⟨hs, h1, h2⟩
theorem eI {xs : Array Nat} (hr : rc xs.toList) (j : Nat) : SetTable.below xs j <= xs.size /\ (∀ i (h : i < xs.size), i < SetTable.below xs j -> xs[i] < j) /\ ∀ i (h : i < xs.size), SetTable.below xs j <= i -> j <= xs[i] :=
 lH hr j xs.size 0 xs.size (by omega) (De _) (C7 _) (fun i _ h => absurd h (by omega)) fun i h z => absurd z (by omega)
def Off (t : SetTable) (j : Nat) : Prop := t.place[SetTable.below t.place j]? ≠ some j
theorem uh {t : SetTable} (hr : rc t.place.toList) {j : Nat} (h : Off t j) : j ∉ t.place.toList := fun m => by
 obtain ⟨i, hi, e⟩ := List.getElem_of_mem m
 have hi' : i < t.place.size := by simpa using hi
 have e' : t.place[i] = j := by simpa using e
 obtain ⟨b0, b1, b2⟩ := eI hr j
 have hb : ¬ i < SetTable.below t.place j := fun z => by have := b1 i hi' z; omega
 have hc : ¬ SetTable.below t.place j < i := fun z => by
  have q := b2 (SetTable.below t.place j) (by omega) (C7 _)
  have mono : t.place[SetTable.below t.place j]'(by omega) < t.place[i] := oA hr (by omega) hi' z
  omega
 have eq : SetTable.below t.place j = i := by omega
 apply h
 rw [eq]
 simp [hi', e']
theorem oB {xs : Array Nat} (hr : rc xs.toList) {j : Nat} (h : j ∉ xs.toList) : rc (SetTable.insertAt xs (SetTable.below xs j) j).toList := by
 obtain ⟨b0, b1, b2⟩ := eI hr j
 rw [SetTable.toList_insertAt]
 have all1 : ∀ a ∈ xs.toList.take (SetTable.below xs j), a < j := fun a ha => by
  obtain ⟨i, hi, e⟩ := List.getElem_of_mem ha
  rw [List.getElem_take] at e
  rw [Dn] at hi
  have hi' : i < xs.size := by have := Dl hi (Nat.min_le_right _ _); simpa using this
  rw [<- e]
  simpa using b1 i hi' (Dl hi (Nat.min_le_left _ _))
 have all2 : ∀ a ∈ xs.toList.drop (SetTable.below xs j), j < a := fun a ha => by
  have hm := List.mem_of_mem_drop ha
  obtain ⟨i, hi, e⟩ := List.getElem_of_mem ha
  rw [List.getElem_drop] at e
  rw [List.length_drop] at hi
  have hi' : SetTable.below xs j + i < xs.size := by have : xs.toList.length = xs.size := by simp
                                                     omega
  have q := b2 _ hi' (Nat.le_add_right _ _)
  have ne : j ≠ a := fun z => h (z ▸ hm)
  have e' : xs[SetTable.below xs j + i] = a := by simpa using e
  omega
 refine List.pairwise_append.mpr ⟨hr.sublist (List.take_sublist _ _), List.pairwise_cons.mpr ⟨fun a ha => all2 a ha, hr.sublist (List.drop_sublist _ _)⟩, fun a ha b hb => ?_⟩
 rcases C5.mp hb with z | z
 ·rw [z]
  exact all1 a ha
 ·exact Nat.lt_trans (all1 a ha) (all2 b z)
theorem cp {α : Type} (xs : Array α) (p : Nat) : (SetTable.eraseAt xs p).toList = xs.toList.take p ++ xs.toList.drop (p + 1) := by
 simp [SetTable.eraseAt, List.extract_eq_take_drop, List.take_of_length_le]
theorem qB {xs : Array Nat} (hr : rc xs.toList) (p : Nat) : rc (SetTable.eraseAt xs p).toList := by
 rw [cp]
 refine List.Pairwise.sublist ?_ hr
 have : xs.toList.take p ++ xs.toList.drop (p + 1) = xs.toList.eraseIdx p := (List.eraseIdx_eq_take_drop_succ xs.toList p).symm
 rw [this]
 exact List.eraseIdx_sublist _ _
theorem dZ (n : Nat) : rc (Array.range n).toList := by
 rw [Array.toList_range]
 exact List.pairwise_lt_range
structure cB (by_ : Bool) (n : Nat) (t : SetTable) : Prop where
 fits : t.fits n = true
 rise : rc t.place.toList
 led : by_ = true ∨ t.led = true
theorem cB.fresh (by_ : Bool) : cB by_ 0 (.fresh 0 0 (!by_)) := ⟨rfl, .nil, by cases by_ <;> simp [SetTable.fresh]⟩
theorem iU {t : SetTable} {hashAt : Nat -> Int} {h : Int} : ∀ (f : Nat) (p : SetTable.Probe) {j : Nat} {d : Option Nat}, (∀ k, p.dummy = some k -> Off t k) -> SetTable.probe.go t hashAt h f p = some (.empty j d) -> Off t j /\ ∀ k, d = some k -> Off t k
 | 0, _, _, _, _, e => by
  unfold SetTable.probe.go at e
  cases e
 | f + 1, p, j, d, hp, e => by
  have off : ∀ {k : Nat}, t.slot k = .empty ∨ t.slot k = .dummy -> Off t k := fun {k} q z => by
   have : t.slot k = .live (SetTable.below t.place k) := by
    unfold SetTable.slot
    dsimp only
    rw [if_pos (beq_iff_eq.mpr z)]
   rw [this] at q
   rcases q with q | q <;> cases q
  have adv : ∀ q : SetTable.Probe, (t.advance q).dummy = q.dummy := fun q => by
   unfold SetTable.advance
   split <;> rfl
  unfold SetTable.probe.go at e
  split at e
  ·rename_i z
   cases e
   exact ⟨off (.inl z), hp⟩
  ·rename_i z
   refine iU f _ (fun k hk => ?_) e
   rw [adv] at hk
   cases hk
   exact off (.inr z)
  ·split at e
   ·cases e
   ·refine iU f _ (fun k hk => hp k ?_) e
    rw [adv] at hk
    exact hk
theorem mQ {t : SetTable} {h : Int} {slot : Nat} {was : Bool} (e : t.freeSlot h = some (slot, was)) : Off t slot := by
 unfold SetTable.freeSlot at e
 split at e
 ·rename_i j d q
  cases e
  obtain ⟨h1, h2⟩ := iU _ _ (fun k hk => by cases hk) q
  cases d with
  | none => exact h1
  | some k => exact h2 k rfl
 ·cases e
theorem uw {by_ : Bool} {n : Nat} {t : SetTable} (k : cB by_ n t) (es : Array (Int × Value)) (h : Int) (x : Value) : cB by_ (layNew t es h x).1.size (layNew t es h x).2.1 := by
 refine ⟨layNew_fits t es h x, ?_, ?_⟩
 ·unfold layNew
  split
  ·rename_i slot was e
   dsimp only [SetTable.orStandIn]
   split
   ·exact oB k.rise (uh k.rise (mQ e))
   ·exact dZ _
  ·exact dZ _
 ·unfold layNew
  split
  ·dsimp only [SetTable.orStandIn]
   split
   ·exact k.led
   ·exact k.led
  ·exact k.led
theorem gg {mask finger moves : Nat} {led plain : Bool} {hs : Array Int} {t : SetTable} {order : Array Nat} (e : SetTable.laid mask finger moves led plain hs = some (t, order)) : rc t.place.toList /\ t.led = led /\ t.mask = mask /\ t.dummies = #[] := by
 unfold SetTable.laid at e
 obtain ⟨owner, _, e2⟩ := Option.bind_eq_some_iff.mp e
 cases e2
 refine ⟨?_, rfl, rfl, rfl⟩
 rw [List.toList_toArray]
 have : ((List.range (mask + 1)).filterMap fun j => (owner.getD j none).map (j, ·)).map (·.1) = (List.range (mask + 1)).filter fun j => (owner.getD j none).isSome := by
  rw [List.map_filterMap, <- List.filterMap_eq_filter]
  congr 1
  funext j
  cases q : owner.getD j none <;> simp [Option.guard, q]
 rw [this]
 exact List.pairwise_lt_range.sublist List.filter_sublist
theorem oC {by_ : Bool} {n : Nat} {t : SetTable} (k : cB by_ n t) (es : Array (Int × Value)) (wanted : Nat) : cB by_ (relayAll t es wanted).1.size (relayAll t es wanted).2.1 := by
 refine ⟨relayAll_fits t es wanted, ?_, ?_⟩
 ·unfold relayAll
  split
  ·rename_i t' order e
   dsimp only
   split
   ·exact (gg e).1
   ·exact dZ _
  ·exact dZ _
 ·unfold relayAll
  split
  ·rename_i t' order e
   dsimp only
   split
   ·exact k.led.imp_right fun z => ((gg e).2.1).trans z
   ·exact k.led
  ·exact k.led
theorem zf {by_ : Bool} {n : Nat} {t : SetTable} (k : cB by_ n t) {i : Nat} (hi : i < n) : cB by_ (n - 1) (t.drop i) := by
 have f := k.fits
 unfold SetTable.fits at f
 rw [C4, beq_iff_eq, C9] at f
 have hi' : i < t.place.size := by omega
 have e : t.place[i]? = some t.place[i] := by simp [hi']
 have len : ∀ (xs : Array Nat) p, p < xs.size -> (SetTable.eraseAt xs p).size + 1 = xs.size := fun xs p hp => by
  rw [<- Da, cp, CV, Dn, List.length_drop, Da]
  omega
 have len2 : ∀ (xs : Array Nat) p x, (SetTable.insertAt xs p x).size = xs.size + 1 := fun xs p x => by
  rw [<- Da, (SetTable.insertAt_perm xs p x).length_eq, Array.toList_push, CV, Da]
  rfl
 unfold SetTable.drop
 rw [e]
 refine ⟨?_, qB k.rise i, k.led⟩
 unfold SetTable.fits SetTable.fill
 dsimp only
 have l1 := len t.place i hi'
 have l2 := len2 t.dummies (SetTable.below t.dummies t.place[i]) t.place[i]
 unfold SetTable.fill at f
 rw [C4, beq_iff_eq, C9, l2]
 omega
end SX
end
section
namespace SX
open PySem
def lcg (M i : Nat) : Nat := (i * 5 + 1) % M
def itr (M : Nat) : Nat -> Nat -> Nat
 | 0, i => i
 | n + 1, i => itr M n (lcg M i)
theorem lv (M : Nat) : ∀ a b i, itr M (a + b) i = itr M b (itr M a i)
 | 0, b, i => by rw [Nat.zero_add]; rfl
 | a + 1, b, i => by rw [Nat.succ_add]; exact lv M a b (lcg M i)
def yz (M : Nat) : Nat -> Nat -> List Nat
 | 0, _ => []
 | n + 1, i => i :: yz M n (lcg M i)
theorem mE {M : Nat} : ∀ {n i j : Nat}, j ∈ yz M n i -> ∃ m, m < n /\ itr M m i = j
 | 0, i, j, h => by cases h
 | n + 1, i, j, h => by
  rcases C5.mp h with z | z
  ·exact ⟨0, Nat.succ_pos n, z.symm⟩
  ·obtain ⟨m, h1, h2⟩ := mE z
   exact ⟨m + 1, Nat.succ_lt_succ h1, h2⟩
def Ac (M : Nat) : Bool := (List.range M).all (fun j => (yz M M 0).contains j) && itr M M 0 == 0
theorem Ab : ∀ M ∈ [8, 16, 32, 64, 128, 256, 512], Ac M = true := by decide +kernel
theorem BC {M : Nat} (hM : M ∈ [8, 16, 32, 64, 128, 256, 512]) {i j : Nat} (hi : i < M) (hj : j < M) : ∃ m, m < M /\ itr M m i = j := by
 have r := Ab M hM
 unfold Ac at r
 rw [C4, List.all_eq_true, beq_iff_eq] at r
 have at_ : ∀ k, k < M -> ∃ m, m < M /\ itr M m 0 = k := fun k hk => mE (by simpa using r.1 k (List.mem_range.mpr hk))
 obtain ⟨a, ha, ea⟩ := at_ i hi
 obtain ⟨b, hb, eb⟩ := at_ j hj
 by_cases c : a <= b
 ·refine ⟨b - a, by omega, ?_⟩
  rw [<- ea, <- lv, show a + (b - a) = b by omega]
  exact eb
 ·refine ⟨M - a + b, by omega, ?_⟩
  rw [<- ea, <- lv, show a + (M - a + b) = M + b by omega, lv, r.2]
  exact eb
section
variable {mask : Nat} {owner : Array (Option Nat)}
theorem sQ (mask i : Nat) : i <= SetTable.runEnd mask i := by
 unfold SetTable.runEnd
 split <;> omega
theorem uN : ∀ {f i p j : Nat}, SetTable.layClean.free mask owner f i p = some j -> owner[j]? = some none
 | 0, _, _, _, e => by
  unfold SetTable.layClean.free at e
  cases e
 | f + 1, i, p, j, e => by
  unfold SetTable.layClean.free at e
  split at e
  ·rename_i k q
   cases e
   have z := List.find?_some q
   cases w : owner[i + k]? with
   | none =>
    have hn : ¬ (i + k < owner.size) := fun h => by simp [h] at w
    simp [Array.getD, hn] at z
   | some v =>
    have hn : i + k < owner.size := by
     rcases Nat.lt_or_ge (i + k) owner.size with h | h
     ·exact h
     ·simp [h] at w
    have : owner[i + k] = v := by simpa [hn] using w
    simp [Array.getD, hn, this] at z
    rw [z]
  ·exact uN e
theorem uL {f i p : Nat} (h : owner[i]? = some none) : (SetTable.layClean.free mask owner (f + 1) i p).isSome = true := by
 unfold SetTable.layClean.free
 have hn : i < owner.size := by
  rcases Nat.lt_or_ge i owner.size with h' | h'
  ·exact h'
  ·simp [h'] at h
 have e : owner[i] = none := by simpa [hn] using h
 have g := sQ mask i
 have : ((List.range (SetTable.runEnd mask i + 1 - i)).find? fun k => (owner.getD (i + k) (some 0)).isNone).isSome = true := by
  rw [List.find?_isSome]
  exact ⟨0, List.mem_range.mpr (by omega), by simp [Array.getD, hn, e]⟩
 split
 ·rfl
 ·rename_i q
  rw [q] at this
  cases this
theorem oZ {f i p : Nat} (h : (SetTable.layClean.free mask owner f (SetTable.leap mask i p).1 (SetTable.leap mask i p).2).isSome = true) : (SetTable.layClean.free mask owner (f + 1) i p).isSome = true := by
 unfold SetTable.layClean.free
 split
 ·rfl
 ·exact h
theorem mP {j : Nat} (hj : owner[j]? = some none) : ∀ (m f i : Nat), m < f -> itr (mask + 1) m i = j -> (SetTable.layClean.free mask owner f i 0).isSome = true
 | 0, f, i, hf, e => by
  obtain ⟨f, rfl⟩ : ∃ g, f = g + 1 := ⟨f - 1, by omega⟩
  cases e
  exact uL hj
 | m + 1, f, i, hf, e => by
  obtain ⟨f, rfl⟩ : ∃ g, f = g + 1 := ⟨f - 1, by omega⟩
  exact oZ (mP hj m f _ (by omega) (by simpa [SetTable.leap, itr, lcg] using e))
theorem uM (hM : mask + 1 ∈ [8, 16, 32, 64, 128, 256, 512]) {j h : Nat} (hj : owner[j]? = some none) (jm : j <= mask) (hh : h < 1024) : (SetTable.layClean.free mask owner (SetTable.turns mask) (h % (mask + 1)) h).isSome = true := by
 unfold SetTable.turns
 refine oZ (oZ ?_)
 have p0 : (SetTable.leap mask (SetTable.leap mask (h % (mask + 1)) h).1 (SetTable.leap mask (h % (mask + 1)) h).2).2 = 0 := by
  show h / 32 / 32 = 0
  omega
 have lt : ∀ i p, (SetTable.leap mask i p).1 < mask + 1 := fun i p => Nat.mod_lt _ (Nat.succ_pos _)
 rw [p0]
 obtain ⟨m, hm, e⟩ := BC hM (lt (SetTable.leap mask (h % (mask + 1)) h).1 (SetTable.leap mask (h % (mask + 1)) h).2) (show j < mask + 1 by omega)
 exact mP hj m _ _ (by omega) e
end
theorem pd : ∀ {l : List (Option Nat)} {j k : Nat}, l[j]? = some none -> ((l.set j (some k)).filterMap id).Perm (k :: l.filterMap id)
 | [], j, k, h => by simp at h
 | a :: r, 0, k, h => by
  have e : a = none := by simpa using h
  subst e
  simp
 | a :: r, j + 1, k, h => by
  have ih := pd (l := r) (j := j) (k := k) (by simpa using h)
  cases a with
  | none => simpa using ih
  | some v =>
   simp only [List.set_cons_succ, List.filterMap_cons, id]
   exact (ih.cons v).trans (List.Perm.swap k v _)
theorem gf : ∀ {l : List (Option Nat)}, (l.filterMap id).length < l.length -> ∃ j, j < l.length /\ l[j]? = some none
 | [], h => by simp at h
 | none :: r, h => ⟨0, by simp, rfl⟩
 | some v :: r, h => by
  obtain ⟨j, h1, h2⟩ := gf (l := r) (by simpa using h)
  exact ⟨j + 1, by simpa using h1, by simpa using h2⟩
theorem qa {mask : Nat} (hM : mask + 1 ∈ [8, 16, 32, 64, 128, 256, 512]) : ∀ (hs : List Int) (owner : Array (Option Nat)) (k : Nat), owner.size = mask + 1 -> (owner.toList.filterMap id).Perm (List.range k) -> (∀ h ∈ hs, 0 <= h /\ h < 1024) -> k + hs.length <= mask ->
  ∃ owner', hs.foldl (fun acc h => do
   let (owner, k) <- acc
   let j <- SetTable.layClean.free mask owner (SetTable.turns mask) (SetTable.bits h % (mask + 1)) (SetTable.bits h)
   pure (owner.setIfInBounds j (some k), k + 1)) (some (owner, k)) = some (owner', k + hs.length) /\ owner'.size = mask + 1 /\ (owner'.toList.filterMap id).Perm (List.range (k + hs.length))
 | [], owner, k, sz, p, _, _ => ⟨owner, rfl, sz, p⟩
 | h :: r, owner, k, sz, p, hb, hl => by
  have len : (owner.toList.filterMap id).length = k := by rw [p.length_eq, List.length_range]
  rw [CU] at hl
  obtain ⟨j, j1, j2⟩ := gf (l := owner.toList) (by rw [len, Da, sz]; omega)
  rw [Da, sz] at j1
  rw [Array.getElem?_toList] at j2
  have hh := hb h (C3 ..)
  have bh : SetTable.bits h = h.toNat := by
   unfold SetTable.bits
   omega
  have q := uM hM j2 (by omega) (show SetTable.bits h < 1024 by rw [bh]; omega)
  obtain ⟨i, ei⟩ := Option.isSome_iff_exists.mp q
  have fi := uN ei
  have si : (owner.setIfInBounds i (some k)).toList = owner.toList.set i (some k) := by simp
  obtain ⟨owner', e1, e2, e3⟩ := qa hM r (owner.setIfInBounds i (some k)) (k + 1) (by simpa using sz) (by
   rw [si]
   refine (pd (by rw [Array.getElem?_toList]; exact fi)).trans ?_
   rw [List.range_succ]
   exact (p.cons k).trans (List.perm_append_singleton k (List.range k)).symm) (fun x hx => hb x (C2 _ hx)) (by omega)
  refine ⟨owner', ?_, e2, ?_⟩
  ·rw [List.foldl_cons]
   show r.foldl _ ((SetTable.layClean.free mask owner (SetTable.turns mask) (SetTable.bits h % (mask + 1)) (SetTable.bits h)).bind fun j => some (owner.setIfInBounds j (some k), k + 1)) = _
   rw [ei]
   show r.foldl _ (some (owner.setIfInBounds i (some k), k + 1)) = _
   rw [e1, CU]
   congr 2
   omega
  ·rw [CU, show k + (r.length + 1) = k + 1 + r.length by omega]
   exact e3
theorem qb {mask : Nat} (hM : mask + 1 ∈ [8, 16, 32, 64, 128, 256, 512]) (finger moves : Nat) (led plain : Bool) (hs : Array Int) (hb : ∀ h ∈ hs.toList, 0 <= h /\ h < 1024) (hn : hs.size <= mask) :
  ∃ t order, SetTable.laid mask finger moves led plain hs = some (t, order) /\ order.toList.Perm (List.range hs.size) /\ t.place.size = hs.size := by
 obtain ⟨owner, e1, e2, e3⟩ := qa hM hs.toList (Array.replicate (mask + 1) none) 0 (by simp) (by simp) hb (by rw [Da]; omega)
 rw [Nat.zero_add, Da] at e1 e3
 have lc : SetTable.layClean mask hs = some owner := by
  unfold SetTable.layClean
  rw [<- Array.foldl_toList]
  show Option.map _ (hs.toList.foldl _ _) = _
  rw [e1]
  rfl
 have ord : ((List.range (mask + 1)).filterMap fun j => (owner.getD j none).map (j, ·)).map (·.2) = owner.toList.filterMap id := by
  rw [List.map_filterMap]
  have : owner.toList = (List.range (mask + 1)).map fun j => owner.getD j none := by
   apply List.ext_getElem
   ·simp [e2]
   ·intro i h1 h2
    have : i < owner.size := by simpa using h1
    simp [Array.getD, this]
  rw [this, List.filterMap_map]
  congr 1
  funext j
  show ((owner.getD j none).map (j, ·)).map (·.2) = owner.getD j none
  generalize owner.getD j none = q
  cases q <;> rfl
 refine ⟨_, _, by unfold SetTable.laid; rw [lc]; rfl, ?_, ?_⟩
 ·rw [List.toList_toArray, ord]
  exact e3
 ·dsimp only
  rw [Dk, CP, <- CP (f := (·.2)), ord, e3.length_eq, List.length_range]
end SX
end
section
namespace SX
open PySem PyProof.Rows PySem.Spec
abbrev byT (w : World) : Bool := w.params.followText "set-order"
inductive Els : List (Int × Value) -> List Int -> Prop
 | nil : Els [] []
 | cons {k : Int} {t : Tok} {es : List (Int × Value)} {ks : List Int} : Els es ks -> Els ((hashInt k, .int k t) :: es) (k :: ks)
theorem Els.length : ∀ {es : List (Int × Value)} {ks : List Int}, Els es ks -> es.length = ks.length
 | _, _, .nil => rfl
 | _, _, .cons h => by rw [CU, CU, h.length]
theorem Els.append : ∀ {es es' : List (Int × Value)} {ks ks' : List Int}, Els es ks -> Els es' ks' -> Els (es ++ es') (ks ++ ks')
 | _, _, _, _, .nil, h => h
 | _, _, _, _, .cons a, h => .cons (a.append h)
theorem Els.take : ∀ {es : List (Int × Value)} {ks : List Int} (n : Nat), Els es ks -> Els (es.take n) (ks.take n)
 | _, _, 0, _ => by simp; exact .nil
 | _, _, _ + 1, .nil => .nil
 | _, _, n + 1, .cons h => .cons (h.take n)
theorem Els.drop : ∀ {es : List (Int × Value)} {ks : List Int} (n : Nat), Els es ks -> Els (es.drop n) (ks.drop n)
 | _, _, 0, h => h
 | _, _, _ + 1, .nil => .nil
 | _, _, n + 1, .cons h => h.drop n
theorem Els.mem : ∀ {es : List (Int × Value)} {ks : List Int}, Els es ks -> ∀ e ∈ es, ∃ k t, k ∈ ks /\ e = (hashInt k, .int k t)
 | _, _, .nil, e, h => by cases h
 | _, _, .cons (k := k) (t := t) r, e, h => by
  rcases C5.mp h with z | z
  ·exact ⟨k, t, C3 .., z⟩
  ·obtain ⟨k', t', h1, h2⟩ := r.mem e z
   exact ⟨k', t', C2 _ h1, h2⟩
theorem Els.of_perm {es es' : List (Int × Value)} {ks : List Int} (h : Els es ks) (p : es'.Perm es) : ∃ ks', ks'.Perm ks /\ Els es' ks' := by
 induction p generalizing ks with
 | nil => cases h; exact ⟨[], .nil, .nil⟩
 | @cons e a b p ih =>
  cases h with
  | cons r =>
   obtain ⟨ks', h1, h2⟩ := ih r
   exact ⟨_, h1.cons _, .cons h2⟩
 | swap x y l =>
  cases h with
  | cons r =>
   cases r with
   | cons r => exact ⟨_, List.Perm.swap _ _ _, .cons (.cons r)⟩
 | trans p q ih1 ih2 =>
  obtain ⟨k1, h1, h2⟩ := ih2 h
  obtain ⟨k2, h3, h4⟩ := ih1 h2
  exact ⟨k2, h3.trans h1, h4⟩
section
variable {prog : Program} {w : World}
theorem Els.elems {es : List (Int × Value)} {ks : List Int} (h : Els es ks) : ElemsOf (intKind prog w) es := fun e he => by
 obtain ⟨k, t, _, rfl⟩ := h.mem e he
 exact ⟨⟨k, intKind_is prog w k t, rfl⟩, rfl⟩
theorem Els.find : ∀ {es : List (Int × Value)} {ks : List Int}, Els es ks -> ∀ k, es.findIdx? (fun e => (intKind prog w).is k e.2) = ks.findIdx? (fun y => decide (k = y))
 | _, _, .nil, k => rfl
 | _, _, .cons (k := k') (t := t) r, k => by
  rw [List.findIdx?_cons, List.findIdx?_cons, KeyKind.is_eq_decide (knd := intKind prog w) (intKind_is prog w k' t) k, r.find k]
end
theorem qQ {k : Int} (h : 0 <= k /\ k < 1024) : 0 <= hashInt k /\ hashInt k < 1024 := by
 obtain ⟨n, rfl⟩ := Int.eq_ofNat_of_zero_le h.1
 have hn : n < 1024 := by omega
 have all : ∀ m : Nat, m < 1024 -> (0 <= hashInt (m : Int) /\ hashInt (m : Int) < 1024) := by decide +kernel
 exact all n hn
def de (by_ : Bool) (o : Obj) (ks : List Int) : Prop := ∃ es ep t, o = ⟨.type "set", none, .set es ep t, #[]⟩ /\ Els es.toList ks /\ ks.Nodup /\ (∀ k ∈ ks, 0 <= k /\ k < 1024) /\ ks.length < 1000 /\ cB by_ es.size t
theorem de.fresh (by_ : Bool) : de by_ ⟨.type "set", none, .set #[] 0 (.fresh 0 0 (!by_)), #[]⟩ [] :=
 ⟨#[], 0, _, rfl, .nil, .nil, (fun k h => by cases h), (by decide), cB.fresh by_⟩
section
variable {prog : Program} {w : World} {A : Around} {E : Value -> Shared -> Prop} {s : Shared} {a : Addr}
theorem jX {es es' : Array (Int × Value)} {ep : Nat} {t t' : SetTable} (ho : s.heap.get? a = some ⟨.type "set", none, .set es ep t, #[]⟩) : (s.heap.update a (Obj.putSet es' t')).get? a = some ⟨.type "set", none, .set es' (ep + 1) t', #[]⟩ := by
 have e : Obj.putSet es' t' ⟨.type "set", none, .set es ep t, #[]⟩ = ⟨.type "set", none, .set es' (ep + 1) t', #[]⟩ := putSet_of es' t' rfl
 rw [<- e]
 exact Heap.get?_update_self _ ho (by rw [e]; rfl)
theorem xi {es : Array (Int × Value)} {ep : Nat} {t : SetTable} {ks : List Int} {k : Int} {tk : Tok} {Q : Option Bool -> Shared -> Prop} (ho : s.heap.get? a = some ⟨.type "set", none, .set es ep t, #[]⟩) (he : Els es.toList ks) (ht : cB (byT w) es.size t) (hz : ks.length < 1000)
  (hin : k ∈ ks -> Q (some false) s)
  (hout : k ∉ ks -> ∀ h' es' ep' t' ks', Heap.SameBut a s.heap h' -> h'.get? a = some ⟨.type "set", none, .set es' ep' t', #[]⟩ -> ks'.Perm (ks ++ [k]) -> Els es'.toList ks' -> cB (byT w) es'.size t' -> Q (some true) { s with heap := h' }) :
  wpAny (model prog w) A (setAddByScan a (.int k tk) (hashInt k) es t) Q E s := by
 have el := he.elems (prog := prog) (w := w)
 refine CQ (wpAny_rule (CQ (wpAny_setScan_of (knd := intKind prog w) (intKind_is prog w k tk) ho rfl ht.fits el ?_)))
 rw [he.find k]
 cases q : ks.findIdx? (fun y => decide (k = y)) with
 | some j =>
  obtain ⟨hj, hk, _⟩ := List.findIdx?_eq_some_iff_getElem.mp q
  exact CT (hin (by rw [Dc hk]; exact List.getElem_mem hj))
 | none =>
  have nk : k ∉ ks := fun m => by
   have := List.findIdx?_eq_none_iff.mp q k m
   simp at this
  have p1 : (layNew t es (hashInt k) (.int k tk)).1.toList.Perm (es.toList ++ [(hashInt k, .int k tk)]) := by
   have := layNew_perm t es (hashInt k) (.int k tk)
   rwa [Array.toList_push] at this
  have t1 := uw ht es (hashInt k) (.int k tk)
  obtain ⟨k1, kp, ke⟩ := (he.append (.cons .nil)).of_perm p1
  have small : ∀ {xs : Array (Int × Value)}, xs.toList.Perm (es.toList ++ [(hashInt k, .int k tk)]) -> xs.size <= sizeLine := fun {xs} p => by
   have l := p.length_eq
   rw [Da, CV, he.length] at l
   rw [l, sizeLine_eq]
   simp
   omega
  generalize layNew t es (hashInt k) (.int k tk) = L at p1 t1 ke ⊢
  obtain ⟨e1, tt, was, gave⟩ := L
  dsimp only at p1 t1 ke ⊢
  have fin : ∀ {s1 : Shared} {e2 : Array (Int × Value)} {ep2 : Nat} {t2 : SetTable}, Heap.SameBut a s.heap s1.heap -> s1 = { s with heap := s1.heap } -> s1.heap.get? a = some ⟨.type "set", none, .set e2 ep2 t2, #[]⟩ -> e2.toList.Perm e1.toList -> cB (byT w) e2.size t2 -> Q (some true) s1 := fun {s1 e2 ep2 t2} sb es g p t => by
   obtain ⟨k2, kp2, ke2⟩ := ke.of_perm p
   rw [es]
   exact hout nk _ _ _ _ k2 sb g (kp2.trans kp) ke2 t
  have tail : wpAny (model prog w) A (do
    storeSet a e1 tt
    if (!was && tt.tooFull) = true then do
      (fun b : Bool => match b with | true => rule "set.scan.the-table-gave-way" | false => pure ()) (relayAll tt e1 (SetTable.grown e1.size)).2.2
      storeSet a (relayAll tt e1 (SetTable.grown e1.size)).1 (relayAll tt e1 (SetTable.grown e1.size)).2.1
      pure (some true)
     else pure (some true)) Q E s := by
   have g1 := jX (es' := e1) (t' := tt) ho
   refine CQ (wpAny_storeSet_of ho rfl ?_ (small p1))
   by_cases c : (!was && tt.tooFull) = true
   ·rw [if_pos c]
    have p2 := relayAll_perm tt e1 (SetTable.grown e1.size)
    have t2 := oC t1 e1 (SetTable.grown e1.size)
    have go : wpAny (model prog w) A (do
      storeSet a (relayAll tt e1 (SetTable.grown e1.size)).1 (relayAll tt e1 (SetTable.grown e1.size)).2.1
      pure (some true)) Q E { s with heap := s.heap.update a (Obj.putSet e1 tt) } := by
     refine CQ (wpAny_storeSet_of (s := { s with heap := s.heap.update a (Obj.putSet e1 tt) }) g1 rfl (CT ?_) (small (p2.trans p1)))
     exact fin ((Heap.SameBut.update s.heap a _).trans (Heap.SameBut.update _ a _)) rfl (jX (s := { s with heap := s.heap.update a (Obj.putSet e1 tt) }) g1) p2 t2
    generalize (relayAll tt e1 (SetTable.grown e1.size)).2.2 = b
    cases b with
    | true => exact CQ (wpAny_rule go)
    | false => exact CQ (CT go)
   ·rw [if_neg c]
    exact CT (fin (Heap.SameBut.update s.heap a _) rfl g1 (.refl _) t1)
  have mid : wpAny (model prog w) A (do
    let byValue <- if tt.plain = true then hashByValue 8 (.int k tk) else pure true
    storeSet a e1 (if byValue = true then tt else { tt with plain := false })
    if (!was && (if byValue = true then tt else { tt with plain := false }).tooFull) = true then do
      (fun b : Bool => match b with | true => rule "set.scan.the-table-gave-way" | false => pure ()) (relayAll (if byValue = true then tt else { tt with plain := false }) e1 (SetTable.grown e1.size)).2.2
      storeSet a (relayAll (if byValue = true then tt else { tt with plain := false }) e1 (SetTable.grown e1.size)).1 (relayAll (if byValue = true then tt else { tt with plain := false }) e1 (SetTable.grown e1.size)).2.1
      pure (some true)
     else pure (some true)) Q E s := by
   by_cases c : tt.plain = true
   ·rw [if_pos c]
    exact CQ (CT tail)
   ·rw [if_neg c]
    exact CQ (CT tail)
  cases gave with
  | true => exact CQ (wpAny_rule mid)
  | false => exact CQ (CT mid)
theorem vn {ks : List Int} {o : Obj} {k : Int} {tk : Tok} {Q : Bool -> Shared -> Prop} (ho : s.heap.get? a = some o) (hs : de (byT w) o ks) (hk : 0 <= k /\ k < 1024) (hz : ks.length < 999)
  (hin : k ∈ ks -> Q false s)
  (hout : k ∉ ks -> ∀ h' o' ks', Heap.SameBut a s.heap h' -> h'.get? a = some o' -> de (byT w) o' ks' -> ks'.Perm (ks ++ [k]) -> Q true { s with heap := h' }) :
  wpAny (model prog w) A (setAddHashed a (.int k tk) (hashInt k)) Q E s := by
 obtain ⟨es, ep, t, rfl, he, nd, bd, lt, ht⟩ := hs
 have el := he.elems (prog := prog) (w := w)
 have small : es.size < scanBound := by
  have l := he.length
  rw [Da] at l
  unfold scanBound
  omega
 refine wpAny_holding (CQ (wpAny_setState_of ho rfl ht.fits ?_))
 show wpAny _ _ (if byScan (.int k tk) es = true then _ else _) _ _ _
 rw [if_pos (byScan_of (knd := intKind prog w) rfl small el)]
 refine CQ (xi ho he ht lt (fun m => CT (hin m)) fun m h' es' ep' t' ks' sb g p el' tok => CT (hout m h' _ ks' sb g ?_ p))
 refine ⟨es', ep', t', rfl, el', p.nodup_iff.mpr ?_, fun y hy => ?_, ?_, tok⟩
 ·exact List.nodup_append.mpr ⟨nd, List.nodup_cons.mpr ⟨by simp, .nil⟩, fun y hy z hz e => m (by rw [Db] at hz; rw [<- hz, <- e]; exact hy)⟩
 ·rcases Dh.mp (p.mem_iff.mp hy) with z | z
  ·exact bd y z
  ·rw [Db.mp z]
   exact hk
 ·rw [p.length_eq, CV]
  simp
  omega
theorem wU {ks : List Int} {o : Obj} {k : Int} {tk : Tok} {Q : Bool -> Shared -> Prop} (ho : s.heap.get? a = some o) (hs : de (byT w) o ks)
  (hout : k ∉ ks -> Q false s)
  (hin : k ∈ ks -> ∀ h' o' ks', Heap.SameBut a s.heap h' -> h'.get? a = some o' -> de (byT w) o' ks' -> ks.Perm (k :: ks') -> Q true { s with heap := h' }) :
  wpAny (model prog w) A (setDiscardHashed a (.int k tk) (hashInt k)) Q E s := by
 obtain ⟨es, ep, t, rfl, he, nd, bd, lt, ht⟩ := hs
 have el := he.elems (prog := prog) (w := w)
 have sz : es.size = ks.length := by rw [<- Da]; exact he.length
 have small : es.size < scanBound := by
  unfold scanBound
  omega
 refine CQ (CQ (wpAny_setState_of ho rfl ht.fits ?_))
 show wpAny _ _ (if byScan (.int k tk) es = true then _ else _) _ _ _
 rw [if_pos (byScan_of (knd := intKind prog w) rfl small el)]
 refine CQ (wpAny_rule (CQ (wpAny_setScan_of (knd := intKind prog w) (intKind_is prog w k tk) ho rfl ht.fits el ?_)))
 rw [he.find k]
 cases q : ks.findIdx? (fun y => decide (k = y)) with
 | none =>
  have nk : k ∉ ks := fun m => by
   have := List.findIdx?_eq_none_iff.mp q k m
   simp at this
  exact CT (CT (hout nk))
 | some j =>
  obtain ⟨hj, hk, _⟩ := List.findIdx?_eq_some_iff_getElem.mp q
  have ek : ks[j] = k := (Dc hk).symm
  have mk : k ∈ ks := by rw [<- ek]; exact List.getElem_mem hj
  have split : ks = ks.take j ++ k :: ks.drop (j + 1) := by
   rw [<- ek, List.getElem_cons_drop, List.take_append_drop]
  have pm : ks.Perm (k :: (ks.take j ++ ks.drop (j + 1))) := (List.Perm.of_eq split).trans List.perm_middle
  have ej : (SetTable.eraseAt es (0 + j)).toList = es.toList.take j ++ es.toList.drop (j + 1) := by rw [Nat.zero_add]; exact cp es j
  have l2 : (SetTable.eraseAt es (0 + j)).size = es.size - 1 := by
   rw [<- Da, ej, CV, Dn, List.length_drop, Da]
   omega
  refine CT (CQ (wpAny_setState_of ho rfl ht.fits (CQ (wpAny_storeSet_of ho rfl (CQ (wpAny_point (CT ?_))) ?_))))
  ·refine hin mk _ _ (ks.take j ++ ks.drop (j + 1)) (Heap.SameBut.update s.heap a _) (jX ho) ⟨_, _, _, rfl, ?_, ?_, fun y hy => bd y ?_, ?_, ?_⟩ pm
   ·rw [ej]
    exact (he.take j).append (he.drop (j + 1))
   ·exact (List.nodup_cons.mp (pm.nodup_iff.mp nd)).2
   ·exact pm.mem_iff.mpr (C2 _ hy)
   ·have := pm.length_eq
    rw [CU] at this
    omega
   ·rw [l2, Nat.zero_add]
    exact zf ht (by omega)
  ·rw [l2, sizeLine_eq]
   omega
end
end SX
end
section
namespace SX
open PySem PyProof.Rows PySem.Spec
theorem tq {α : Type} (next : Nat -> Nat) : ∀ (f k : Nat) (left : List α) (out : Array α), left.length = f -> (pickOrder.go next f k left out).toList.Perm (out.toList ++ left)
 | 0, k, left, out, e => by
  have z : left = [] := List.eq_nil_of_length_eq_zero e
  subst z
  unfold pickOrder.go
  simp
 | f + 1, k, left, out, e => by
  have lt : next k % left.length < left.length := Nat.mod_lt _ (by omega)
  unfold pickOrder.go
  rw [Dg lt]
  dsimp only
  refine (tq next f (k + 1) (left.eraseIdx (next k % left.length)) (out.push left[next k % left.length]) (by rw [List.length_eraseIdx]; simp [lt]; omega)).trans ?_
  rw [Array.toList_push, Dr]
  refine List.Perm.append_left _ ?_
  rw [List.eraseIdx_eq_take_drop_succ]
  show (left[next k % left.length] :: (left.take (next k % left.length) ++ left.drop (next k % left.length + 1))).Perm left
  refine List.perm_middle.symm.trans ?_
  rw [List.getElem_cons_drop, List.take_append_drop]
theorem iX {α : Type} (next : Nat -> Nat) (xs : Array α) : (pickOrder next xs).toList.Perm xs.toList := by
 have h := tq next xs.size 0 xs.toList #[] (by simp)
 simpa [pickOrder] using h
section
variable {prog : Program} {w : World} {A : Around} {E : Value -> Shared -> Prop}
theorem ju {α : Type} : ∀ (n : Nat) (xs : List α) {s : Shared} {Q : List α -> Shared -> Prop}, xs.length = n -> (∀ ys d, ys.Perm xs -> Q ys { s with drawn := d }) -> wpAny (model prog w) A (drawOrder n xs) Q E s
 | 0, xs, s, Q, e, h => by
  have z : xs = [] := List.eq_nil_of_length_eq_zero e
  subst z
  unfold drawOrder
  exact CT (h [] s.drawn .nil)
 | n + 1, [], s, Q, e, h => by cases e
 | n + 1, x :: r, s, Q, e, h => by
  unfold drawOrder
  have ne : (x :: r).length ≠ 0 := by rw [e]; omega
  refine CQ (fun Γ p hΓ => ?_)
  show Sem.wp _ Γ (Sem.choose .order (x :: r).length Sem.pure) _ _ p s
  rw [Sem.wp_choose]
  refine ⟨ne, ?_⟩
  generalize hi : (model prog w).w.draws .order (s.drawn.get .order) % (x :: r).length = i
  have lt : i < (x :: r).length := by rw [<- hi]; exact Nat.mod_lt _ (by omega)
  rw [Sem.wp_pure]
  dsimp only
  rw [Dg lt]
  have go : wpAny (model prog w) A (drawOrder n ((x :: r).eraseIdx i) >>= fun ys => pure ((x :: r)[i] :: ys)) Q E { s with drawn := s.drawn.bump .order } := by
   refine CQ (ju n _ (by rw [List.length_eraseIdx]; simp only [lt, if_true]; omega) fun ys d p => CT (h _ d ?_))
   refine (p.cons _).trans ?_
   rw [List.eraseIdx_eq_take_drop_succ]
   refine List.perm_middle.symm.trans ?_
   rw [List.getElem_cons_drop, List.take_append_drop]
  exact go
theorem lz {α β : Type} {b : β} {f : α -> β -> Sem (ForInStep β)} {Q : β -> Shared -> Prop} (J : List α -> Shared -> Prop) (turn : ∀ x r s, J (x :: r) s -> wpAny (model prog w) A (f x b) (fun st s' => st = .yield b /\ J r s') E s)
  (fin : ∀ s, J [] s -> Q b s) : ∀ (l : List α) (s : Shared), J l s -> wpAny (model prog w) A (forIn l b f) Q E s
 | [], s, h => by
  rw [List.forIn_nil]
  exact CT (fin s h)
 | x :: r, s, h => by
  rw [List.forIn_cons]
  refine CQ (wpAny_mono (turn x r s h) (fun st s' q => ?_) fun _ _ z => z)
  obtain ⟨rfl, q⟩ := q
  exact lz J turn fin r s' q
theorem uO {α β : Type} {b : β} {f : α -> β -> Sem (ForInStep β)} {Q : β -> Shared -> Prop} (J : List α -> Shared -> Prop) (turn : ∀ x r s, J (x :: r) s -> wpAny (model prog w) A (f x b) (fun st s' => st = .yield b /\ J r s') E s)
  (fin : ∀ s, J [] s -> Q b s) (xs : Array α) (s : Shared) (h : J xs.toList s) : wpAny (model prog w) A (forIn xs b f) Q E s := by
 rw [<- Array.forIn_toList]
 exact lz J turn fin xs.toList s h
variable {s : Shared} {a : Addr} {o : Obj} {ks : List Int}
theorem cw {Q : Bool -> Shared -> Prop} (h : Q (byT w) s) : wpAny (model prog w) A setsByText Q E s := CQ (wpAny_askSetting (CT h))
theorem vI {es : Array (Int × Value)} {ep : Nat} {t : SetTable} {Q : Array (Int × Value) -> Shared -> Prop} (ho : s.heap.get? a = some ⟨.type "set", none, .set es ep t, #[]⟩) (ht : cB (byT w) es.size t)
  (h : ∀ xs d, xs.toList.Perm es.toList -> Q xs { s with drawn := d }) : wpAny (model prog w) A (setWalk a) Q E s := by
 have same : ∀ {xs : Array (Int × Value)}, xs.toList.Perm es.toList -> Q xs s := fun p => h _ s.drawn p
 refine CQ (wpAny_setState_of ho rfl ht.fits (CQ (cw ?_)))
 by_cases b : byT w = true
 ·rw [if_pos b]
  exact CQ (wpAny_askSetting (CT (same (iX _ es))))
 ·rw [if_neg b]
  have led : t.led = true := ht.led.resolve_left b
  by_cases c : (!t.plain && decide (es.size > 1)) = true
  ·show wpAny _ _ (if (!t.plain && decide (es.size > 1)) = true then _ else _) _ _ _
   rw [if_pos c]
   exact CQ (ju es.size es.toList (by simp) fun ys d p => CT (h _ d (by simpa using p)))
  ·show wpAny _ _ (if (!t.plain && decide (es.size > 1)) = true then _ else _) _ _ _
   rw [if_neg c]
   refine CQ ?_
   show wpAny _ _ (if (!t.led && decide (es.size > 1)) = true then _ else _) _ _ _
   rw [led]
   exact CT (CT (same (.refl _)))
theorem qv : ∀ (l : List Addr), (∀ b ∈ l, ∃ o ks, s.heap.get? b = some o /\ de (byT w) o ks) -> ∀ {Q : Bool -> Shared -> Prop}, Q true s -> wpAny (model prog w) A (setsQuiet l) Q E s := fun l hl Q h => by
 unfold setsQuiet
 refine CQ (lz (fun r s' => s' = s /\ ∀ b ∈ r, ∃ o ks, s.heap.get? b = some o /\ de (byT w) o ks) (fun x r s1 hJ => ?_) (fun s1 hJ => ?_) l s ⟨rfl, hl⟩)
 ·obtain ⟨rfl, hr⟩ := hJ
  obtain ⟨o, ks, ho, es, ep, t, rfl, he, _, _, _, ht⟩ := hr x (C3 ..)
  refine CQ (wpAny_setEntries_of ho rfl ht.fits (CQ ?_))
  refine uO (fun l s' => s' = s1 /\ ∃ ks, Els l ks) (fun y r' s2 hJ => ?_) (fun s2 hJ => ?_) es s1 ⟨rfl, ks, he⟩
  ·obtain ⟨rfl, ks', hk⟩ := hJ
   cases hk with
   | cons q => exact CT ⟨rfl, rfl, _, q⟩
  ·obtain ⟨rfl, _⟩ := hJ
   exact CT ⟨rfl, rfl, fun b hb => hr b (C2 _ hb)⟩
 ·obtain ⟨rfl, _⟩ := hJ
  exact CT h
theorem qw {b : Addr} {of : Obj} {kf : List Int} {es : Array (Int × Value)} {ep : Nat} {t : SetTable} {Q : Array (Int × Value) -> Shared -> Prop} (ho : s.heap.get? a = some ⟨.type "set", none, .set es ep t, #[]⟩) (hs : de (byT w) ⟨.type "set", none, .set es ep t, #[]⟩ ks)
  (hf : s.heap.get? b = some of) (hF : de (byT w) of kf)
  (h : ∀ xs d h' of', xs.toList.Perm es.toList -> Heap.SameBut b s.heap h' -> h'.get? b = some of' -> de (byT w) of' kf -> Q xs { s with heap := h', drawn := d }) : wpAny (model prog w) A (setWalkUnseen a [b] (some b)) Q E s := by
 obtain ⟨_, _, _, e0, he, nd0, bd0, lt0, ht⟩ := id hs
 cases e0
 have plainWalk : wpAny (model prog w) A (setWalk a) Q E s := vI ho ht fun xs d p => h xs d s.heap of p (Heap.SameBut.refl b s.heap) hf hF
 refine CQ (wpAny_setState_of ho rfl ht.fits (CQ (cw ?_)))
 show wpAny _ _ (if (byT w || t.led && t.plain || decide (es.size <= 1)) = true then _ else _) _ _ _
 by_cases c : (byT w || t.led && t.plain || decide (es.size <= 1)) = true
 ·rw [if_pos c]
  exact plainWalk
 ·rw [if_neg c]
  refine CQ (qv [a, b] (fun x hx => ?_) ?_)
  ·rcases C5.mp hx with z | z
   ·rw [z]
    exact ⟨_, ks, ho, hs⟩
   ·rw [Db.mp z]
    exact ⟨_, kf, hf, hF⟩
  ·obtain ⟨ef, epf, tf, rfl, fe, nd, bd, lt, ft⟩ := id hF
   have nb : byT w ≠ true := fun z => c (by rw [z]; rfl)
   have led : t.led = true := ht.led.resolve_left nb
   have ledf : tf.led = true := ft.led.resolve_left nb
   refine CQ (wpAny_rule (CQ (wpAny_setState_of hf rfl ft.fits ?_)))
   show wpAny _ _ (if (tf.led && !t.led || tf.plain && !t.plain) = true then _ else _) _ _ _
   by_cases d : (tf.led && !t.led || tf.plain && !t.plain) = true
   ·rw [if_pos d]
    have sz : ef.size <= sizeLine := by
     have l := fe.length
     rw [Da] at l
     rw [sizeLine_eq]
     omega
    refine CQ (wpAny_storeSet_of hf rfl (CT ?_) sz)
    exact h es s.drawn _ _ (.refl _) (Heap.SameBut.update s.heap b _) (jX hf) ⟨_, _, _, rfl, fe, nd, bd, lt, ⟨ft.fits, ft.rise, .inr (by show (tf.led && t.led) = true; rw [led, ledf]; rfl)⟩⟩
   ·rw [if_neg d]
    exact CT (h es s.drawn s.heap _ (.refl _) (Heap.SameBut.refl b s.heap) hf hF)
end
end SX
end
section
namespace SX
open PySem PyProof.Rows PySem.Spec
section
variable {prog : Program} {w : World} {A : Around} {E : Value -> Shared -> Prop} {s : Shared} {a b : Addr}
abbrev Ms : List Nat := [8, 16, 32, 64, 128, 256, 512]
theorem BK : ∀ n, n < 129 -> 5 <= n -> SetTable.sizeAbove (n * 2) ∈ Ms /\ n * 2 < SetTable.sizeAbove (n * 2) /\ SetTable.sizeAbove (n * 2) < 1000 := by decide +kernel
theorem hU {es : Array (Int × Value)} {order : Array Nat} (p : order.toList.Perm (List.range es.size)) : (order.filterMap (es[·]?)).toList.Perm es.toList := by
 rw [Array.toList_filterMap]
 exact (p.filterMap _).trans (List.Perm.of_eq (filterMap_getElem?_range es))
theorem fB {es : Array (Int × Value)} {order : Array Nat} (p : order.toList.Perm (List.range es.size)) : (order.filterMap (es[·]?)).size = es.size := by
 rw [<- Da, (hU p).length_eq, Da]
structure zt (by_ : Bool) (n : Nat) (t : SetTable) : Prop where
 mask : t.mask + 1 ∈ Ms
 big : n <= t.mask
 none_ : t.place.size = 0
 dum : t.dummies = #[]
 led : by_ = true ∨ t.led = true
theorem zt.fits {by_ : Bool} {n : Nat} {t : SetTable} (r : zt by_ n t) : t.fits 0 = true := by
 unfold SetTable.fits SetTable.fill
 rw [r.none_, r.dum]
 rfl
theorem vJ {n eb : Nat} {led : Bool} {Q : Unit -> Shared -> Prop} (hn : n < 129) (hb : s.heap.get? b = some ⟨.type "set", none, .set #[] eb (.fresh 0 0 led), #[]⟩) (hl : byT w = true ∨ led = true)
  (h : ∀ h' eb' t', Heap.SameBut b s.heap h' -> h'.get? b = some ⟨.type "set", none, .set #[] eb' t', #[]⟩ -> zt (byT w) n t' -> Q () { s with heap := h' }) : wpAny (model prog w) A (setRoomFor b n) Q E s := by
 refine CQ (wpAny_setState_of hb rfl rfl ?_)
 have rf : SetTable.roomFor (.fresh 0 0 led) n = if (0 + n) * 5 ≥ 7 * 3 then some ((0 + n) * 2) else none := rfl
 rw [rf, Nat.zero_add]
 by_cases c : n * 5 ≥ 7 * 3
 ·rw [if_pos c]
  obtain ⟨m1, m2, m3⟩ := BK n hn (by omega)
  have lead : SetTable.sizeAbove (n * 2) - 1 + 1 = SetTable.sizeAbove (n * 2) := by omega
  obtain ⟨tt, order, e, p, z⟩ := qb (mask := SetTable.sizeAbove (n * 2) - 1) (by rw [lead]; exact m1) 0 (SetTable.movedTo (.fresh 0 0 led) (SetTable.sizeAbove (n * 2) - 1)) led true #[] (by simp) (De _)
  obtain ⟨_, l1, l2, l3⟩ := gg e
  have o0 : order = #[] := by
   have := p.length_eq
   simp at this
   exact this
  refine CQ (wpAny_setState_of hb rfl rfl ?_)
  dsimp only
  rw [if_neg (by rw [sizeLine_eq]; omega)]
  refine CQ ?_
  have e' : SetTable.relaid (.fresh 0 0 led) (Array.map (·.1) (#[] : Array (Int × Value))) (n * 2) = some (tt, order) := by
   rw [Array.map_empty]
   exact e
  rw [e', o0]
  refine CT (wpAny_storeSet_of hb rfl (h _ _ tt (Heap.SameBut.update s.heap b _) (jX hb) ⟨by rw [l2, lead]; exact m1, by rw [l2]; omega, z, l3, by rw [l1]; exact hl⟩) (De _))
 ·rw [if_neg c]
  exact CT (h s.heap eb _ (Heap.SameBut.refl b s.heap) hb ⟨(by show 8 ∈ Ms; decide), by show n <= 7; omega, rfl, rfl, hl⟩)
theorem sA {es : Array (Int × Value)} {ep epb : Nat} {t : SetTable} {led : Bool} {ks : List Int} {Q : Unit -> Shared -> Prop} {each : Sem Unit} (ne : b ≠ a) (ho : s.heap.get? a = some ⟨.type "set", none, .set es ep t, #[]⟩) (hs : de (byT w) ⟨.type "set", none, .set es ep t, #[]⟩ ks) (hn : ks.length < 129)
  (hb : s.heap.get? b = some ⟨.type "set", none, .set #[] epb (.fresh 0 0 led), #[]⟩) (hl : byT w = true ∨ led = true)
  (h : ∀ h' o' ks', Heap.SameBut b s.heap h' -> h'.get? b = some o' -> de (byT w) o' ks' -> ks'.Perm ks -> Q () { s with heap := h' }) : wpAny (model prog w) A (setMerge b a each) Q E s := by
 obtain ⟨_, _, _, e0, he, nd, bd, lt, ht⟩ := id hs
 cases e0
 have sz : es.size = ks.length := by rw [<- Da]; exact he.length
 have hsz : es.size <= sizeLine := by rw [sz, sizeLine_eq]; omega
 unfold setMerge
 rw [if_neg (by simpa using ne)]
 refine CQ (wpAny_setState_of ho rfl ht.fits ?_)
 dsimp only
 by_cases z : es.isEmpty = true
 ·rw [if_pos z]
  have e : es = #[] := Array.isEmpty_iff.mp z
  have k0 : ks = [] := List.eq_nil_of_length_eq_zero (by rw [<- sz, e]; rfl)
  refine CT (h s.heap _ [] (Heap.SameBut.refl b s.heap) hb ⟨_, _, _, rfl, .nil, .nil, (fun k hk => by cases hk), (by decide), ⟨rfl, .nil, hl⟩⟩ (by rw [k0]))
 ·rw [if_neg z]
  refine CQ (vJ (n := es.size) (by omega) hb hl fun h1 eb tb sb g1 r => ?_)
  refine CQ (wpAny_setState_of (s := { s with heap := h1 }) g1 rfl r.fits ?_)
  dsimp only
  have ledOk : byT w = true ∨ (tb.led && t.led) = true := by
   rcases r.led with q | q
   ·exact .inl q
   ·rcases ht.led with q' | q'
    ·exact .inl q'
    ·exact .inr (by rw [q, q']; rfl)
  have fin : ∀ (e2 : Array (Int × Value)) (t2 : SetTable), e2.toList.Perm es.toList -> cB (byT w) e2.size t2 -> Q () { s with heap := h1.update b (Obj.putSet e2 t2) } := fun e2 t2 p ok => by
   obtain ⟨k2, kp, ke⟩ := he.of_perm p
   exact h _ _ k2 (sb.trans (Heap.SameBut.update h1 b _)) (jX (s := { s with heap := h1 }) g1) ⟨_, _, _, rfl, ke, kp.nodup_iff.mpr nd, fun y hy => bd y (kp.mem_iff.mp hy), by rw [kp.length_eq]; exact lt, ok⟩ kp
  have fill0 : tb.fill = 0 := by
   unfold SetTable.fill
   rw [r.none_, r.dum]
   rfl
  have road : tb.road t = if (tb.mask == t.mask && t.dummies.isEmpty) = true then .slotForSlot else .clean := by
   unfold SetTable.road
   rw [fill0]
   rfl
  rw [road]
  by_cases c : (tb.mask == t.mask && t.dummies.isEmpty) = true
  ·rw [if_pos c]
   exact wpAny_storeSet_of (s := { s with heap := h1 }) g1 rfl (fin es _ (.refl _) ⟨ht.fits, ht.rise, ledOk⟩) hsz
  ·rw [if_neg c]
   obtain ⟨tt, order, e, p, zz⟩ := qb r.mask tb.finger tb.moves (tb.led && t.led) (tb.plain && t.plain) (es.map (·.1)) (fun y hy => by
    rw [Array.toList_map] at hy
    obtain ⟨x, hx, rfl⟩ := List.mem_map.mp hy
    obtain ⟨k, tk, hk, rfl⟩ := he.mem x hx
    exact qQ (bd k hk)) (by rw [Array.size_map]; exact r.big)
   rw [Array.size_map] at p zz
   obtain ⟨l0, l1, l2, l3⟩ := gg e
   dsimp only
   refine CQ ?_
   rw [e]
   show wpAny _ _ (if ((order.filterMap (es[·]?)).size != es.size) = true then _ else _) _ _ _
   rw [if_neg (by rw [fB p]; simp)]
   refine CT (wpAny_storeSet_of (s := { s with heap := h1 }) g1 rfl (fin _ tt (hU p) ⟨?_, l0, by rw [l1]; exact ledOk⟩) (by rw [fB p]; exact hsz))
   unfold SetTable.fits SetTable.fill
   rw [fB p, zz, l3, l2]
   have := r.big
   simp
   omega
end
end SX
end
section
namespace SX
open PySem PyProof.Rows PySem.Spec
section
variable {prog : Program} {w : World} {A : Around} {E : Value -> Shared -> Prop} {s : Shared} {l r : Addr}
theorem de.typeIs {by_ : Bool} {o : Obj} {ks : List Int} {a : Addr} (h : de by_ o ks) (ho : s.heap.get? a = some o) : s.TypeIs (.ref a) "set" := by
 obtain ⟨es, ep, t, rfl, _⟩ := h
 exact ⟨_, ho, rfl⟩
theorem lO {a : Addr} {Q : Bool -> Shared -> Prop} (hT : s.TypeIs (.ref a) "set") (h : Q true s) : wpAny (model prog w) A (Builtin.Frozenset.isAnySet (.ref a)) Q E s :=
 CQ (wpAny_isInstance hT sub_set_self (CT h))
theorem wQ {ks : List Int} {o : Obj} {k : Int} {tk : Tok} {Q : Unit -> Shared -> Prop} (ho : s.heap.get? r = some o) (hs : de (byT w) o ks) (hk : 0 <= k /\ k < 1024) (hz : ks.length < 999)
  (h : ∀ h' o' ks', Heap.SameBut r s.heap h' -> h'.get? r = some o' -> de (byT w) o' ks' -> ks'.length <= ks.length + 1 -> (∀ y, y ∈ ks' ↔ ¬ (y ∈ ks ↔ y = k)) -> Q () { s with heap := h' }) :
  wpAny (model prog w) A (holding [.int k tk] (do if !(<- setDiscardHashed r (.int k tk) (hashInt k)) then let _ <- setAddHashed r (.int k tk) (hashInt k))) Q E s := by
 have nd : ks.Nodup := by obtain ⟨_, _, _, _, _, nd, _⟩ := hs; exact nd
 refine wpAny_holding (CQ (wU ho hs (fun nk => ?_) fun mk h' o' ks' sb g so p => CT ?_))
 ·refine CQ (vn ho hs hk hz (fun m => absurd m nk) fun _ h' o' ks' sb g so p => CT (h h' o' ks' sb g so ?_ fun y => ?_))
  ·rw [p.length_eq, CV]
   exact C7 _
  ·rw [p.mem_iff, Dh, Db]
   by_cases c : y = k
   ·subst c
    simp [nk]
   ·simp [c]
 ·refine h h' o' ks' sb g so ?_ fun y => ?_
  ·have := p.length_eq
   rw [CU] at this
   omega
  ·have q := p.mem_iff (a := y)
   rw [C5] at q
   have nk' : k ∉ ks' := (List.nodup_cons.mp (p.nodup_iff.mp nd)).1
   by_cases c : y = k
   ·subst c
    simp [nk', mk]
   ·simp [c] at q ⊢
    exact q.symm
theorem qt {nm : String} {ol orr : Obj} {kl kr : List Int} {Q : Unit -> Shared -> Prop} (ne : r ≠ l) (hl : s.heap.get? l = some ol) (sl : de (byT w) ol kl) (hr : s.heap.get? r = some orr) (sr : de (byT w) orr kr) (hz : kr.length + kl.length < 900)
  (h : ∀ h' d o' ks', Heap.SameBut r s.heap h' -> h'.get? r = some o' -> de (byT w) o' ks' -> (∀ y, y ∈ ks' ↔ ¬ (y ∈ kr ↔ y ∈ kl)) -> Q () { s with heap := h', drawn := d }) :
  wpAny (model prog w) A (Builtin.Frozenset.symmetricDifferenceUpdate nm r (.ref l)) Q E s := by
 obtain ⟨es, ep, t, rfl, he, nd, bd, lt, ht⟩ := id sl
 have hT := sl.typeIs hl
 unfold Builtin.Frozenset.symmetricDifferenceUpdate
 rw [if_neg (by simpa using fun z => ne z.symm)]
 refine CQ (wpAny_typeOf hT ?_)
 rw [if_neg (by decide)]
 refine CQ (lO hT ?_)
 rw [if_pos rfl]
 refine CQ (CT (CQ (CT (CQ (wpAny_setEpoch_of hl rfl ht.fits (wpAny_holding (CQ ?_)))))))
 refine qw hl sl hr sr fun xs d h1 or1 px sb1 g1 so1 => ?_
 obtain ⟨kx, kp, ke⟩ := he.of_perm px
 refine CQ (uO (fun rest s' => ∃ done todo kc hc oc dd, Els rest todo /\ (done ++ todo).Perm kl /\ s' = { s with heap := hc, drawn := dd } /\ Heap.SameBut r s.heap hc /\ hc.get? r = some oc /\ de (byT w) oc kc /\ kc.length <= kr.length + done.length /\ ∀ y, y ∈ kc ↔ ¬ (y ∈ kr ↔ y ∈ done))
  (fun x rest s1 hJ => ?_) (fun s1 hJ => ?_) xs _ ⟨[], kx, kr, h1, or1, d, ke, kp, rfl, sb1, g1, so1, C7 _, fun y => by simp⟩)
 ·obtain ⟨done, todo, kc, hc, oc, dd, e1, e2, rfl, sb, g, so, len, mem⟩ := hJ
  cases e1 with
  | @cons k tk _ todo' e1 =>
   have nd2 : (done ++ k :: todo').Nodup := e2.nodup_iff.mpr nd
   have kd : k ∉ done := fun m => (List.nodup_append.mp nd2).2.2 k m k (C3 ..) rfl
   have kb : 0 <= k /\ k < 1024 := bd k (e2.mem_iff.mp (List.mem_append_right _ (C3 ..)))
   have dl : done.length + (todo'.length + 1) = kl.length := by rw [<- e2.length_eq, CV, CU]
   refine CQ (wQ (s := { s with heap := hc, drawn := dd }) g so kb (by omega) fun h' o' ks' sb' g' so' len' mem' => ?_)
   have hl' : h'.get? l = some ⟨.type "set", none, .set es ep t, #[]⟩ := by
    rw [(sb.trans sb').2 l (Ne.symm ne)]
    exact hl
   refine CQ (CQ (wpAny_setEpoch_of (s := { s with heap := h', drawn := dd }) hl' rfl ht.fits ?_))
   rw [if_neg (by simp)]
   refine CT (CT ⟨rfl, done ++ [k], todo', ks', h', o', dd, e1, by rw [Dr]; exact e2, rfl, sb.trans sb', g', so', by rw [CV]; simp; omega, fun y => ?_⟩)
   rw [mem' y, mem y, Dh, Db]
   by_cases c : y = k
   ·subst c
    simp [kd]
   ·simp [c]
 ·obtain ⟨done, todo, kc, hc, oc, dd, e1, e2, rfl, sb, g, so, len, mem⟩ := hJ
  cases e1
  rw [Dq] at e2
  exact CT (h hc dd oc kc sb g so fun y => by rw [mem y, e2.mem_iff])
end
end SX
end
section
namespace SX
open PySem PyProof.Rows PySem.Spec
theorem uU : entryFor table "set.__xor__" = some Builtin.«frozenset.__xor__» :=
 entryFor_alias (id' := "frozenset.__xor__") (by kernel_rfl) (by first | rfl | decide +kernel) (by decide +kernel) (by kernel_rfl)
section
variable {prog : Program} {w : World} {A : Around} {E : Value -> Shared -> Prop} {s : Shared} {l r : Addr}
theorem xc {a : Addr} {Q : Value -> Shared -> Prop} (hT : s.TypeIs (.ref a) "set") (h : Q (.type "set") s) : wpAny (model prog w) A (Builtin.Frozenset.baseOf a) Q E s :=
 CQ (wpAny_isInstance hT sub_set_self (CT h))
theorem uj {Q : Value -> Shared -> Prop} (h : Q (.ref s.heap.objs.size) { s with heap := s.heap.push ⟨.type "set", none, .set #[] 0 (.fresh 0 0 (!byT w)), #[]⟩ }) : wpAny (model prog w) A (newSet (.type "set")) Q E s := by
 refine CQ (cw ?_)
 exact wpAny_newObj_type h
theorem vx {ol orr : Obj} {kl kr : List Int} {Q : Fin -> Shared -> Prop} (hl : s.heap.get? l = some ol) (sl : de (byT w) ol kl) (hr : s.heap.get? r = some orr) (sr : de (byT w) orr kr) (zl : kl.length < 129) (zr : kr.length < 129)
  (h : ∀ h' d o' ks', (∀ b u, s.heap.get? b = some u -> h'.get? b = some u) -> h'.get? s.heap.objs.size = some o' -> de (byT w) o' ks' -> (∀ y, y ∈ ks' ↔ ¬ (y ∈ kl ↔ y ∈ kr)) -> Q (.done (.ret (.ref s.heap.objs.size))) { s with heap := h', drawn := d }) :
  wpAny (model prog w) A (Builtin.«frozenset.__xor__» ⟨[.ref l, .ref r], []⟩) Q E s := by
 have hTl := sl.typeIs hl
 have hTr := sr.typeIs hr
 have nl : s.heap.objs.size ≠ l := Nat.ne_of_gt (Df hl)
 have nr : s.heap.objs.size ≠ r := Nat.ne_of_gt (Df hr)
 have b0 : (s.heap.push ⟨.type "set", none, .set #[] 0 (.fresh 0 0 (!byT w)), #[]⟩).get? s.heap.objs.size = some ⟨.type "set", none, .set #[] 0 (.fresh 0 0 (!byT w)), #[]⟩ := Di _ rfl
 have led : byT w = true ∨ (!byT w) = true := by cases byT w <;> simp
 obtain ⟨es, ep, t, rfl, he, nd, bd, lt, ht⟩ := id sr
 have hr' : (s.heap.push ⟨.type "set", none, .set #[] 0 (.fresh 0 0 (!byT w)), #[]⟩).get? r = some ⟨.type "set", none, .set es ep t, #[]⟩ := CW _ hr
 refine CQ (CQ (CT (CT ?_)))
 refine CQ (CQ (lO hTl (lO hTr ?_)))
 refine CQ (CQ (CT ?_))
 have hTr' : Shared.TypeIs { s with heap := s.heap.push ⟨.type "set", none, .set #[] 0 (.fresh 0 0 (!byT w)), #[]⟩ } (.ref r) "set" := ⟨_, hr', rfl⟩
 refine CT (CQ (CQ (xc hTl (CQ (CQ (uj (CQ (CT (CQ (wpAny_holding ?_))))))))))
 refine CQ (lO hTr' ?_)
 rw [if_pos rfl]
 refine CQ (CT (CQ (wpAny_setEpoch_of hr' rfl ht.fits (sA nr hr' sr zr b0 led fun h1 o1 k1 sb1 g1 so1 p1 => ?_))))
 have hl1 : h1.get? l = some ol := by
  rw [sb1.2 l (Ne.symm nl)]
  exact CW _ hl
 refine CT (CQ (CT (CQ (wpAny_holding (qt (s := { s with heap := h1 }) nl hl1 sl g1 so1 (by rw [p1.length_eq]; omega) fun h2 d o2 k2 sb2 g2 so2 mem => ?_)))))
 refine CT (CT (h h2 d o2 k2 (fun b u e => ?_) g2 so2 fun y => ?_))
 ·have nb : b ≠ s.heap.objs.size := Ds (Df e)
  rw [sb2.2 b nb, sb1.2 b nb]
  exact CW _ e
 ·rw [mem y, p1.mem_iff]
  constructor <;> intro z q <;> exact z ⟨q.2, q.1⟩
theorem xor_op {ol orr : Obj} {kl kr : List Int} {Q : Value -> Shared -> Prop} (hl : s.heap.get? l = some ol) (sl : de (byT w) ol kl) (hr : s.heap.get? r = some orr) (sr : de (byT w) orr kr) (zl : kl.length < 129) (zr : kr.length < 129)
  (h : ∀ h' d o' ks', (∀ b u, s.heap.get? b = some u -> h'.get? b = some u) -> h'.get? s.heap.objs.size = some o' -> de (byT w) o' ks' -> (∀ y, y ∈ ks' ↔ ¬ (y ∈ kl ↔ y ∈ kr)) -> Q (.ref s.heap.objs.size) { s with heap := h', drawn := d }) :
  wpAny (model prog w) A (binaryOp .BitXor (.ref l) (.ref r)) Q E s :=
 wpAny_binaryOp_same (op := .BitXor) (T := "set") (sl.typeIs hl) (sr.typeIs hr) PySem.F.fills_set_xor PySem.F.slot_set_xor
  (wpAny_call_entry PySem.F.slot_set_xor (sl.typeIs hl) uU (vx hl sl hr sr zl zr fun h' d o' ks' e1 e2 e3 e4 => ⟨_, rfl, (by intro z; cases z), h h' d o' ks' e1 e2 e3 e4⟩) (PySem.F.args_set_xor_2 _ _))
end
end SX
end
section
namespace SX
open PySem PyProof.Rows PySem.Spec
section
variable {prog : Program} {w : World} {A : Around} {E : Value -> Shared -> Prop} {s : Shared} {l : Addr}
abbrev cX (w : World) : Obj := ⟨.type "set", none, .set #[] 0 (.fresh 0 0 (!byT w)), #[]⟩
theorem wC {x : Value} {Q : Value -> Shared -> Prop} (h : Q (.ref s.heap.objs.size) { s with heap := s.heap.push (cX w) }) :
  codeAny (model prog w) A (.call (.builtin "set.__new__") ⟨[.type "set", x], []⟩) (wants Q E) s := by
 refine codeAny_of_tree ?_
 show wpAny _ A.in1 (checkBuiltinCall "set.__new__" ⟨[.type "set", x], []⟩ >>= fun _ => again (.builtin "set.__new__" ⟨[.type "set", x], []⟩)) _ _ s
 rw [PySem.F.newCall_set_1]
 refine CQ (CT (CT ⟨plainId_quiet PySem.F.plain_set_new _, codeAny_builtin PySem.F.entry_set_new ?_⟩))
 rw [Around.under_plainId PySem.F.plain_set_new _]
 have cls : Builtin.Frozenset.newClass "set" ⟨[.type "set", x], []⟩ = pure (.type "set", [x]) := by
  unfold Builtin.Frozenset.newClass
  show (isType (.type "set") >>= _) = _
  show (isSubtype (.type "set") (.type "set") >>= _) = _
  rw [sub_set_self]
  rfl
 show wpAny _ A.in1 (Builtin.Frozenset.newClass "set" ⟨[.type "set", x], []⟩ >>= fun c => newSet c.1 >>= fun v => ret v) _ _ s
 rw [cls]
 exact CQ (CT (CQ (uj (CT h))))
theorem uT {I S : Addr} {items : Array Value} {ns : List Int} {R : Result -> Shared -> Prop} (hh : A.handled = none) (hi : IntsAre items.toList ns) (hb : ∀ n ∈ ns, 0 <= n /\ n < 1024) (hz : ns.length < 900) (n1 : S ≠ I) (n2 : S ≠ l) (n3 : l ≠ I) :
  ∀ (k i : Nat) (s : Shared) (ks : List Int) (o : Obj), items.size - i = k -> i <= items.size -> s.heap.IsListIter I l i -> s.heap.IsList l items -> s.heap.get? S = some o -> de (byT w) o ks -> ks.length <= i -> (∀ y, y ∈ ks ↔ y ∈ ns.take i) ->
   (∀ h' tk o' ks', (∀ b u, b ≠ S -> b ≠ I -> s.heap.get? b = some u -> h'.get? b = some u) -> h'.get? S = some o' -> de (byT w) o' ks' -> (∀ y, y ∈ ks' ↔ y ∈ ns) -> ks'.length <= ns.length -> R (.ok (.ret .none)) { s with heap := h', toks := tk }) ->
   codeAny (model prog w) A (.builtin "set.update.loop" ⟨[.ref S, .ref I], []⟩) R s := by
 have len : items.size = ns.length := by rw [<- Da]; exact IntsAre.length hi
 intro k
 induction k with
 | zero =>
  intro i s ks o hk hle it li g so kl mem fin
  have e : i = items.size := by omega
  refine codeAny_builtin PyProof.Rows.F.entry_set_update_loop ?_
  rw [Around.under_plainId PyProof.Rows.F.plain_set_update_loop _]
  refine CQ (wpAny_pyNext_list_end (A := A.in1) hh it li (by simp [e]) fun h' ex => CT (fin h' s.toks o ks (fun b u _ b2 q => ex b u b2 q) (ex S o n1 g) so (fun y => ?_) (by omega)))
  rw [mem y, e, len, List.take_length]
 | succ k ih =>
  intro i s ks o hk hle it li g so kl mem fin
  have lt : i < items.size := by omega
  have at_ : items[i]? = some items[i] := by simp [lt]
  obtain ⟨tk, ev⟩ := IntsAre.int_at hi i items[i] (by rw [Array.getElem?_toList]; exact at_)
  have nd : ns.getD i 0 = ns[i]'(by omega) := by simp [List.getD, show i < ns.length by omega]
  refine codeAny_builtin PyProof.Rows.F.entry_set_update_loop ?_
  rw [Around.under_plainId PyProof.Rows.F.plain_set_update_loop _]
  refine CQ (wpAny_pyNext_list_item it li at_ fun h1 it1 sb1 => ?_)
  rw [ev]
  have g1 : h1.get? S = some o := by rw [sb1.2 S n1]; exact g
  have li1 : h1.IsList l items := li.extBut sb1.extBut n3
  have kb : 0 <= ns.getD i 0 /\ ns.getD i 0 < 1024 := by rw [nd]; exact hb _ (List.getElem_mem _)
  have tk1 : ns.take (i + 1) = ns.take i ++ [ns.getD i 0] := by rw [nd, List.take_succ_eq_append_getElem]
  refine CQ (wpAny_holding (wpAny_holding (CQ ((intKind prog w).pyHash (k := ns.getD i 0) (intKind_is prog w _ _) ?_))))
  refine vn (s := { s with heap := h1, toks := s.toks + 1 }) g1 so kb (by omega) (fun m => ?_) fun m h2 o2 k2 sb2 g2 so2 p => ?_
  ·refine CT ⟨plainId_quiet PyProof.Rows.F.plain_set_update_loop _, ih (i + 1) _ ks o (by omega) lt it1 li1 g1 so (by omega) (fun y => ?_) fun h' tk' o' ks' k1 k2 k3 k4 k5 => ?_⟩
   ·rw [mem y, tk1, Dh, Db]
    exact ⟨.inl, fun z => z.elim id fun e => e ▸ (mem _).mp m⟩
   ·exact fin h' tk' o' ks' (fun b u b1 b2 q => k1 b u b1 b2 (by rw [sb1.2 b b2]; exact q)) k2 k3 k4 k5
  ·have it2 : h2.IsListIter I l (i + 1) := by
    obtain ⟨oi, q1, q2⟩ := it1
    exact ⟨oi, by rw [sb2.2 I (Ne.symm n1)]; exact q1, q2⟩
   have li2 : h2.IsList l items := li1.extBut sb2.extBut (Ne.symm n2)
   refine CT ⟨plainId_quiet PyProof.Rows.F.plain_set_update_loop _, ih (i + 1) _ k2 o2 (by omega) lt it2 li2 g2 so2 (by rw [p.length_eq, CV]; simp; omega) (fun y => ?_) fun h' tk' o' ks' k1 k2' k3 k4 k5 => ?_⟩
   ·rw [p.mem_iff, tk1, Dh, Dh, mem y]
   ·exact fin h' tk' o' ks' (fun b u b1 b2 q => k1 b u b1 b2 (by rw [sb2.2 b b1, sb1.2 b b2]; exact q)) k2' k3 k4 k5
theorem uC {items : Array Value} {ns : List Int} {Q : Fin -> Shared -> Prop} {S : Addr} (hh : A.handled = none) (hS : s.heap.get? S = some (cX w)) (ne : S ≠ l) (hl : s.heap.IsList l items) (hi : IntsAre items.toList ns) (hb : ∀ n ∈ ns, 0 <= n /\ n < 1024) (hz : ns.length < 900)
  (h : ∀ h' tk o ks, (∀ b u, b ≠ S -> s.heap.get? b = some u -> h'.get? b = some u) -> h'.get? S = some o -> de (byT w) o ks -> (∀ y, y ∈ ks ↔ y ∈ ns) -> ks.length <= ns.length -> Q (.done (.ret .none)) { s with heap := h', toks := tk }) :
  wpAny (model prog w) A (Builtin.«set.__init__» ⟨[.ref S, .ref l], []⟩) Q E s := by
 have hT : s.TypeIs (.ref S) "set" := ⟨_, hS, rfl⟩
 have hTl := hl.typeIs
 have s1 := PySem.F.sub_list_set
 have s2 := PySem.F.sub_list_frozenset
 have lS : S < s.heap.objs.size := Df hS
 have lL : l < s.heap.objs.size := by
  obtain ⟨o, q, _⟩ := hl
  exact Df q
 have anyL : ∀ {Q' : Bool -> Shared -> Prop}, Q' false s -> wpAny (model prog w) A (Builtin.Frozenset.isAnySet (.ref l)) Q' E s := fun q => CQ (wpAny_isInstance hTl s1 (wpAny_isInstance hTl s2 q))
 have name : ∀ {Q' : String -> Shared -> Prop}, (∀ x, Q' x s) -> wpAny (model prog w) A (typeNameOfCut 200 (.ref S)) Q' E s := fun q => CQ (CQ (wpAny_typeOf hT (CT (CT (q _)))))
 refine CQ (CT ?_)
 show wpAny _ _ (typeNameOfCut 200 (.ref S) >>= fun n => checkCount n 0 1 1 >>= _) _ _ _
 refine CQ (name fun x => ?_)
 refine CQ (CT ?_)
 refine CQ (CT (CQ (CQ (wpAny_setState_of hS rfl rfl (CT ?_)))))
 rw [if_neg (by show ¬ ((0 : Nat) != 0) = true; decide)]
 refine CQ (CQ (anyL ?_))
 rw [if_neg (by decide)]
 refine CQ (wpAny_typeOf hTl ?_)
 rw [if_neg (by decide)]
 refine CQ (wpAny_pyIter_list hl (CQ (wpAny_runValue ?_)))
 refine uT (l := l) (S := S) (items := items) (ns := ns) hh hi hb hz (Ds lS) ne (Ds lL) items.size 0 _ [] (cX w) (by omega) (De _) ⟨_, Di _ rfl, rfl, rfl⟩ (hl.push _) (CW _ hS) (de.fresh _) (De _) (fun y => by simp) fun h' tk o' ks' k1 k2 k3 k4 k5 => ?_
 refine CT (CT (h h' tk o' ks' (fun b u hb' q => k1 b u hb' (Ds (Df q)) (CW _ q)) k2 k3 k4 k5))
theorem vM {items : Array Value} {ns : List Int} {Q : Value -> Shared -> Prop} (hh : A.handled = none) (hl : s.heap.IsList l items) (hi : IntsAre items.toList ns) (hb : ∀ n ∈ ns, 0 <= n /\ n < 1024) (hz : ns.length < 900)
  (h : ∀ h' tk o ks, (∀ b u, s.heap.get? b = some u -> h'.get? b = some u) -> h'.get? s.heap.objs.size = some o -> de (byT w) o ks -> (∀ y, y ∈ ks ↔ y ∈ ns) -> ks.length <= ns.length -> Q (.ref s.heap.objs.size) { s with heap := h', toks := tk }) :
  wpAny (model prog w) A (call (.type "set") [.ref l]) Q E s := by
 have ft := PySem.F.called_set
 obtain ⟨c, tl, hmro⟩ := ft.mro
 have hmade := ft.made
 have hsub := ft.sub
 have hnt := ft.notType
 have hcc := ft.canCreate
 have hct := PySem.F.typeCall_set_1 (.ref l)
 have atS : (s.heap.push (cX w)).get? s.heap.objs.size = some (cX w) := Di _ rfl
 have lL : l < s.heap.objs.size := by
  obtain ⟨o, q, _⟩ := hl
  exact Df q
 refine wpAny_call (codeAny_of_tree (CT ⟨Code.quiet_builtin _ (by decide +kernel), codeAny_builtin PySem.F.entry_type_call ?_⟩))
 rw [Around.under_plain (weight_type_call_type "set" [.ref l] []) rfl]
 repeat (any_goals (first | assumption | wp_step))
 refine codeAny_mono (wC (E := E) (Q := fun v s1 => v = .ref s.heap.objs.size /\ s1 = { s with heap := s.heap.push (cX w) }) ⟨rfl, rfl⟩) fun res s1 hr => ?_
 match res, hr with
 | .error e, hr => exact hr
 | .ok (.ret v), hr =>
  obtain ⟨rfl, rfl⟩ := hr
  have hT : Shared.TypeIs { s with heap := s.heap.push (cX w) } (.ref s.heap.objs.size) "set" := ⟨_, atS, rfl⟩
  have hli := ft.init.lookup
  have hbi := ft.init.bind (.ref s.heap.objs.size)
  repeat (any_goals (first | assumption | wp_step))
  refine codeAny_mono (codeAny_call_builtin (R := wants (fun v s2 => v = .none /\ Q (.ref s.heap.objs.size) s2) E) ft.init.plain PySem.F.entry_set_init (check_set_init_1 hT ?_)) fun res2 s2 hr2 => ?_
  ·refine uC (A := A.in1.in1) hh atS (Nat.ne_of_gt lL) (hl.push _) hi hb hz fun h' tk o ks k1 k2 k3 k4 k5 => ⟨rfl, ?_⟩
   exact h h' tk o ks (fun b u q => k1 b u (Ds (Df q)) (CW _ q)) k2 k3 k4 k5
  ·match res2, hr2 with
   | .error e, hr2 => exact hr2
   | .ok (.ret v), hr2 =>
    obtain ⟨rfl, q⟩ := hr2
    repeat (any_goals (first | assumption | wp_step))
   | .ok .next, hr2 => exact hr2.elim
   | .ok .brk, hr2 => exact hr2.elim
   | .ok .cont, hr2 => exact hr2.elim
 | .ok .next, hr => exact hr.elim
 | .ok .brk, hr => exact hr.elim
 | .ok .cont, hr => exact hr.elim
end
end SX
end
section
namespace SX
open PySem PyProof.Rows PySem.Spec
theorem gD : Slot "set_iterator" "__next__" "set_iterator.__next__" := .of (owner := "set_iterator") (n := "__next__") (by rw [typeLookup_type, builtinLookup_eq_fast]; kernel_rfl) (by decide +kernel) (by decide +kernel) (by decide +kernel) (by first | exact .inl (by decide +kernel) | exact .inr (by decide +kernel)) (by rw [isSubtype_type]; kernel_rfl)
theorem sw : Slot "set_iterator" "__iter__" "set_iterator.__iter__" := .of (owner := "set_iterator") (n := "__iter__") (by rw [typeLookup_type, builtinLookup_eq_fast]; kernel_rfl) (by decide +kernel) (by decide +kernel) (by decide +kernel) (by first | exact .inl (by decide +kernel) | exact .inr (by decide +kernel)) (by rw [isSubtype_type]; kernel_rfl)
theorem pE : entryFor table "set_iterator.__next__" = some Builtin.«set_iterator.__next__» := entryFor_of_fast (by kernel_rfl)
theorem vH : entryFor table "set_iterator.__iter__" = some Builtin.«dict_keyiterator.__iter__» := entryFor_alias (id' := "dict_keyiterator.__iter__") (by kernel_rfl) (by first | rfl | decide +kernel) (by decide +kernel) (by kernel_rfl)
theorem wK : entryFor table "set.__iter__" = some Builtin.«frozenset.__iter__» := entryFor_alias (id' := "frozenset.__iter__") (by kernel_rfl) (by first | rfl | decide +kernel) (by decide +kernel) (by kernel_rfl)
theorem sk (a : Value) : argsOk "set_iterator.__next__" ⟨[a], []⟩ := by unfold argsOk; kernel_rfl
theorem yd (a : Value) : argsOk "set_iterator.__iter__" ⟨[a], []⟩ := by unfold argsOk; kernel_rfl
theorem qy : typeLookup (.type "set") "__len__" = pure (some (.builtin "set.__len__")) := by rw [typeLookup_type, builtinLookup_eq_fast]; kernel_rfl
abbrev yf (es : Array (Int × Value)) (ep : Nat) (t : SetTable) : Obj := ⟨.type "set", none, .set es ep t, #[]⟩
abbrev CB (first : Value) (i : Nat) (S : Addr) (n ep : Nat) : Obj := ⟨.type "set_iterator", none, .fields #[first, .int i 0, .ref S, .int n 0, .int ep 0], #[]⟩
inductive xR (w : World) (S : Addr) (es : Array (Int × Value)) (ep : Nat) (t : SetTable) (T : Addr) (h : Heap) : Value -> Array (Int × Value) -> Nat -> Prop
 | text {i : Nat} : byT w = true -> xR w S es ep t T h (.int 0 0) (pickOrder (w.params.setOrder S ep) es) i
 | table {i slot : Nat} : byT w = false -> (!t.plain && decide (es.size > 1)) = false -> SetTable.below t.place slot = i -> xR w S es ep t T h (.int slot 0) es i
 | drawn {i : Nat} {ps : List Nat} {c : Nat} : ps.Perm (List.range es.size) -> h.get? T = some ⟨.type "tuple", none, .seq (ps.map fun p => .int p 0).toArray c, #[]⟩ -> xR w S es ep t T h (.ref T) (ps.filterMap (es[·]?)).toArray i
def re (w : World) (I S T : Addr) (es : Array (Int × Value)) (ep : Nat) (t : SetTable) (xs : Array (Int × Value)) (i : Nat) (h : Heap) : Prop := h.get? S = some (yf es ep t) /\ ∃ first, h.get? I = some (CB first i S es.size ep) /\ xR w S es ep t T h first xs i
end SX
end
section
namespace SX
open PySem PyProof.Rows PySem.Spec
theorem sS {xs : Array Nat} (hr : rc xs.toList) {j : Nat} (hj : j < xs.size) : SetTable.below xs (xs[j] + 1) = j + 1 := by
 obtain ⟨b0, b1, b2⟩ := eI hr (xs[j] + 1)
 have h1 : ¬ SetTable.below xs (xs[j] + 1) <= j := fun z => by
  have := b2 j hj z
  omega
 have h2 : ¬ j + 1 < SetTable.below xs (xs[j] + 1) := fun z => by
  have lt : j + 1 < xs.size := by omega
  have q := b1 (j + 1) lt z
  have r := oA hr hj lt (Nat.lt_succ_self j)
  omega
 omega
theorem qZ {xs : Array Nat} (hr : rc xs.toList) : SetTable.below xs 0 = 0 := by
 obtain ⟨b0, b1, b2⟩ := eI hr 0
 by_cases c : SetTable.below xs 0 = 0
 ·exact c
 ·have := b1 0 (by omega) (by omega)
  omega
section
variable {prog : Program} {w : World} {A : Around} {E : Value -> Shared -> Prop} {s : Shared} {I S T : Addr} {es xs : Array (Int × Value)} {ep i : Nat} {t : SetTable}
theorem xR.old {h h' : Heap} {f : Value} (m : xR w S es ep t T h f xs i) (e : ∀ o, h.get? T = some o -> h'.get? T = some o) : xR w S es ep t T h' f xs i := by
 cases m with
 | text a => exact .text a
 | table a b c => exact .table a b c
 | drawn a b => exact .drawn a (e _ b)
theorem re.typeIs {h : Heap} (x : re w I S T es ep t xs i h) {s : Shared} (e : s.heap = h) : s.TypeIs (.ref I) "set_iterator" := by
 obtain ⟨_, f, g, _⟩ := x
 exact ⟨_, by rw [e]; exact g, rfl⟩
theorem sV {ps : List Nat} (p : ps.Perm (List.range es.size)) : (ps.filterMap (es[·]?)).length = es.size := by
 have : ∀ (l : List Nat), (∀ a ∈ l, a < es.size) -> (l.filterMap (es[·]?)).length = l.length := by
  intro l
  induction l with
  | nil => intro _; rfl
  | cons a r ih =>
   intro h
   have ha := h a (C3 ..)
   rw [List.filterMap_cons]
   simp [ha, ih fun b hb => h b (C2 _ hb)]
 rw [this ps fun a ha => List.mem_range.mp (p.mem_iff.mp ha), p.length_eq, List.length_range]
theorem BE {ps : List Nat} (p : ps.Perm (List.range es.size)) {k : Nat} (hk : k < ps.length) : (ps.filterMap (es[·]?))[k]? = es[ps[k]]? := by
 have : ∀ (l : List Nat) (k : Nat) (hk : k < l.length), (∀ a ∈ l, a < es.size) -> (l.filterMap (es[·]?))[k]? = es[l[k]]? := by
  intro l
  induction l with
  | nil => intro k hk; cases hk
  | cons a r ih =>
   intro k hk h
   have ha := h a (C3 ..)
   have e : es[a]? = some es[a] := by simp [ha]
   rw [List.filterMap_cons, e]
   cases k with
   | zero => simp [ha]
   | succ k => simpa using ih k (by simpa using hk) fun b hb => h b (C2 _ hb)
 exact this ps k hk fun a ha => List.mem_range.mp (p.mem_iff.mp ha)
theorem re.size {h : Heap} (x : re w I S T es ep t xs i h) : xs.size = es.size := by
 obtain ⟨_, f, g, m⟩ := x
 cases m with
 | text a => rw [<- Da, (iX _ es).length_eq, Da]
 | table a b c => rfl
 | drawn a b => rw [Dk, sV a]
theorem re.perm {h : Heap} (x : re w I S T es ep t xs i h) : xs.toList.Perm es.toList := by
 obtain ⟨_, f, g, m⟩ := x
 cases m with
 | text a => exact iX _ es
 | table a b c => exact .refl _
 | drawn a b =>
  rw [List.toList_toArray]
  exact (a.filterMap _).trans (List.Perm.of_eq (filterMap_getElem?_range es))
theorem yc {v : Int × Value} {Q : Option Value -> Shared -> Prop} (ht : cB (byT w) es.size t) (nT : T ≠ I) (nS : S ≠ I) (hx : re w I S T es ep t xs i s.heap) (hv : xs[i]? = some v)
  (hQ : ∀ h', re w I S T es ep t xs (i + 1) h' -> Heap.SameBut I s.heap h' -> Q (some v.2) { s with heap := h' }) : wpAny (model prog w) A (pyNext (.ref I)) Q E s := by
 have hT := hx.typeIs rfl
 have hsz := hx.size
 obtain ⟨hS, first, hI, m⟩ := hx
 unfold pyNext
 refine CQ (wpAny_attempt (wpAny_callSpecial?_slot (name := Str.ofString "__next__") hT gD (wpAny_call_entry gD hT pE ?_ (sk _))))
 refine CQ (CT (CQ (wpAny_fieldsOf hI rfl ?_)))
 show wpAny _ _ (setEntries S >>= _) _ _ _
 refine CQ (wpAny_setEntries_of hS rfl ht.fits ?_)
 rw [if_neg (by simp)]
 cases m with
 | text a =>
  show wpAny _ _ (setNext S 0 i ep >>= _) _ _ _
  refine CQ (CQ (wpAny_setState_of hS rfl ht.fits (CQ (cw ?_))))
  rw [if_pos a]
  show wpAny _ _ (if (ep != ep) = true then _ else _) _ _ _
  rw [if_neg (by simp)]
  refine CQ ?_
  refine CQ (wpAny_setState_of hS rfl ht.fits (CQ (cw ?_)))
  rw [if_pos a]
  refine CQ (wpAny_askSetting (CT ?_))
  show wpAny _ _ (pure (((pickOrder (w.params.setOrder S ep) es)[i]?).map fun e => (e.2, 0))) _ _ _
  rw [hv]
  refine CT ?_
  show wpAny _ _ (setField (.ref I) 0 (rawInt (0 : Nat)) >>= fun _ => setField (.ref I) 1 (rawInt (i + 1)) >>= fun _ => ret v.2) _ _ _
  refine CQ (wpAny_setField_rec hI (by simp) fun h1 g1 sb1 => ?_)
  refine CQ (wpAny_setField_rec (s := { s with heap := h1 }) g1 (by simp) fun h2 g2 sb2 => ?_)
  refine CT ⟨_, rfl, CT (hQ h2 ⟨?_, .int 0 0, g2, .text a⟩ (sb1.trans sb2))⟩
  rw [sb2.2 S nS, sb1.2 S nS]
  exact hS
 | @table _ slot a b c =>
  show wpAny _ _ (setNext S slot i ep >>= _) _ _ _
  have f := ht.fits
  unfold SetTable.fits at f
  rw [C4, beq_iff_eq] at f
  have lt : i < es.size := by
   rcases Nat.lt_or_ge i es.size with z | z
   ·exact z
   ·rw [Array.getElem?_eq_none z] at hv
    cases hv
  have lt' : i < t.place.size := by omega
  have led : t.led = true := ht.led.resolve_left (by rw [a]; decide)
  refine CQ (CQ (wpAny_setState_of hS rfl ht.fits (CQ (cw ?_))))
  rw [if_neg (by rw [a]; decide)]
  show wpAny _ _ (if (!t.plain && decide (es.size > 1)) = true then _ else _) _ _ _
  rw [if_neg (by rw [b]; decide)]
  refine CQ ?_
  show wpAny _ _ (if (!t.led && !es.isEmpty) = true then _ else _) _ _ _
  rw [if_neg (by rw [led]; simp)]
  refine CT ?_
  have pl : t.place[i]? = some t.place[i] := by simp [lt']
  show wpAny _ _ (pure (match es[SetTable.below t.place slot]?, t.place[SetTable.below t.place slot]? with
   | some (_, x), some j => some (x, j + 1)
   | _, _ => none)) _ _ _
  rw [c, hv, pl]
  refine CT ?_
  show wpAny _ _ (setField (.ref I) 0 (rawInt ((t.place[i] + 1 : Nat) : Int)) >>= fun _ => setField (.ref I) 1 (rawInt (i + 1)) >>= fun _ => ret v.2) _ _ _
  refine CQ (wpAny_setField_rec hI (by simp) fun h1 g1 sb1 => ?_)
  refine CQ (wpAny_setField_rec (s := { s with heap := h1 }) g1 (by simp) fun h2 g2 sb2 => ?_)
  refine CT ⟨_, rfl, CT (hQ h2 ⟨?_, .int (t.place[i] + 1 : Nat) 0, g2, .table a b (sS ht.rise lt')⟩ (sb1.trans sb2))⟩
  rw [sb2.2 S nS, sb1.2 S nS]
  exact hS
 | @drawn _ ps cc a b =>
  have lp : ps.length = es.size := by rw [a.length_eq, List.length_range]
  rw [List.getElem?_toArray] at hv
  have lt : i < ps.length := by
   rcases Nat.lt_or_ge i ps.length with z | z
   ·exact z
   ·rw [List.getElem?_eq_none (by rw [sV a]; omega)] at hv
    cases hv
  rw [BE a lt] at hv
  show wpAny _ _ (seqItems? (.ref T) >>= _) _ _ _
  refine CQ (wpAny_seqItems b rfl ?_)
  have ix : (ps.map fun p : Nat => (Value.int p 0)).toArray[(i : Int).toNat]? = some (.int ps[i] 0) := by
   rw [List.getElem?_toArray, Int.toNat_natCast, C1]
   simp [lt]
  dsimp only
  rw [ix]
  show wpAny _ _ (setNextDrawn S ps[i] ep >>= _) _ _ _
  refine CQ (CQ (wpAny_setState_of hS rfl ht.fits ?_))
  show wpAny _ _ (if (ep != ep) = true then _ else _) _ _ _
  rw [if_neg (by simp)]
  dsimp only
  rw [hv]
  refine CT ?_
  show wpAny _ _ (setField (.ref I) 1 (rawInt (i + 1)) >>= fun _ => ret v.2) _ _ _
  refine CQ (wpAny_setField_rec hI (by simp) fun h1 g1 sb1 => ?_)
  refine CT ⟨_, rfl, CT (hQ h1 ⟨?_, .ref T, g1, .drawn (c := cc) a ?_⟩ sb1)⟩
  ·rw [sb1.2 S nS]
   exact hS
  ·rw [sb1.2 T nT]
   exact b
theorem pw {α : Type} {Q' : α -> Shared -> Prop} {E' : Value -> Shared -> Prop} (hh : A.handled = none) (h : ∀ x h', Shared.TypeIs { s with heap := h' } (.ref x) "StopIteration" -> (∀ b o, s.heap.get? b = some o -> h'.get? b = some o) -> E' (.ref x) { s with heap := h' }) : wpAny (model prog w) A (newExc (.type "StopIteration") [] >>= fun x => raiseNew (α := α) x) Q' E' s := by
 refine CQ ?_
 simp only [newExc, newTuple]
 refine CQ (wpAny_newObj_type (CQ (m := firstArgMember _ _) (wpAny_of_eq (a := Value.none) (by first | rfl | (simp only [firstArgMember]; rfl)) (wpAny_newObj_type ?_ (by size_fits)))) (by size_fits))
 simp only [raiseNew]
 refine CQ (wpAny_handled ?_)
 rw [hh]
 refine CQ (CT (wpAny_throw (h _ _ ⟨_, Di _ rfl, rfl⟩ fun b o e => CW _ (CW _ e))))
theorem zY {Q : Option Value -> Shared -> Prop} (hh : A.handled = none) (ht : cB (byT w) es.size t) (nT : T ≠ I) (nS : S ≠ I) (hx : re w I S T es ep t xs es.size s.heap)
  (hQ : ∀ h', Heap.ExtBut I s.heap h' -> Q none { s with heap := h' }) : wpAny (model prog w) A (pyNext (.ref I)) Q E s := by
 have hT := hx.typeIs rfl
 have hsz := hx.size
 obtain ⟨hS, first, hI, m⟩ := hx
 have fly : ∀ {h1 : Heap} {x : Value} {h2 : Heap}, Heap.SameBut I s.heap h1 -> Shared.TypeIs { s with heap := h2 } x "StopIteration" -> (∀ b o, h1.get? b = some o -> h2.get? b = some o) -> wpAny (model prog w) A (isInstance x (.type "StopIteration") >>= fun b => if b = true then pure none else throw x) Q E { s with heap := h2 } := fun {h1 x h2} sb ty ex =>
  CQ (wpAny_isInstance (T := "StopIteration") (b := true) ty isSubtype_stop (CT (hQ h2 fun b o hb e => ex b o (by rw [sb.2 b hb]; exact e))))
 unfold pyNext
 refine CQ (wpAny_attempt (wpAny_callSpecial?_slot (name := Str.ofString "__next__") hT gD (wpAny_call_entry gD hT pE ?_ (sk _))))
 refine CQ (CT (CQ (wpAny_fieldsOf hI rfl ?_)))
 show wpAny _ _ (setEntries S >>= _) _ _ _
 refine CQ (wpAny_setEntries_of hS rfl ht.fits ?_)
 rw [if_neg (by simp)]
 have out : ∀ {Q' : Fin -> Shared -> Prop}, wpAny (model prog w) A.in1 (setField (.ref I) 2 .none >>= fun _ => newExc (.type "StopIteration") [] >>= fun x => raiseNew (α := Fin) x) Q' (fun e s' => wpAny (model prog w) A (isInstance e (.type "StopIteration") >>= fun b => if b = true then pure none else throw e) Q E s') s := fun {Q'} =>
  CQ (wpAny_setField_rec hI (by simp) fun h1 g1 sb1 => pw (A := A.in1) (s := { s with heap := h1 }) hh fun x h2 ty ex => fly sb1 ty ex)
 cases m with
 | text a =>
  show wpAny _ _ (setNext S 0 es.size ep >>= _) _ _ _
  refine CQ (CQ (wpAny_setState_of hS rfl ht.fits (CQ (cw ?_))))
  rw [if_pos a]
  show wpAny _ _ (if (ep != ep) = true then _ else _) _ _ _
  rw [if_neg (by simp)]
  refine CQ ?_
  refine CQ (wpAny_setState_of hS rfl ht.fits (CQ (cw ?_)))
  rw [if_pos a]
  refine CQ (wpAny_askSetting (CT ?_))
  show wpAny _ _ (pure (((pickOrder (w.params.setOrder S ep) es)[es.size]?).map fun e => (e.2, 0))) _ _ _
  rw [Array.getElem?_eq_none (by rw [hsz]; exact C7 _)]
  exact CT out
 | @table _ slot a b c =>
  show wpAny _ _ (setNext S slot es.size ep >>= _) _ _ _
  have led : t.led = true := ht.led.resolve_left (by rw [a]; decide)
  refine CQ (CQ (wpAny_setState_of hS rfl ht.fits (CQ (cw ?_))))
  rw [if_neg (by rw [a]; decide)]
  show wpAny _ _ (if (!t.plain && decide (es.size > 1)) = true then _ else _) _ _ _
  rw [if_neg (by rw [b]; decide)]
  refine CQ ?_
  show wpAny _ _ (if (!t.led && !es.isEmpty) = true then _ else _) _ _ _
  rw [if_neg (by rw [led]; simp)]
  refine CT ?_
  show wpAny _ _ (pure (match es[SetTable.below t.place slot]?, t.place[SetTable.below t.place slot]? with
   | some (_, x), some j => some (x, j + 1)
   | _, _ => none)) _ _ _
  rw [c, Array.getElem?_eq_none (C7 _)]
  exact CT out
 | @drawn _ ps cc a b =>
  have lp : ps.length = es.size := by rw [a.length_eq, List.length_range]
  show wpAny _ _ (seqItems? (.ref T) >>= _) _ _ _
  refine CQ (wpAny_seqItems b rfl ?_)
  have ix : (ps.map fun p : Nat => (Value.int p 0)).toArray[(es.size : Int).toNat]? = none := by
   rw [List.getElem?_toArray, Int.toNat_natCast, List.getElem?_eq_none (by rw [CP]; omega)]
  dsimp only
  rw [ix]
  refine CQ (wpAny_setField_rec hI (by simp) fun h1 g1 sb1 => ?_)
  exact CQ (wpAny_setField_rec (s := { s with heap := h1 }) g1 (by simp) fun h2 g2 sb2 => pw (A := A.in1) (s := { s with heap := h2 }) hh fun x h3 ty ex => fly (sb1.trans sb2) ty ex)
theorem vG (hh : A.handled = none) (ht : cB (byT w) es.size t) (nT : T ≠ I) (nS : S ≠ I) :
  WalksS prog w A I [I, S, T] [I] (fun a b => b = a) es.size (fun i v => ∃ e, xs[i]? = some e /\ v = e.2) (fun i s => re w I S T es ep t xs i s.heap) where
 sub := fun b hb => by
  rw [Db.mp hb]
  exact C3 ..
 grefl := fun a => rfl
 gtrans := fun a b c h1 h2 => h2.trans h1
 frame := fun i s h' tk hx _ old => by
  obtain ⟨hS, f, hI, m⟩ := hx
  exact ⟨old S (by simp) _ hS, f, old I (by simp) _ hI, m.old fun o e => old T (by simp) o e⟩
 item := fun i s Q E hi hx hQ => by
  have sz := hx.size
  have at_ : xs[i]? = some (xs[i]'(by omega)) := by simp [show i < xs.size by omega]
  exact yc ht nT nS hx at_ fun h' hx' sb => hQ _ _ ⟨_, at_, rfl⟩ hx' ⟨fun b o hb e => by
   rw [sb.2 b fun z => hb (by rw [z]; exact Db.mpr rfl)]
   exact e, rfl, rfl, rfl, C7 _⟩
 done := fun s Q E hx hQ => zY hh ht nT nS hx fun h' ex => hQ _ ⟨fun b o hb e => ex b o (fun z => hb (by rw [z]; exact Db.mpr rfl)) e, rfl, rfl, rfl, C7 _⟩
 self := fun i s Q E hx hQ => by
  have hT := hx.typeIs rfl
  refine wpAny_pyIter_slot hT sw (wpAny_call_entry sw hT vH ?_ (yd _))
  exact CT ⟨_, rfl, "set_iterator", _, hT, gD.lookup, hQ⟩
end
end SX
end
section
namespace SX
open PySem PyProof.Rows PySem.Spec
section
variable {prog : Program} {w : World} {A : Around} {E : Value -> Shared -> Prop} {s : Shared} {S : Addr} {es : Array (Int × Value)} {ep : Nat} {t : SetTable}
theorem vL {Q : Value -> Shared -> Prop} (ht : cB (byT w) es.size t) (hz : es.size < 1000) (hS : s.heap.get? S = some (yf es ep t))
  (hQ : ∀ h' d I T xs, I < h'.objs.size -> s.heap.objs.size <= I -> s.heap.objs.size <= T -> T ≠ I -> re w I S T es ep t xs 0 h' -> (∀ b o, s.heap.get? b = some o -> h'.get? b = some o) -> Q (.ref I) { s with heap := h', drawn := d }) : wpAny (model prog w) A (pyIter (.ref S)) Q E s := by
 have hT : s.TypeIs (.ref S) "set" := ⟨_, hS, rfl⟩
 refine wpAny_pyIter_slot hT PySem.F.slot_set_iter (wpAny_call_entry PySem.F.slot_set_iter hT wK ?_ (PySem.F.args_set_iter_1 _))
 refine CQ (CQ (CT (CT ?_)))
 refine CQ (CQ (wpAny_setEntries_of hS rfl ht.fits (CT ?_)))
 have fin : ∀ {first : Value} {s1 : Shared} {T : Addr} {xs : Array (Int × Value)} (d : Drawn), s1 = { s with heap := s1.heap, drawn := d } -> (∀ b o, s.heap.get? b = some o -> s1.heap.get? b = some o) -> s.heap.objs.size <= s1.heap.objs.size -> s.heap.objs.size <= T -> T ≠ s1.heap.objs.size -> xR w S es ep t T s1.heap first xs 0 ->
   wpAny (model prog w) A.in1 (setEpoch S >>= fun e => newFields "set_iterator" [first, rawInt 0, .ref S, rawInt es.size, rawInt e] >>= fun v => ret v) (fun f s' => ∃ v, f = .done (.ret v) /\ ∃ T' r, s'.TypeIs v T' /\ typeLookup (.type T') "__next__" = pure (some r) /\ Q v s') E s1 := fun {first s1 T xs} d e1 old le leT ne m => by
  have g := old S _ hS
  refine CQ (wpAny_setEpoch_of g rfl ht.fits ?_)
  refine CQ (wpAny_newObj_type (CT ⟨_, rfl, "set_iterator", _, ⟨_, Di _ rfl, rfl⟩, gD.lookup, ?_⟩))
  rw [e1]
  refine hQ _ d s1.heap.objs.size T xs (by rw [Heap.size_push]; exact Nat.lt_succ_self _) le leT ne ⟨CW _ g, first, Di _ rfl, m.old fun o q => CW _ q⟩ fun b o q => CW _ (old b o q)
 refine CQ (CQ (wpAny_setState_of hS rfl ht.fits (CQ (cw (CT ?_)))))
 show wpAny _ _ (if (!byT w && (!t.plain && decide (es.size > 1))) = true then _ else _) _ _ _
 by_cases c : (!byT w && (!t.plain && decide (es.size > 1))) = true
 ·rw [if_pos c]
  refine CQ (ju es.size (List.range es.size) (by simp) fun ps d p => CQ (wpAny_newObj_type ?_ ?_))
  ·exact fin (T := s.heap.objs.size) d rfl (fun b o q => CW _ q) (by rw [Heap.size_push]; exact Nat.le_succ _) (C7 _) (by rw [Heap.size_push]; exact Ds (Nat.lt_succ_self _)) (.drawn p (Di _ rfl))
  ·show (ps.map fun i : Nat => rawInt i).toArray.size <= sizeLine
   rw [Dk, CP, p.length_eq, List.length_range, sizeLine_eq]
   omega
 ·rw [if_neg c]
  refine CQ (CT ?_)
  cases b : byT w with
  | true => exact fin (T := s.heap.objs.size + 1) s.drawn rfl (fun b o q => q) (C7 _) (Nat.le_succ _) (Nat.succ_ne_self _) (.text b)
  | false =>
   refine fin (T := s.heap.objs.size + 1) s.drawn rfl (fun b o q => q) (C7 _) (Nat.le_succ _) (Nat.succ_ne_self _) (.table b ?_ (qZ ht.rise))
   rw [b] at c
   simpa using c
theorem qm : ∀ {es : List (Int × Value)} {ks : List Int}, Els es ks -> IntsAre (es.map (·.2)) ks
 | _, _, .nil => .nil
 | _, _, .cons (t := tk) h => .cons _ tk (qm h)
theorem vK {L I T : Addr} {xs : Array (Int × Value)} {c : Nat} {ks : List Int} {R : Result -> Shared -> Prop} (hh : A.handled = none) (he : Els es.toList ks) (hz : ks.length < 1000) (ht : cB (byT w) es.size t) (nT : T ≠ I) (nS : S ≠ I) (nL : L ∉ [I, S, T])
  (hx : re w I S T es ep t xs 0 s.heap) (hL : s.heap.get? L = some { cls := .type "list", dict := none, data := .seq #[] c, slots := #[] })
  (hR : ∀ s' acc c' ns, s'.heap.get? L = some { cls := .type "list", dict := none, data := .seq acc c', slots := #[] } -> (∀ b o, b ≠ L -> b ≠ I -> s.heap.get? b = some o -> s'.heap.get? b = some o) -> s'.gens = s.gens -> s'.os = s.os -> s.toks <= s'.toks -> IntsAre acc.toList ns -> ns.Perm ks -> R (.ok (.ret (.ref L))) s') :
  codeAny (model prog w) A (.builtin "list.extend.loop" ⟨[.ref L, .ref I, .ref L], []⟩) R s := by
 have sz : es.size = ks.length := by rw [<- Da]; exact he.length
 have W := vG (prog := prog) (A := A.in1) (xs := xs) (ep := ep) hh ht nT nS
 refine codeAny_extend_loopS W (by rw [sz, sizeLine_eq]; omega) L nL (.ref L) es.size 0 s #[] c rfl (De _) hx hL (ItemsOf.nil _) fun s' acc c' hm hS' hacc => ?_
 obtain ⟨ns, kp, ke⟩ := he.of_perm hx.perm
 have eq : acc.toList = xs.toList.map (·.2) := by
  refine List.ext_getElem ?_ fun i h2 h3 => ?_
  ·rw [Da, CP, Da, hacc.1, hx.size]
  ·have h2' : i < acc.size := by simpa using h2
   obtain ⟨e, q, z⟩ := hacc.2 i acc[i] (by simp [h2'])
   have h3' : i < xs.size := by simpa using h3
   have : e = xs[i] := by simpa [h3'] using q.symm
   simp [z, this]
 refine hR s' acc c' ns hS' (fun b o b1 b2 e => hm.heap b o (fun m => ?_) e) hm.gens hm.os hm.toks (by rw [eq]; exact qm ke) kp
 rcases C5.mp m with z | z
 ·exact b1 z
 ·exact b2 (Db.mp z)
theorem og {o : Obj} {ks : List Int} {Q : List Value -> Shared -> Prop} (hh : A.handled = none) (hS : s.heap.get? S = some o) (hs : de (byT w) o ks)
  (hQ : ∀ s' vs ns, (∀ b o, s.heap.get? b = some o -> s'.heap.get? b = some o) -> s'.gens = s.gens -> s'.os = s.os -> s.toks <= s'.toks -> IntsAre vs ns -> ns.Perm ks -> Q vs s') : wpAny (model prog w) A (collect (.ref S)) Q E s := by
 obtain ⟨es, ep, t, rfl, he, nd, bd, lt, ht⟩ := hs
 have sz : es.size = ks.length := by rw [<- Da]; exact he.length
 unfold collect
 refine CQ (wpAny_runValue (codeAny_builtin PySem.F.entry_proto_collect ?_))
 rw [Around.under_plainId PySem.F.plain_proto_collect _]
 refine CQ (wpAny_newObj_type (CT ⟨plainId_quiet PySem.F.plain_list_iadd _, codeAny_builtin PySem.F.entry_list_iadd ?_⟩))
 rw [Around.under_plainId PySem.F.plain_list_iadd _]
 generalize hH : s.heap.push { cls := .type "list", data := .seq ([] : List Value).toArray } = H
 have HS : H.objs.size = s.heap.objs.size + 1 := by rw [<- hH, Heap.size_push]
 have hS' : H.get? S = some (yf es ep t) := by rw [<- hH]; exact CW _ hS
 have hL : H.get? s.heap.objs.size = some { cls := .type "list", data := .seq ([] : List Value).toArray } := by rw [<- hH]; exact Di _ rfl
 have hT : Shared.TypeIs { s with heap := H } (.ref S) "set" := ⟨_, hS', rfl⟩
 have ltS : S < s.heap.objs.size := Df hS
 show wpAny _ A.in1 (Builtin.List.listExtendWith (.ref s.heap.objs.size) (.ref S) (.ref s.heap.objs.size)) _ _ { s with heap := H }
 unfold Builtin.List.listExtendWith
 refine CQ (wpAny_typeOf hT ?_)
 have q1 : Builtin.List.listSameRef (.ref s.heap.objs.size) (.ref S) = false := by
  show (s.heap.objs.size == S) = false
  exact beq_eq_false_iff_ne.mpr (Nat.ne_of_gt ltS)
 have q2 : (Builtin.List.listSameRef (.ref s.heap.objs.size) (.ref S) || (Value.type "set" == Value.type "list") || (Value.type "set" == Value.type "tuple")) = false := by
  rw [q1]
  decide
 rw [q2, if_neg (by decide)]
 refine CQ (vL (s := { s with heap := H }) ht (by omega) hS' fun h1 d I T xs lI geI geT neT hx old => ?_)
 replace geI : s.heap.objs.size + 1 <= I := by rw [<- HS]; exact geI
 replace geT : s.heap.objs.size + 1 <= T := by rw [<- HS]; exact geT
 have hT1 : Shared.TypeIs { s with heap := h1, drawn := d } (.ref S) "set" := ⟨_, old S _ hS', rfl⟩
 refine CQ (wpAny_holding ?_)
 unfold Builtin.List.listLengthHint
 refine CQ (wpAny_specialOf hT1 qy ?_)
 wp_delta
 refine CQ (wpAny_isInstance hT1 sub_set_self ?_)
 refine CQ (wpAny_typeOf hT1 (CT ?_))
 show wpAny _ A.in1 (rule "list.extend.makes-room" >>= fun _ => Builtin.List.listTouch (.ref s.heap.objs.size) >>= fun _ => again (.builtin "list.extend.loop" ⟨[.ref s.heap.objs.size, .ref I, .ref s.heap.objs.size], []⟩)) _ _ _
 refine CQ (wpAny_rule (CQ ?_))
 have L1 := old _ _ hL
 have L2 := Heap.get?_update_self (Obj.mapSeq (·.push Value.none)) L1 rfl
 have L3 := Heap.get?_update_self (Obj.mapSeq (·.pop)) L2 rfl
 refine CQ (wpAny_updateSeq L1 rfl (wpAny_updateSeq L2 rfl ?_))
 have nf : s.heap.objs.size ∉ [I, S, T] := fun m => by
  rcases C5.mp m with z | z
  ·exact absurd geI (by rw [<- z]; exact Nat.not_succ_le_self _)
  ·rcases C5.mp z with z | z
   ·exact absurd ltS (by rw [<- z]; exact Nat.lt_irrefl _)
   ·exact absurd geT (by rw [<- Db.mp z]; exact Nat.not_succ_le_self _)
 have ne : ∀ {b}, b ∈ [I, S, T] -> s.heap.objs.size ≠ b := fun hb z => nf (by rw [z]; exact hb)
 have nS : S ≠ I := Ds (Dl ltS (Nat.le_of_succ_le geI))
 obtain ⟨x1, f, x2, x3⟩ := hx
 have keep : ∀ {b o}, s.heap.objs.size ≠ b -> h1.get? b = some o -> ((h1.update s.heap.objs.size (Obj.mapSeq (·.push Value.none))).update s.heap.objs.size (Obj.mapSeq (·.pop))).get? b = some o := fun nb e => (Heap.get?_update_other _ _ nb).trans ((Heap.get?_update_other _ _ nb).trans e)
 have hx2 : re w I S T es ep t xs 0 ((h1.update s.heap.objs.size (Obj.mapSeq (·.push Value.none))).update s.heap.objs.size (Obj.mapSeq (·.pop))) := ⟨keep (ne (by simp)) x1, f, keep (ne (by simp)) x2, x3.old fun o e => keep (ne (by simp)) e⟩
 have L4 : ∃ c, ((h1.update s.heap.objs.size (Obj.mapSeq (·.push Value.none))).update s.heap.objs.size (Obj.mapSeq (·.pop))).get? s.heap.objs.size = some { cls := .type "list", dict := none, data := .seq #[] c, slots := #[] } := ⟨_, L3⟩
 obtain ⟨c, L4⟩ := L4
 refine CT ⟨plainId_quiet PySem.F.plain_extend_loop _, ?_⟩
 refine vK hh he lt ht neT nS nf hx2 L4 fun s' acc c' ns g old2 e1 e2 e3 hi hp => ?_
 refine CQ (wpAny_load g (CT (hQ s' acc.toList ns (fun b o e => ?_) e1 e2 e3 hi hp)))
 have lb := Df e
 have eH : H.get? b = some o := by rw [<- hH]; exact CW _ e
 exact old2 b o (Ds lb) (Ds (Dl lb (Nat.le_of_succ_le geI))) (keep (Nat.ne_of_gt lb) (old b o eH))
theorem qx {o : Obj} {ks : List Int} {Q : Value -> Shared -> Prop} (hh : A.handled = none) (hS : s.heap.get? S = some o) (hs : de (byT w) o ks)
  (hQ : ∀ (s1 : Shared) (h' : Heap) (out : Array Value) (c : Nat) (ns : List Int), (∀ b o, s.heap.get? b = some o -> s1.heap.get? b = some o) -> s1.gens = s.gens -> s1.os = s.os -> s.toks <= s1.toks -> (∀ b o, s1.heap.get? b = some o -> h'.get? b = some o) -> h'.get? s1.heap.objs.size = some (seqObj "list" out c) -> IntsAre out.toList ns -> ns.Perm ks -> ns.Pairwise (· <= ·) -> Q (.ref s1.heap.objs.size) { s1 with heap := h' }) : wpAny (model prog w) A (call (.builtin "sorted") [.ref S]) Q E s := by
 have lt : ks.length < 1000 := by obtain ⟨_, _, _, _, _, _, _, lt, _⟩ := hs; exact lt
 refine Calls.call_function_entry kind_sorted plain_sorted entry_sorted (args_sorted1 _) ?_
 unfold Builtin.«sorted»
 refine CQ (m := checkCount "sorted" 1 1 _) (CT (CQ (og (A := A.in1) hh hS hs fun s1 vs ns old e1 e2 e3 hi hp => CQ (wpAny_newList ?_ ?_))))
 ·have hl : vs.length = ns.length := hi.length
  have hz : vs.length <= sizeLine := by rw [hl, hp.length_eq, sizeLine_eq]; omega
  have hL : (s1.heap.push (seqObj "list" vs.toArray 0)).get? s1.heap.objs.size = some (seqObj "list" vs.toArray 0) := Di _ rfl
  have fin : ∀ (out : Array Value) (ns' : List Int), IntsAre out.toList ns' -> ns'.Perm ns -> ns'.Pairwise (· <= ·) -> Q (.ref s1.heap.objs.size) { s1 with heap := sortedHeap (s1.heap.push (seqObj "list" vs.toArray 0)) s1.heap.objs.size vs out } := fun out ns' h1 h2 h3 => by
   obtain ⟨c, g⟩ := sortedHeap_at (out := out) hL
   refine hQ s1 _ out c ns' old e1 e2 e3 (fun b o e' => ?_) g h1 (h2.trans hp) h3
   have lb := Df e'
   rw [sortedHeap_old (Ds lb) (by rw [Heap.size_push]; exact Nat.lt_succ_of_lt lb)]
   exact CW _ e'
  have go : wpAny (model prog w) A.in1 (call (.builtin "list.sort") [.ref s1.heap.objs.size]) (fun _ s' => Q (.ref s1.heap.objs.size) s') E { s1 with heap := s1.heap.push (seqObj "list" vs.toArray 0) } :=
   wpAny_call_entry slot_list_sort ⟨_, hL, rfl⟩ entry_list_sort (list_sort_treeAny hL hi hz fun out ns' h1 h2 h3 => ⟨_, rfl, fin out ns' h1 h2 h3⟩) (args_list_sort _)
  exact CQ (wpAny_holding (wpAny_mono go (fun _ _ q => CT ⟨_, rfl, q⟩) fun _ _ e => e))
 ·show vs.toArray.size <= sizeLine
  rw [Dk, hi.length, hp.length_eq, sizeLine_eq]
  omega
end
end SX
end
section
namespace L2
open PySem PyProof.Rows PySem.Spec SX
def qz (w : World) (ks : List Int) (p : Addr) : HO := .ext fun h => ∃ o, h.get? p = some o /\ de (byT w) o ks
section
variable {X : Cx} {pins : List (Addr × Obj)} {σ : St} {H : Hp} {s : Shared}
theorem sB {P : Program} {w : World} {ks : List Int} {p : Addr} {h : Heap} {o : Obj} (g : h.get? p = some o) (so : de (byT w) o ks) : bu P w H h p (qz w ks p) :=
 ⟨⟨o, g, so⟩, ⟨o, g⟩, fun h1 h2 ⟨o, g, so⟩ k => ⟨o, k o g, so⟩⟩
theorem oh {ks : List Int} {p : Addr} (I : Inv X pins σ H s) (e : H p = some (qz X.w ks p)) : ∃ o, s.heap.get? p = some o /\ de (byT X.w) o ks := (I.hok p _ e).1
theorem Inv.drew (I : Inv X pins σ H s) (d : Drawn) : Inv X pins σ H { s with drawn := d } := ⟨I.ok, I.os, I.bare, I.base, I.loc, I.cell, I.free, I.freeC, I.pin, I.hok, I.len⟩
def Cp (X : Cx) (vs : List V) (H : Hp) (Q : VK) : Prop := ∃ (a : Addr) (ns : List Int), vs = [.ref a] /\ SqL X.K H a (ns.map V.int) /\ (∀ n ∈ ns, 0 <= n /\ n < 1024) /\ ns.length < 129 /\ ∀ (p : Addr) (ks : List Int), H p = none -> (∀ y, y ∈ ks ↔ y ∈ ns) -> ks.length <= ns.length -> Q (.ref p) (upd H p (qz X.w ks p))
theorem xK (hc : X.calm = true) : eL X (.type "set") (Cp X) := by
 intro pins s σ H vs us Q I r h
 obtain ⟨a, ns, rfl, hs, hb, hz, q⟩ := h
 obtain ⟨its, rv, hl, _⟩ := I.list hs
 rw [aV.ref1 r]
 have hi := rv.ints
 refine vM (I.ok.hd hc) hl.isList (by simpa using hi) hb (by omega) fun h' tk o ks k1 k2 k3 k4 k5 => ?_
 exact ⟨.ref _, upd H s.heap.objs.size (qz X.w ks _), I.laid k1 (C7 _) (sB k2 k3), rfl, q _ ks (I.hok.fresh (C7 _)) k4 k5⟩
theorem yA : OpR X (binaryOp .BitXor) (fun x y H Q => ∃ (a b : Addr) (ka kb : List Int), x = .ref a /\ y = .ref b /\ H a = some (qz X.w ka a) /\ H b = some (qz X.w kb b) /\ ka.length < 129 /\ kb.length < 129 /\ ∀ (p : Addr) (ks : List Int), H p = none -> (∀ y, y ∈ ks ↔ ¬ (y ∈ ka ↔ y ∈ kb)) -> Q (.ref p) (upd H p (qz X.w ks p))) := by
 intro pins s σ H x y v u Q I rx ry h
 obtain ⟨a, b, ka, kb, rfl, rfl, ha, hb, za, zb, q⟩ := h
 cases rx
 cases ry
 obtain ⟨oa, ga, sa⟩ := oh I ha
 obtain ⟨ob, gb, sb⟩ := oh I hb
 exact SX.xor_op ga sa gb sb za zb fun h' d o' ks' k1 k2 k3 k4 => ⟨.ref _, upd H s.heap.objs.size (qz X.w ks' _), (I.laid (t' := s.toks) k1 (C7 _) (sB k2 k3)).drew d, rfl, q _ ks' (I.hok.fresh (C7 _)) k4⟩
theorem mZ (hc : X.calm = true) : eL X (.builtin "sorted") (fun vs H Q => ∃ (a : Addr) (ks : List Int), vs = [.ref a] /\ H a = some (qz X.w ks a) /\ ∀ (p : Addr) (ns : List Int), H p = none -> ks.Nodup -> ns.Perm ks -> ns.Pairwise (· <= ·) -> Q (.ref p) (upd H p (.lst (ns.map V.int)))) := by
 intro pins s σ H vs us Q I r h
 obtain ⟨a, ks, rfl, ha, q⟩ := h
 rw [aV.ref1 r]
 obtain ⟨o, g, so⟩ := oh I ha
 obtain ⟨lt, nd⟩ : ks.length < 1000 /\ ks.Nodup := by obtain ⟨_, _, _, _, _, nd, _, lt, _⟩ := so; exact ⟨lt, nd⟩
 refine qx (I.ok.hd hc) g so fun s1 h' out c ns k1 k2 k3 k4 k5 k6 k7 k8 k9 => ?_
 have I1 : Inv X pins σ H s1 := by
  have := (I.kept (t' := s1.toks) k1).drew s1.drawn
  obtain ⟨hp, gn, dr, tk, os⟩ := s1
  cases k2
  cases k3
  exact this
 exact ⟨.ref _, upd H s1.heap.objs.size (.lst (ns.map V.int)), I1.laid (t' := s1.toks) k5 (C7 _) ⟨by rw [CP, k8.length_eq, sizeLine_eq]; omega, out.toList, c, dj k7, k6⟩, rfl, q _ ns (I1.hok.fresh (C7 _)) nd k8 k9⟩
end
end L2
end
section
namespace PM
open Rol
def tk (w : Nat) (x : Row) : List Int := (Row.tracks w x).map fun t : Nat => (t : Int)
theorem aN {w : Nat} {x : Row} {t : Nat} : t ∈ Row.tracks w x ↔ t < w /\ Nat.testBit x t = true := by
 unfold Row.tracks Row.hole
 rw [List.mem_filter, List.mem_range]
theorem eQ {w : Nat} {x : Row} {z : Int} : z ∈ tk w x ↔ ∃ t : Nat, z = (t : Int) /\ t < w /\ Nat.testBit x t = true := by
 unfold tk
 rw [List.mem_map]
 constructor
 ·rintro ⟨t, h, e⟩
  exact ⟨t, e.symm, aN.mp h⟩
 ·rintro ⟨t, e, h⟩
  exact ⟨t, aN.mpr h, e.symm⟩
theorem jQ {w : Nat} {x : Row} {t : Nat} : (t : Int) ∈ tk w x ↔ t < w /\ Nat.testBit x t = true := by
 rw [eQ]
 constructor
 ·rintro ⟨u, e, h⟩
  have : t = u := by omega
  rw [this]
  exact h
 ·intro h
  exact ⟨t, rfl, h⟩
theorem cH (w : Nat) (x : Row) : (Row.tracks w x).Pairwise (· < ·) := List.pairwise_lt_range.sublist List.filter_sublist
theorem gA (w : Nat) (x : Row) : (tk w x).Pairwise (· < ·) := by
 unfold tk
 rw [List.pairwise_map]
 exact (cH w x).imp fun h => by omega
theorem jR (w : Nat) (x : Row) : (tk w x).length = (Row.tracks w x).length := by unfold tk; rw [CP]
theorem kt (w : Nat) (x : Row) : (tk w x).length <= w := by
 rw [jR]
 have := List.length_filter_le (fun t => Row.hole x t) (List.range w)
 rw [List.length_range] at this
 exact this
theorem pk {w : Nat} {x : Row} (hw : w <= 128) {z : Int} (h : z ∈ tk w x) : 0 <= z /\ z < 1024 := by
 obtain ⟨t, rfl, h, _⟩ := eQ.mp h
 omega
theorem iA {x i w : Nat} (hx : x < 2 ^ w) (h : w <= i) : Nat.testBit x i = false := Nat.testBit_lt_two_pow (Dl hx (Nat.pow_le_pow_right (by decide) h))
theorem rK {w : Nat} {x y : Row} (hx : x < 2 ^ w) (hy : y < 2 ^ w) (h : tk w x = tk w y) : x = y := by
 apply Nat.eq_of_testBit_eq
 intro i
 by_cases c : i < w
 ·have q : (i : Int) ∈ tk w x ↔ (i : Int) ∈ tk w y := by rw [h]
  rw [jQ, jQ] at q
  cases h1 : Nat.testBit x i <;> cases h2 : Nat.testBit y i <;> simp [h1, h2, c] at q ⊢
 ·rw [iA hx (Nat.le_of_not_lt c), iA hy (Nat.le_of_not_lt c)]
theorem ee : ∀ {a b : List Int}, a.Pairwise (· < ·) -> b.Pairwise (· < ·) -> (∀ z, z ∈ a ↔ z ∈ b) -> a = b
 | [], [], _, _, _ => rfl
 | [], y :: s, _, _, h => absurd ((h y).mpr (C3 ..)) (by simp)
 | x :: r, [], _, _, h => absurd ((h x).mp (C3 ..)) (by simp)
 | x :: r, y :: s, ha, hb, h => by
  rw [List.pairwise_cons] at ha hb
  have e : x = y := by
   rcases C5.mp ((h x).mp (C3 ..)) with z | z
   ·exact z
   ·rcases C5.mp ((h y).mpr (C3 ..)) with z' | z'
    ·exact z'.symm
    ·have := hb.1 x z
     have := ha.1 y z'
     omega
  subst e
  rw [ee ha.2 hb.2 fun z => ?_]
  constructor
  ·intro hz
   rcases C5.mp ((h z).mp (C2 _ hz)) with q | q
   ·have := ha.1 z hz
    omega
   ·exact q
  ·intro hz
   rcases C5.mp ((h z).mpr (C2 _ hz)) with q | q
   ·have := hb.1 z hz
    omega
   ·exact q
theorem sT {a : List Int} (h : a.Pairwise (· <= ·)) (n : a.Nodup) : a.Pairwise (· < ·) := by
 have := h.and n
 exact this.imp fun q => by omega
def unl (w : Nat) (x y : Row) : List Nat := (List.range w).filter fun t => Row.hole x t != Row.hole y t
theorem oU {w : Nat} {x y : Row} {t : Nat} : t ∈ unl w x y ↔ t < w /\ Nat.testBit x t ≠ Nat.testBit y t := by
 unfold unl Row.hole
 rw [List.mem_filter, List.mem_range]
 simp
theorem zI {w : Nat} {x y : Row} {ks ns : List Int} (hk : ks.Nodup) (mem : ∀ z, z ∈ ks ↔ ¬ (z ∈ tk w x ↔ z ∈ tk w y)) (p : ns.Perm ks) (s : ns.Pairwise (· <= ·)) : ns = (unl w x y).map fun t : Nat => (t : Int) := by
 have hu : ((unl w x y).map fun t : Nat => (t : Int)).Pairwise (· < ·) := by
  rw [List.pairwise_map]
  exact (List.pairwise_lt_range.sublist List.filter_sublist).imp fun h => by omega
 refine ee (sT s (p.nodup_iff.mpr hk)) hu fun z => ?_
 rw [p.mem_iff, mem z, List.mem_map]
 constructor
 ·intro h
  have : ∃ t : Nat, z = (t : Int) := by
   by_cases c : z ∈ tk w x
   ·obtain ⟨t, e, _⟩ := eQ.mp c
    exact ⟨t, e⟩
   ·by_cases d : z ∈ tk w y
    ·obtain ⟨t, e, _⟩ := eQ.mp d
     exact ⟨t, e⟩
    ·exact absurd ⟨fun q => absurd q c, fun q => absurd q d⟩ h
  obtain ⟨t, rfl⟩ := this
  rw [jQ, jQ] at h
  refine ⟨t, oU.mpr ?_, rfl⟩
  by_cases c : t < w
  ·refine ⟨c, fun q => h ?_⟩
   rw [q]
  ·exact absurd ⟨fun q => absurd q.1 c, fun q => absurd q.1 c⟩ h
 ·rintro ⟨t, h, rfl⟩
  rw [oU] at h
  rw [jQ, jQ]
  intro q
  apply h.2
  have q' : Nat.testBit x t = true ↔ Nat.testBit y t = true := ⟨fun z => (q.mp ⟨h.1, z⟩).2, fun z => (q.mpr ⟨h.1, z⟩).2⟩
  cases h1 : Nat.testBit x t <;> cases h2 : Nat.testBit y t <;> simp [h1, h2] at q' ⊢
theorem vy {w : Nat} {x y : Row} (hx : x < 2 ^ w) (hy : y < 2 ^ w) (ne : x ≠ y) : ∃ t r, unl w x y = t :: r /\ ((List.range w).find? fun t => Row.hole x t != Row.hole y t).getD w = t := by
 have : unl w x y ≠ [] := fun e => ne (Nat.eq_of_testBit_eq fun i => by
  by_cases c : i < w
  ·by_cases d : Nat.testBit x i = Nat.testBit y i
   ·exact d
   ·have : i ∈ unl w x y := oU.mpr ⟨c, d⟩
    rw [e] at this
    cases this
  ·rw [iA hx (Nat.le_of_not_lt c), iA hy (Nat.le_of_not_lt c)])
 obtain ⟨t, r, e⟩ := List.exists_cons_of_ne_nil this
 refine ⟨t, r, e, ?_⟩
 have h : ((List.range w).filter fun t => Row.hole x t != Row.hole y t).head? = some t := by
  show (unl w x y).head? = _
  rw [e]
  rfl
 rw [List.head?_filter] at h
 rw [h]
 rfl
def bump (c : Nat) : List (Nat × Row) -> List (Nat × Row)
 | [] => []
 | (n, y) :: l => (n + c, y) :: l
theorem nj : ∀ l, bump 0 l = l
 | [] => rfl
 | (n, y) :: l => rfl
theorem mh (x : Row) (r : List Row) : ∃ n l, runs (x :: r) = (n, x) :: l := by
 unfold runs
 split
 ·exact ⟨1, [], rfl⟩
 ·rename_i n y l e
  by_cases c : x = y
  ·rw [if_pos c, c]
   exact ⟨_, _, rfl⟩
  ·rw [if_neg c]
   exact ⟨_, _, rfl⟩
theorem sN (c : Nat) (x : Row) (r : List Row) : bump c (runs (x :: x :: r)) = bump (c + 1) (runs (x :: r)) := by
 obtain ⟨n, l, e⟩ := mh x r
 have : runs (x :: x :: r) = (n + 1, x) :: l := by
  rw [runs, e]
  simp
 rw [this, e]
 show (n + 1 + c, x) :: l = (n + (c + 1), x) :: l
 rw [Nat.add_assoc, Nat.add_comm 1 c]
theorem qA (c : Nat) {x y : Row} (r : List Row) (ne : x ≠ y) : bump c (runs (x :: y :: r)) = (c + 1, x) :: runs (y :: r) := by
 obtain ⟨n, l, e⟩ := mh y r
 have : runs (x :: y :: r) = (1, x) :: (n, y) :: l := by
  rw [runs, e]
  simp [ne]
 rw [this, e]
 show (1 + c, x) :: _ = _
 rw [Nat.add_comm]
theorem vU (c : Nat) (x : Row) : bump c (runs [x]) = [(c + 1, x)] := by
 show [(1 + c, x)] = _
 rw [Nat.add_comm]
theorem gk : ∀ (l : List Nat) (a : Nat), l.foldl (fun a b => a + b) a = a + (l.foldl (fun a b => a + b) 0)
 | [], a => rfl
 | x :: r, a => by
  rw [List.foldl_cons, List.foldl_cons, gk r (a + x), gk r (0 + x)]
  omega
theorem uD (s : Strip) : (s.rows.map fun x => ((tk s.wide x).length : Int)).sum = (s.holes : Nat) := by
 unfold Strip.holes
 generalize s.rows = l
 induction l with
 | nil => rfl
 | cons x r ih =>
  rw [List.map_cons, List.sum_cons, ih, List.map_cons, List.foldl_cons, gk _ (0 + _), jR]
  omega
theorem bO {α : Type} {l : List α} {i : Nat} {x : α} (h : l[i]? = some x) : l.drop i = x :: l.drop (i + 1) := by
 obtain ⟨hi, e⟩ := CY.mp h
 rw [<- List.getElem_cons_drop hi, e]
theorem uW {w i : Nat} {xs ys : List Row} {x : Row} (h1 : xs[i]? = some x) (h2 : ys[i]? = some x) : diffFrom w i (xs.drop i) (ys.drop i) = diffFrom w (i + 1) (xs.drop (i + 1)) (ys.drop (i + 1)) := by
 rw [bO h1, bO h2, diffFrom, if_pos rfl]
theorem uX {w i : Nat} {xs ys : List Row} {x y : Row} (h1 : xs[i]? = some x) (h2 : ys[i]? = some y) (hx : x < 2 ^ w) (hy : y < 2 ^ w) (ne : x ≠ y) : ∃ t r, unl w x y = t :: r /\ diffFrom w i (xs.drop i) (ys.drop i) = some (i, t) := by
 obtain ⟨t, r, e1, e2⟩ := vy hx hy ne
 exact ⟨t, r, e1, by rw [bO h1, bO h2, diffFrom, if_neg ne, e2]⟩
theorem wZ {w : Nat} {xs ys : List Row} : diffFrom w (min xs.length ys.length) (xs.drop (min xs.length ys.length)) (ys.drop (min xs.length ys.length)) = if xs.length = ys.length then none else some (min xs.length ys.length, w) := by
 rcases Nat.lt_trichotomy xs.length ys.length with h | h | h
 ·rw [if_neg (by omega), Nat.min_eq_left (by omega), List.drop_length]
  obtain ⟨y, l, e⟩ : ∃ y l, ys.drop xs.length = y :: l := List.exists_cons_of_ne_nil fun z => by
   have := List.drop_eq_nil_iff.mp z
   omega
  rw [e, diffFrom]
 ·rw [if_pos h, h, Nat.min_self, List.drop_length, <- h, List.drop_length, diffFrom]
 ·rw [if_neg (by omega), Nat.min_eq_right (by omega), List.drop_length]
  obtain ⟨y, l, e⟩ : ∃ y l, xs.drop ys.length = y :: l := List.exists_cons_of_ne_nil fun z => by
   have := List.drop_eq_nil_iff.mp z
   omega
  rw [e, diffFrom]
def o4 (s u : Strip) : List Int := match diffFrom s.wide 0 s.rows u.rows with
 | some p => [(p.1 : Int), (p.2 : Int)]
 | none => []
end PM
end
section
namespace PM
open Rol
def cW : Row -> List Row -> Row
 | p, [] => p
 | _, y :: r => cW y r
theorem qe (t : Nat) : ∀ l : List Row, holesFrom t l <= l.length
 | [] => C7 _
 | x :: r => by
  rw [holesFrom]
  have := qe t r
  split
  ·rw [CU]
   omega
  ·exact De _
theorem j5 (t : Nat) (x : Row) : ∀ l : List Row, holesFrom t (l ++ [x]) = if holesFrom t l = l.length /\ Row.hole x t = true then holesFrom t l + 1 else holesFrom t l
 | [] => by
  show holesFrom t [x] = _
  rw [holesFrom, holesFrom]
  by_cases c : Row.hole x t = true <;> simp [c, holesFrom]
 | y :: r => by
  show holesFrom t (y :: (r ++ [x])) = _
  rw [holesFrom, holesFrom, j5 t x r]
  by_cases c : Row.hole y t = true
  ·simp only [c, if_true, CU]
   by_cases d : holesFrom t r = r.length /\ Row.hole x t = true
   ·rw [if_pos d, if_pos ⟨by rw [d.1], d.2⟩]
   ·rw [if_neg d, if_neg (fun z => d ⟨by omega, z.2⟩)]
  ·simp only [c, if_false]
   rw [if_neg (by simp)]
   simp
def Bo (n : Nat) (x : Row) (a : Slot) : Slot := if a.first + a.len = n /\ Row.hole x a.track = true then { a with len := a.len + 1 } else a
def lq (x y : Row) : Row := x ^^^ (x &&& y)
theorem cz (x y : Row) (t : Nat) : Row.hole (lq x y) t = (Row.hole x t && !Row.hole y t) := by
 unfold lq Row.hole
 rw [Nat.testBit_xor, Nat.testBit_and]
 cases Nat.testBit x t <;> cases Nat.testBit y t <;> rfl
theorem jT (w : Nat) (x : Row) : ∀ (l : List Row) (i : Nat) (prev : Row), slotsFrom w i prev (l ++ [x]) = (slotsFrom w i prev l).map (Bo (i + l.length) x) ++ (Row.tracks w (lq x (cW prev l))).map fun t => ⟨t, i + l.length, 1⟩
 | [], i, prev => by
  show slotsFrom w i prev [x] = _
  rw [slotsFrom, slotsFrom, slotsFrom, Dq]
  show (Row.tracks w (lq x prev)).map _ = [] ++ (Row.tracks w (lq x prev)).map _
  rw [List.nil_append]
  refine List.map_congr_left fun t ht => ?_
  have h := (aN.mp ht).2
  have h' : Row.hole (lq x prev) t = true := h
  rw [cz, C4] at h'
  rw [holesFrom, if_pos h'.1, holesFrom]
  rfl
 | y :: r, i, prev => by
  show slotsFrom w i prev (y :: (r ++ [x])) = _
  rw [slotsFrom, slotsFrom, jT w x r (i + 1) y, Dj, Dr, CU, cW, show i + 1 + r.length = i + (r.length + 1) by omega]
  congr 1
  rw [List.map_map]
  refine List.map_congr_left fun t ht => ?_
  show (⟨t, i, holesFrom t (y :: r ++ [x])⟩ : Slot) = Bo (i + (r.length + 1)) x ⟨t, i, holesFrom t (y :: r)⟩
  rw [j5]
  unfold Bo
  dsimp only
  by_cases c : holesFrom t (y :: r) = (y :: r).length /\ Row.hole x t = true
  ·rw [if_pos c, if_pos ⟨by rw [c.1, CU], c.2⟩]
  ·rw [if_neg c, if_neg (fun z => c ⟨by rw [CU]; omega, z.2⟩)]
theorem iH (w : Nat) : ∀ (l : List Row) (i : Nat) (prev : Row) (a : Slot), a ∈ slotsFrom w i prev l -> i <= a.first /\ a.first + a.len <= i + l.length /\ a.track < w
 | [], i, prev, a, h => by
  rw [slotsFrom] at h
  cases h
 | y :: r, i, prev, a, h => by
  rw [slotsFrom] at h
  rcases Dh.mp h with z | z
  ·obtain ⟨t, ht, rfl⟩ := List.mem_map.mp z
   have := qe t (y :: r)
   exact ⟨C7 _, Nat.add_le_add_left this _, (aN.mp ht).1⟩
  ·have := iH w r (i + 1) y a z
   rw [CU]
   omega
theorem gE (w t : Nat) : ∀ (l : List Row) (i : Nat) (prev : Row), (∃ a ∈ slotsFrom w i prev l, a.track = t /\ a.first + a.len = i + l.length) ↔ (t < w /\ l ≠ [] /\ Row.hole (cW prev l) t = true /\ ¬ (Row.hole prev t = true /\ holesFrom t l = l.length))
 | [], i, prev => by
  rw [slotsFrom]
  simp
 | y :: r, i, prev => by
  have ih := gE w t r (i + 1) y
  rw [slotsFrom, cW]
  have e : i + (y :: r).length = i + 1 + r.length := by rw [CU]; omega
  constructor
  ·rintro ⟨a, ha, e1, e2⟩
   rcases Dh.mp ha with z | z
   ·obtain ⟨u, hu, rfl⟩ := List.mem_map.mp z
    dsimp only at e1 e2
    subst e1
    have hh : Row.hole (lq y prev) u = true := (aN.mp hu).2
    rw [cz, C4] at hh
    have full : holesFrom u (y :: r) = (y :: r).length := by omega
    refine ⟨(aN.mp hu).1, by simp, ?_, fun q => ?_⟩
    ·have : ∀ (l : List Row) (p : Row), Row.hole p u = true -> holesFrom u l = l.length -> Row.hole (cW p l) u = true := by
      intro l
      induction l with
      | nil => intro p hp _; exact hp
      | cons z s ih' =>
       intro p hp hf
       rw [cW]
       rw [holesFrom] at hf
       by_cases c : Row.hole z u = true
       ·rw [if_pos c, CU] at hf
        exact ih' z c (by omega)
       ·rw [if_neg c, CU] at hf
        omega
     refine this r y hh.1 ?_
     rw [holesFrom, if_pos hh.1, CU] at full
     omega
    ·rw [q.1] at hh
     exact absurd hh.2 (by decide)
   ·obtain ⟨k1, k2, k3, k4⟩ := ih.mp ⟨a, z, e1, by omega⟩
    refine ⟨k1, by simp, k3, fun q => ?_⟩
    have := q.2
    rw [holesFrom] at this
    by_cases c : Row.hole y t = true
    ·rw [if_pos c, CU] at this
     exact k4 ⟨c, by omega⟩
    ·rw [if_neg c, CU] at this
     omega
  ·rintro ⟨k1, _, k3, k4⟩
   by_cases c : r ≠ [] /\ ¬ (Row.hole y t = true /\ holesFrom t r = r.length)
   ·obtain ⟨a, z, e1, e2⟩ := ih.mpr ⟨k1, c.1, k3, c.2⟩
    exact ⟨a, List.mem_append_right _ z, e1, by omega⟩
   ·have c' : Row.hole y t = true /\ holesFrom t r = r.length := by
     by_cases d : r = []
     ·subst d
      exact ⟨k3, rfl⟩
     ·exact Decidable.byContradiction fun z => c ⟨d, z⟩
    have full : holesFrom t (y :: r) = (y :: r).length := by
     rw [holesFrom, if_pos c'.1, c'.2, CU]
    have np : Row.hole prev t = false := by
     cases q : Row.hole prev t with
     | false => rfl
     | true => exact absurd ⟨q, full⟩ k4
    refine ⟨⟨t, i, holesFrom t (y :: r)⟩, List.mem_append_left _ (List.mem_map.mpr ⟨t, aN.mpr ⟨k1, ?_⟩, rfl⟩), rfl, by rw [full]⟩
    show Row.hole (lq y prev) t = true
    rw [cz, c'.1, np]
    rfl
end PM
end
section
namespace PM
open Rol
def lR (L : List Slot) (n : Nat) : Prop := L.Pairwise fun a b => ¬ (a.track = b.track /\ a.first + a.len = n /\ b.first + b.len = n)
theorem pV (w : Nat) : ∀ (l : List Row) (i : Nat) (prev : Row), lR (slotsFrom w i prev l) (i + l.length)
 | [], i, prev => by
  rw [slotsFrom]
  exact List.Pairwise.nil
 | y :: r, i, prev => by
  have ih := pV w r (i + 1) y
  have e : i + (y :: r).length = i + 1 + r.length := by rw [CU]; omega
  rw [slotsFrom, e]
  refine List.pairwise_append.mpr ⟨?_, ih, ?_⟩
  ·rw [List.pairwise_map]
   exact (cH w _).imp fun h z => by
    have := z.1
    dsimp only at this
    omega
  ·intro a ha b hb z
   obtain ⟨t, ht, rfl⟩ := List.mem_map.mp ha
   obtain ⟨z1, z2, z3⟩ := z
   dsimp only at z1 z2
   have hh : Row.hole (lq y prev) t = true := (aN.mp ht).2
   rw [cz, C4] at hh
   obtain ⟨_, _, _, k4⟩ := (gE w t r (i + 1) y).mp ⟨b, hb, z1.symm, z3⟩
   refine k4 ⟨hh.1, ?_⟩
   rw [holesFrom, if_pos hh.1] at z2
   omega
theorem lR.uniq {L : List Slot} {n : Nat} (u : lR L n) {j k : Nat} {a b : Slot} (ha : L[j]? = some a) (hb : L[k]? = some b) (e : a.track = b.track) (ea : a.first + a.len = n) (eb : b.first + b.len = n) : j = k := by
 obtain ⟨h1, e1⟩ := CY.mp ha
 obtain ⟨h2, e2⟩ := CY.mp hb
 rcases Nat.lt_trichotomy j k with z | z | z
 ·have := List.pairwise_iff_getElem.mp u j k h1 h2 z
  rw [e1, e2] at this
  exact absurd ⟨e, ea, eb⟩ this
 ·exact z
 ·have := List.pairwise_iff_getElem.mp u k j h2 h1 z
  rw [e1, e2] at this
  exact absurd ⟨e.symm, eb, ea⟩ this
def dh (n : Nat) (D : List Nat) (a : Slot) : Slot := if a.first + a.len = n /\ a.track ∈ D then { a with len := a.len + 1 } else a
structure rg (L : List Slot) (n : Nat) (g : Nat -> Option Nat) : Prop where
 some_ : ∀ t j, g t = some j -> ∃ a, L[j]? = some a /\ a.track = t /\ a.first + a.len = n
 none_ : ∀ t, g t = none -> ∀ a ∈ L, ¬ (a.track = t /\ a.first + a.len = n)
def yS (n : Nat) (g : Nat -> Option Nat) (D : List Nat) : List Slot := (D.filter fun t => (g t).isNone).map fun t => ⟨t, n, 1⟩
def br (L : List Slot) (n : Nat) (g : Nat -> Option Nat) (D : List Nat) : List Slot := L.map (dh n D) ++ yS n g D
theorem uG (n : Nat) (L : List Slot) : L.map (dh n []) = L := by
 have : dh n [] = id := by
  funext a
  unfold dh
  rw [if_neg (by simp)]
  rfl
 rw [this, List.map_id]
theorem rQ (L : List Slot) (n : Nat) (g : Nat -> Option Nat) : br L n g [] = L := by
 unfold br yS
 rw [uG]
 simp
section
variable {L : List Slot} {n : Nat} {g : Nat -> Option Nat} {D : List Nat} {t : Nat}
theorem rR (G : rg L n g) (h : g t = none) : br L n g (D ++ [t]) = br L n g D ++ [⟨t, n, 1⟩] := by
 unfold br yS
 rw [List.filter_append, Dj, <- Dr]
 have e1 : L.map (dh n (D ++ [t])) = L.map (dh n D) := List.map_congr_left fun a ha => by
  unfold dh
  have := G.none_ t h a ha
  by_cases c : a.first + a.len = n /\ a.track ∈ D
  ·rw [if_pos c, if_pos ⟨c.1, List.mem_append_left _ c.2⟩]
  ·rw [if_neg c, if_neg fun z => ?_]
   rcases Dh.mp z.2 with q | q
   ·exact c ⟨z.1, q⟩
   ·exact this ⟨Db.mp q, z.1⟩
 rw [e1]
 simp [h]
theorem pz (h : g t = some j) (G : rg L n g) (ht : t ∉ D) : ∃ a, (br L n g D)[j]? = some a /\ a.track = t /\ a.first + a.len = n := by
 obtain ⟨a, e1, e2, e3⟩ := G.some_ t j h
 refine ⟨a, ?_, e2, e3⟩
 unfold br
 have hj : j < L.length := (CY.mp e1).1
 rw [List.getElem?_append_left (by rw [CP]; exact hj), C1, e1]
 show some (dh n D a) = _
 unfold dh
 rw [if_neg fun z => ht (e2 ▸ z.2)]
theorem vF {j : Nat} {a : Slot} (G : rg L n g) (U : lR L n) (h : g t = some j) (ht : t ∉ D) (ha : (br L n g D)[j]? = some a) : br L n g (D ++ [t]) = (br L n g D).set j { a with len := a.len + 1 } := by
 obtain ⟨b, e1, e2, e3⟩ := G.some_ t j h
 have hj : j < L.length := (CY.mp e1).1
 obtain ⟨a', q1, q2, q3⟩ := pz (D := D) h G ht
 have ea : a' = a := C8 (q1.symm.trans ha)
 subst ea
 have eb : a' = b := by
  have : (br L n g D)[j]? = some (dh n D b) := by
   unfold br
   rw [List.getElem?_append_left (by rw [CP]; exact hj), C1, e1]
   rfl
  have z := C8 (q1.symm.trans this)
  rw [z]
  unfold dh
  rw [if_neg fun z => ht (e2 ▸ z.2)]
 subst eb
 unfold br yS
 rw [List.set_append_left _ _ (by rw [CP]; exact hj), List.filter_append]
 have : (([t] : List Nat).filter fun t => (g t).isNone) = [] := by simp [h]
 rw [this, Dq]
 congr 1
 apply List.ext_getElem?
 intro k
 rw [C1, List.getElem?_set, C1, CP]
 by_cases c : j = k
 ·subst c
  rw [if_pos rfl, if_pos hj, e1]
  show some (dh n (D ++ [t]) a') = _
  unfold dh
  rw [if_pos ⟨e3, List.mem_append_right _ (by rw [e2]; exact Db.mpr rfl)⟩]
 ·rw [if_neg c]
  cases q : L[k]? with
  | none => rfl
  | some d =>
   show some (dh n (D ++ [t]) d) = some (dh n D d)
   unfold dh
   by_cases c2 : d.first + d.len = n /\ d.track ∈ D
   ·rw [if_pos c2, if_pos ⟨c2.1, List.mem_append_left _ c2.2⟩]
   ·rw [if_neg c2, if_neg fun z => ?_]
    rcases Dh.mp z.2 with q' | q'
    ·exact c2 ⟨z.1, q'⟩
    ·exact c (U.uniq e1 q (e2.trans (Db.mp q').symm) e3 z.1)
end
theorem rP {w : Nat} {l : List Row} {x : Row} {g : Nat -> Option Nat} (G : rg (slotsFrom w 0 0 l) l.length g) : br (slotsFrom w 0 0 l) l.length g (Row.tracks w x) = slotsFrom w 0 0 (l ++ [x]) := by
 rw [jT, Nat.zero_add]
 unfold br yS
 congr 1
 ·refine List.map_congr_left fun a ha => ?_
  have lt := (iH w l 0 0 a ha).2.2
  unfold dh Bo
  by_cases c : a.first + a.len = l.length /\ Row.hole x a.track = true
  ·rw [if_pos c, if_pos ⟨c.1, aN.mpr ⟨lt, c.2⟩⟩]
  ·rw [if_neg c, if_neg fun z => c ⟨z.1, (aN.mp z.2).2⟩]
 ·congr 1
  unfold Row.tracks
  rw [List.filter_filter]
  refine List.filter_congr fun t ht => ?_
  have lt := List.mem_range.mp ht
  rw [cz, Bool.and_comm]
  congr 1
  have op := gE w t l 0 0
  rw [Nat.zero_add] at op
  have z0 : Row.hole 0 t = false := by unfold Row.hole; exact Nat.zero_testBit t
  cases e : g t with
  | none =>
   have : ¬ Row.hole (cW 0 l) t = true := fun z => by
    have ne : l ≠ [] := fun q => by
     subst q
     rw [cW, z0] at z
     cases z
    obtain ⟨a, h1, h2, h3⟩ := op.mpr ⟨lt, ne, z, by rw [z0]; simp⟩
    exact G.none_ t e a h1 ⟨h2, h3⟩
   simp [this]
  | some j =>
   obtain ⟨a, h1, h2, h3⟩ := G.some_ t j e
   obtain ⟨_, _, k3, _⟩ := op.mp ⟨a, List.mem_of_getElem? h1, h2, h3⟩
   simp [k3]
theorem dk (w : Nat) (x : Row) : (Row.tracks w x).length <= w := by
 rw [<- jR]
 exact kt w x
theorem iG (w : Nat) : ∀ (l : List Row) (i : Nat) (prev : Row), (slotsFrom w i prev l).length <= w * l.length
 | [], i, prev => by
  rw [slotsFrom]
  exact De _
 | y :: r, i, prev => by
  rw [slotsFrom, CV, CP, CU, Nat.mul_add, Nat.mul_one]
  have := iG w r (i + 1) y
  have := dk w (y ^^^ (y &&& prev))
  omega
theorem rT (L : List Slot) (n : Nat) (g : Nat -> Option Nat) (D : List Nat) : (br L n g D).length <= L.length + D.length := by
 unfold br yS
 rw [CV, CP, CP]
 have := List.length_filter_le (fun t => (g t).isNone) D
 omega
theorem qR {w : Nat} {l : List Row} {x : Row} {g g' : Nat -> Option Nat} (hs : ∀ t j, g' t = some j -> t ∈ Row.tracks w x /\ ∃ a, (br (slotsFrom w 0 0 l) l.length g (Row.tracks w x))[j]? = some a /\ a.track = t /\ a.first + a.len = l.length + 1) (hn : ∀ t ∈ Row.tracks w x, (g' t).isSome = true) :
  rg (br (slotsFrom w 0 0 l) l.length g (Row.tracks w x)) (l.length + 1) g' where
 some_ := fun t j h => (hs t j h).2
 none_ := fun t h a ha z => by
  have nt : t ∉ Row.tracks w x := fun m => by
   have := hn t m
   rw [h] at this
   cases this
  unfold br yS at ha
  rcases Dh.mp ha with q | q
  ·obtain ⟨b, hb, rfl⟩ := List.mem_map.mp q
   have e := (iH w l 0 0 b hb).2.1
   unfold dh at z
   by_cases c : b.first + b.len = l.length /\ b.track ∈ Row.tracks w x
   ·rw [if_pos c] at z
    exact nt (z.1 ▸ c.2)
   ·rw [if_neg c] at z
    omega
  ·obtain ⟨u, hu, rfl⟩ := List.mem_map.mp q
   exact nt (z.1 ▸ (List.mem_filter.mp hu).1)
def flat (L : List Slot) : List Int := L.flatMap fun a => [(a.track : Int), (a.first : Int), (a.len : Int)]
theorem ck : ∀ L : List Slot, (flat L).length = 3 * L.length
 | [] => rfl
 | a :: r => by
  show ((a.track : Int) :: (a.first : Int) :: (a.len : Int) :: flat r).length = _
  rw [CU, CU, CU, ck r, CU]
  omega
theorem gQ : ∀ {L : List Slot} {j : Nat} {a : Slot}, L[j]? = some a -> (flat L)[3 * j]? = some (a.track : Int) /\ (flat L)[3 * j + 1]? = some (a.first : Int) /\ (flat L)[3 * j + 2]? = some (a.len : Int)
 | [], j, a, h => by simp at h
 | b :: r, 0, a, h => by
  have e : b = a := by simpa using h
  subst e
  exact ⟨rfl, rfl, rfl⟩
 | b :: r, j + 1, a, h => by
  have ih := gQ (L := r) (j := j) (a := a) (by simpa using h)
  have e : ∀ k, (flat (b :: r))[3 * (j + 1) + k]? = (flat r)[3 * j + k]? := fun k => by
   show ((b.track : Int) :: (b.first : Int) :: (b.len : Int) :: flat r)[3 * (j + 1) + k]? = _
   rw [show 3 * (j + 1) + k = 3 * j + k + 1 + 1 + 1 by omega, List.getElem?_cons_succ, List.getElem?_cons_succ, List.getElem?_cons_succ]
  exact ⟨(e 0).trans ih.1, (e 1).trans ih.2.1, (e 2).trans ih.2.2⟩
theorem qk : ∀ {L : List Slot} {j : Nat} {a : Slot} (m : Nat), L[j]? = some a -> flat (L.set j { a with len := m }) = (flat L).set (3 * j + 2) (m : Int)
 | [], j, a, m, h => by simp at h
 | b :: r, 0, a, m, h => by
  have e : b = a := by simpa using h
  subst e
  rfl
 | b :: r, j + 1, a, m, h => by
  have ih := qk (L := r) (j := j) (a := a) m (by simpa using h)
  show (b.track : Int) :: (b.first : Int) :: (b.len : Int) :: flat (r.set j { a with len := m }) = ((b.track : Int) :: (b.first : Int) :: (b.len : Int) :: flat r).set (3 * (j + 1) + 2) _
  rw [ih, show 3 * (j + 1) + 2 = 3 * j + 2 + 1 + 1 + 1 by omega, List.set_cons_succ, List.set_cons_succ, List.set_cons_succ]
theorem uR (L : List Slot) (a : Slot) : flat (L ++ [a]) = flat L ++ [(a.track : Int), (a.first : Int), (a.len : Int)] := by
 unfold flat
 rw [List.flatMap_append]
 rfl
theorem zd (L : List Slot) : flat L = (L.flatMap slotRow).map fun n : Nat => (n : Int) := by
 unfold flat
 rw [List.map_flatMap]
 rfl
end PM
end
section
namespace PM
open Rol
def jD (L : List Slot) (e : Nat -> Option Nat) : Prop := ∀ t, match e t with
 | none => ∀ b ∈ L, b.track ≠ t
 | some z => (∃ b ∈ L, b.track = t /\ b.first + b.len = z) /\ ∀ b ∈ L, b.track = t -> b.first + b.len <= z
def mX (n w : Nat) (L : List Slot) (a : Slot) : Prop := Slot.inside n w a = true /\ (L.reverse.head?.all fun b => Slot.before b a) = true /\ (L.reverse.all fun b => Slot.apart b a) = true
theorem xP {n w : Nat} {L : List Slot} {j : Nat} {a : Slot} (h : L[j]? = some a) (f : mX n w (L.take j) a) : badSlot n w j (L.take j).reverse (L.drop j) = badSlot n w (j + 1) (L.take (j + 1)).reverse (L.drop (j + 1)) := by
 have e : L.take (j + 1) = L.take j ++ [a] := by rw [List.take_add_one, h]; rfl
 unfold mX at f
 rw [bO h, badSlot, if_pos f, e, List.reverse_append]
 rfl
theorem xf {n w : Nat} {L : List Slot} {j : Nat} {a : Slot} (h : L[j]? = some a) (f : ¬ mX n w (L.take j) a) : badSlot n w j (L.take j).reverse (L.drop j) = some j := by
 unfold mX at f
 rw [bO h, badSlot, if_neg f]
theorem eD {n w : Nat} {a : Slot} : Slot.inside n w a = true ↔ ¬ (w <= a.track ∨ a.first + a.len = a.first ∨ n < a.first + a.len) := by
 unfold Slot.inside
 simp only [C4, C9]
 omega
theorem gr {L : List Slot} {e : Nat -> Option Nat} (E : jD L e) {a : Slot} : (L.reverse.all fun b => Slot.apart b a) = true ↔ ∀ z, e a.track = some z -> z < a.first := by
 have ap : ∀ b, Slot.apart b a = true ↔ (b.track = a.track -> b.first + b.len < a.first) := fun b => by
  unfold Slot.apart
  simp only [Bool.or_eq_true, bne_iff_ne, C9]
  constructor
  ·rintro (h | h) q
   ·exact absurd q h
   ·exact h
  ·intro h
   by_cases c : b.track = a.track
   ·exact .inr (h c)
   ·exact .inl c
 rw [List.all_eq_true]
 have E' := E a.track
 constructor
 ·intro h z hz
  rw [hz] at E'
  obtain ⟨⟨b, hb, b1, b2⟩, _⟩ := E'
  have := (ap b).mp (h b (List.mem_reverse.mpr hb)) b1
  omega
 ·intro h b hb
  rw [ap b]
  intro q
  have hb := List.mem_reverse.mp hb
  cases c : e a.track with
  | none =>
   rw [c] at E'
   exact absurd q (E' b hb)
  | some z =>
   rw [c] at E'
   have := E'.2 b hb q
   have := h z c
   omega
theorem ql {L : List Slot} {e : Nat -> Option Nat} (E : jD L e) {a : Slot} (h : ∀ z, e a.track = some z -> z < a.first) : jD (L ++ [a]) fun t => if t = a.track then some (a.first + a.len) else e t := fun t => by
 have E' := E t
 dsimp only
 by_cases c : t = a.track
 ·rw [if_pos c]
  dsimp only
  refine ⟨⟨a, List.mem_append_right _ (Db.mpr rfl), c.symm, rfl⟩, fun b hb q => ?_⟩
  rcases Dh.mp hb with z | z
  ·cases k : e t with
   | none =>
    rw [k] at E'
    exact absurd q (E' b z)
   | some y =>
    rw [k] at E'
    have := E'.2 b z q
    have := h y (by rw [<- c]; exact k)
    omega
  ·rw [Db.mp z]
   exact C7 _
 ·rw [if_neg c]
  have ne : a.track ≠ t := fun z => c z.symm
  cases k : e t with
  | none =>
   rw [k] at E'
   intro b hb
   rcases Dh.mp hb with z | z
   ·exact E' b z
   ·rw [Db.mp z]
    exact ne
  | some y =>
   rw [k] at E'
   obtain ⟨⟨b, hb, q⟩, E'⟩ := E'
   refine ⟨⟨b, List.mem_append_left _ hb, q⟩, fun d hd q' => ?_⟩
   rcases Dh.mp hd with z | z
   ·exact E' d z q'
   ·rw [Db.mp z] at q'
    exact absurd q' ne
theorem wS : jD [] fun _ => none := fun t b hb => by cases hb
theorem mK {L : List Slot} {j : Nat} {b : Slot} (h : L[j]? = some b) : (L.take (j + 1)).reverse.head? = some b := by
 rw [List.take_add_one, h]
 simp
theorem ra {a b : Slot} : Slot.before b a = true ↔ (b.first < a.first ∨ (b.first = a.first /\ b.track < a.track)) := by
 unfold Slot.before
 simp only [Bool.or_eq_true, C4, beq_iff_eq, C9]
end PM
end
section
namespace PM
open Rol
theorem jq {n w : Nat} : ∀ (r : List Slot) (i : Nat) (l : List Slot), badSlot n w i l r = none -> ∀ (k : Nat) (a : Slot), r[k]? = some a -> Slot.inside n w a = true /\ (((r.take k).reverse ++ l).all fun b => Slot.apart b a) = true
 | [], i, l, _, k, a, e => by simp at e
 | b :: r, i, l, h, k, a, e => by
  rw [badSlot] at h
  split at h
  ·rename_i c
   cases k with
   | zero =>
    have : b = a := by simpa using e
    subst this
    exact ⟨c.1, c.2.2⟩
   | succ k =>
    have := jq r (i + 1) (b :: l) h k a (by simpa using e)
    rw [List.take_succ_cons, List.reverse_cons, Dr]
    exact this
  ·cases h
structure B0 (n w : Nat) (L : List Slot) : Prop where
 ins : ∀ a ∈ L, 1 <= a.len /\ a.track < w /\ a.first + a.len <= n
 apart : L.Pairwise fun a b => a.track = b.track -> a.first + a.len < b.first
theorem yZ {n w : Nat} {L : List Slot} (h : badSlot n w 0 [] L = none) : B0 n w L where
 ins := fun a ha => by
  obtain ⟨k, hk, e⟩ := List.getElem_of_mem ha
  have := (jq L 0 [] h k a (by rw [Dg hk, e])).1
  unfold Slot.inside at this
  simp only [C4, C9] at this
  exact this
 apart := by
  rw [List.pairwise_iff_getElem]
  intro i j hi hj lt e
  have := (jq L 0 [] h j L[j] (Dg hj)).2
  rw [Dq, List.all_eq_true] at this
  have z := this L[i] (List.mem_reverse.mpr (by rw [List.mem_take_iff_getElem]; exact ⟨i, by omega, rfl⟩))
  unfold Slot.apart at z
  simp only [Bool.or_eq_true, bne_iff_ne, C9] at z
  rcases z with z | z
  ·exact absurd e z
  ·exact z
def jw (k : Nat) (a : Slot) : Bool := decide (a.first <= k) && decide (k < a.first + a.len)
def given (L : List Slot) (k : Nat) : List Int := (L.filter (jw k)).map fun a => (a.track : Int)
def cj (L : List Slot) (a : Slot) (m k : Nat) : List Int := given L k ++ if a.first <= k /\ k < a.first + m then [(a.track : Int)] else []
theorem oW (L : List Slot) (a : Slot) : cj L a 0 = given L := by
 funext k
 unfold cj
 rw [if_neg (by omega), Dq]
theorem qS (L : List Slot) (a : Slot) : cj L a a.len = given (L ++ [a]) := by
 funext k
 unfold cj given
 rw [List.filter_append, Dj]
 congr 1
 unfold jw
 by_cases c : a.first <= k /\ k < a.first + a.len
 ·rw [if_pos c]
  simp [c]
 ·rw [if_neg c]
  have : (decide (a.first <= k) && decide (k < a.first + a.len)) = false := by
   cases e : (decide (a.first <= k) && decide (k < a.first + a.len)) with
   | false => rfl
   | true =>
    simp only [C4, C9] at e
    exact absurd e c
  simp [List.filter_cons, this]
theorem oX (L : List Slot) (a : Slot) (m : Nat) : cj L a (m + 1) = fun k => if k = a.first + m then cj L a m k ++ [(a.track : Int)] else cj L a m k := by
 funext k
 unfold cj
 by_cases c : k = a.first + m
 ·rw [if_pos c, if_pos (by omega), if_neg (by omega), Dq]
 ·rw [if_neg c]
  by_cases d : a.first <= k /\ k < a.first + m
  ·rw [if_pos d, if_pos (by omega)]
  ·rw [if_neg d, if_neg (by omega)]
theorem wN (L : List Slot) (k : Nat) : (given L k).length <= L.length := by
 unfold given
 rw [CP]
 exact List.length_filter_le _ _
theorem uI (L : List Slot) (a : Slot) (m k : Nat) : (cj L a m k).length <= L.length + 1 := by
 unfold cj
 have := wN L k
 rw [CV]
 split <;> simp <;> omega
theorem Ap {x t u : Nat} : Nat.testBit (x ||| 2 ^ t) u = (Nat.testBit x u || decide (t = u)) := by
 rw [Nat.testBit_or, Nat.testBit_two_pow]
def gJ (w : Nat) (L : List Slot) (k : Nat) : Row := L.foldl (fun x a => if a.track < w /\ a.first <= k /\ k < a.first + a.len then x ||| 2 ^ a.track else x) 0
theorem qj (w k u : Nat) : ∀ (L : List Slot) (x : Row), Nat.testBit (L.foldl (fun x a => if a.track < w /\ a.first <= k /\ k < a.first + a.len then x ||| 2 ^ a.track else x) x) u = true ↔ (Nat.testBit x u = true ∨ ∃ a ∈ L, a.track = u /\ u < w /\ jw k a = true)
 | [], x => by simp
 | a :: r, x => by
  rw [List.foldl_cons, qj w k u r]
  by_cases c : a.track < w /\ a.first <= k /\ k < a.first + a.len
  ·rw [if_pos c, Ap, Bool.or_eq_true, C9]
   constructor
   ·rintro ((h | h) | ⟨b, hb, h⟩)
    ·exact .inl h
    ·exact .inr ⟨a, C3 .., h, by omega, by unfold jw; simp [c]⟩
    ·exact .inr ⟨b, C2 _ hb, h⟩
   ·rintro (h | ⟨b, hb, h⟩)
    ·exact .inl (.inl h)
    ·rcases C5.mp hb with z | z
     ·subst z
      exact .inl (.inr h.1)
     ·exact .inr ⟨b, z, h⟩
  ·rw [if_neg c]
   constructor
   ·rintro (h | ⟨b, hb, h⟩)
    ·exact .inl h
    ·exact .inr ⟨b, C2 _ hb, h⟩
   ·rintro (h | ⟨b, hb, h1, h2, h3⟩)
    ·exact .inl h
    ·rcases C5.mp hb with z | z
     ·subst z
      unfold jw at h3
      simp only [C4, C9] at h3
      exact absurd ⟨by omega, h3⟩ c
     ·exact .inr ⟨b, z, h1, h2, h3⟩
theorem oz {w : Nat} {L : List Slot} {k u : Nat} : Nat.testBit (gJ w L k) u = true ↔ ∃ a ∈ L, a.track = u /\ u < w /\ jw k a = true := by
 unfold gJ
 rw [qj]
 simp [Nat.zero_testBit]
theorem Aa (w : Nat) (L : List Slot) (k : Nat) : gJ w L k < 2 ^ w := Nat.lt_pow_two_of_testBit _ fun i hi => by
 cases e : Nat.testBit (gJ w L k) i with
 | false => rfl
 | true =>
  obtain ⟨a, _, _, lt, _⟩ := oz.mp e
  omega
theorem uS (n w : Nat) (L : List Slot) : fill n w L = ⟨w, (List.range n).map (gJ w L)⟩ := rfl
theorem oY {n w : Nat} {L : List Slot} (g : B0 n w L) (k : Nat) : (given L k).Nodup := by
 unfold given
 rw [List.Nodup, List.pairwise_map, List.pairwise_filter]
 refine g.apart.imp fun {a b} h ha hb e => ?_
 unfold jw at ha hb
 simp only [C4, C9] at ha hb
 have := h (by omega)
 omega
theorem mL {n w : Nat} {L : List Slot} (g : B0 n w L) (k : Nat) {ns : List Int} (p : ns.Perm (given L k)) (s : ns.Pairwise (· <= ·)) : ns = tk w (gJ w L k) := by
 refine ee (sT s (p.nodup_iff.mpr (oY g k))) (gA _ _) fun z => ?_
 rw [p.mem_iff, eQ]
 unfold given
 rw [List.mem_map]
 constructor
 ·rintro ⟨a, ha, rfl⟩
  obtain ⟨h1, h2⟩ := List.mem_filter.mp ha
  have lt := (g.ins a h1).2.1
  exact ⟨a.track, rfl, lt, oz.mpr ⟨a, h1, rfl, lt, h2⟩⟩
 ·rintro ⟨t, rfl, lt, hb⟩
  obtain ⟨a, h1, h2, _, h3⟩ := oz.mp hb
  exact ⟨a, List.mem_filter.mpr ⟨h1, h3⟩, by rw [h2]⟩
end PM
end
section
namespace PH
open PySem PySem.Spec PyProof.Rows L2 PM
def top (i : Nat) : Stmt := PySem.Challenge.pw_punchhall_s01_answers.main.body.getD i (.Pass ⟨0, 0, 0, 0⟩)
abbrev gH : Stmt := dJ (top 3) 0
abbrev ow : Stmt := top 4
abbrev dY : Stmt := top 5
abbrev cN : Stmt := top 6
abbrev cK : Stmt := top 7
abbrev bT : Stmt := top 8
abbrev kR : Stmt := top 9
abbrev dU : Stmt := top 10
abbrev pI : Stmt := top 11
abbrev fT : Stmt := top 12
abbrev yn : Stmt := top 13
abbrev cM : Stmt := top 18
abbrev bB : Stmt := top 19
abbrev dW : Stmt := top 20
abbrev dX : Stmt := top 21
abbrev dB : Stmt := top 22
abbrev kT : Stmt := top 24
abbrev cq : Stmt := top 25
abbrev kW : Stmt := top 26
abbrev bz : Stmt := top 27
abbrev iM : Stmt := top 35
abbrev bL : Stmt := dJ (top 36) 0
abbrev eY : Stmt := dJ (top 37) 0
abbrev dv : Stmt := dJ (top 37) 1
abbrev eX : Stmt := dJ (top 37) 2
abbrev eW : Stmt := dJ (top 37) 3
abbrev bK : Stmt := dJ (top 37) 4
abbrev bJ : Stmt := dJ (top 37) 5
abbrev iO : Stmt := top 38
abbrev kQ : Stmt := top 39
abbrev du : Stmt := top 40
abbrev kS : Stmt := top 41
abbrev eV : Stmt := top 42
abbrev ox : Stmt := top 53
abbrev dw : Stmt := top 54
abbrev dA : Stmt := top 55
abbrev yo : Stmt := top 56
abbrev fb : Stmt := top 57
abbrev eZ : Stmt := top 58
abbrev e8 : Stmt := top 59
abbrev gI : Stmt := top 60
abbrev dG : Stmt := top 61
abbrev dC : Stmt := top 62
abbrev fg : Stmt := top 63
abbrev fh : Stmt := top 64
abbrev cO : Stmt := top 65
abbrev dF : Stmt := top 66
abbrev fc : Stmt := top 67
abbrev cr : Stmt := top 68
abbrev dE : Stmt := top 69
abbrev fj : Stmt := top 70
abbrev dD : Stmt := top 71
abbrev fV : Stmt := top 75
abbrev bH : Stmt := top 76
abbrev bZ : Stmt := top 77
abbrev kX : Stmt := top 78
def iV (l : List Int) : List V := l.map V.int
def sf (w : Nat) (p : Addr) : List (Str × V) := gZ "rows" (.ref p) (gZ "width" (.int w) [])
theorem sy (w : Nat) (p : Addr) : (sf w p).lookup ("width" : Str) = some (.int w) := by
 unfold sf
 rw [aZ, if_neg (by decide +kernel), aZ, if_pos rfl]
theorem jF (w : Nat) (p : Addr) : (sf w p).lookup ("rows" : Str) = some (.ref p) := by
 unfold sf
 rw [aZ, if_pos rfl]
def az (H : Hp) (w : Nat) : List Addr -> List Rol.Row -> Prop
 | [], [] => True
 | r :: rs, x :: xs => H r = some (.lst (iV (tk w x))) /\ az H w rs xs
 | _, _ => False
theorem az.same {H H' : Hp} {w : Nat} (s : aq H H') : ∀ {rs : List Addr} {xs : List Rol.Row}, az H w rs xs -> az H' w rs xs
 | [], [], _ => trivial
 | r :: rs, x :: xs, h => ⟨s _ _ h.1, az.same s h.2⟩
 | [], _ :: _, h => h.elim
 | _ :: _, [], h => h.elim
theorem az.length {H : Hp} {w : Nat} : ∀ {rs : List Addr} {xs : List Rol.Row}, az H w rs xs -> rs.length = xs.length
 | [], [], _ => rfl
 | r :: rs, x :: xs, h => by rw [CU, CU, h.2.length]
 | [], _ :: _, h => h.elim
 | _ :: _, [], h => h.elim
theorem az.at_ {H : Hp} {w : Nat} : ∀ {rs : List Addr} {xs : List Rol.Row} {i : Nat} {x : Rol.Row}, az H w rs xs -> xs[i]? = some x -> ∃ r, rs[i]? = some r /\ H r = some (.lst (iV (tk w x)))
 | [], [], i, x, _, e => by simp at e
 | r :: rs, y :: xs, 0, x, h, e => by
  have : y = x := by simpa using e
  subst this
  exact ⟨r, rfl, h.1⟩
 | r :: rs, y :: xs, i + 1, x, h, e => by
  obtain ⟨q, e1, e2⟩ := az.at_ h.2 (i := i) (x := x) (by simpa using e)
  exact ⟨q, by simpa using e1, e2⟩
 | [], _ :: _, _, _, h, _ => h.elim
 | _ :: _, [], _, _, h, _ => h.elim
theorem az.append {H : Hp} {w : Nat} : ∀ {rs qs : List Addr} {xs ys : List Rol.Row}, az H w rs xs -> az H w qs ys -> az H w (rs ++ qs) (xs ++ ys)
 | [], _, [], _, _, h => h
 | r :: rs, _, x :: xs, _, h, h' => ⟨h.1, az.append h.2 h'⟩
 | [], _, _ :: _, _, h, _ => h.elim
 | _ :: _, _, [], _, h, _ => h.elim
theorem az.item {H : Hp} {w : Nat} {rs : List Addr} {xs : List Rol.Row} {i : Nat} {v : V} (h : az H w rs xs) (e : (rs.map V.ref)[i]? = some v) : ∃ r x, v = .ref r /\ rs[i]? = some r /\ xs[i]? = some x /\ H r = some (.lst (iV (tk w x))) := by
 have hi : i < rs.length := by
  obtain ⟨q, _⟩ := CY.mp e
  rwa [CP] at q
 have hx : xs[i]? = some (xs[i]'(by rw [<- h.length]; exact hi)) := Dg _
 obtain ⟨r, e1, e2⟩ := h.at_ hx
 rw [C1, e1] at e
 exact ⟨r, _, (C8 e).symm, e1, hx, e2⟩
theorem aR {α β : Type} (f : α -> β) {l : List α} {i : Nat} {x : α} (h : l[i]? = some x) : (l.take (i + 1)).map f = (l.take i).map f ++ [f x] := by
 rw [List.take_add_one, h]
 simp
def aY (C : Addr) (H : Hp) (a : Addr) (s : Rol.Strip) : Prop := Rol.Strip.ok s = true /\ ∃ dx p rs, H a = some (.ins C dx (sf s.wide p)) /\ H p = some (.lst (rs.map V.ref)) /\ az H s.wide rs s.rows
theorem aY.same {C : Addr} {H H' : Hp} {a : Addr} {s : Rol.Strip} (k : aq H H') (h : aY C H a s) : aY C H' a s := by
 obtain ⟨ok, dx, p, rs, h1, h2, h3⟩ := h
 exact ⟨ok, dx, p, rs, k _ _ h1, k _ _ h2, h3.same k⟩
theorem lE (H : Hp) (l : Addr) : aq (drp H l) H := fun c o e => by
 unfold drp at e
 split at e
 ·cases e
 ·exact e
def nI (C : Addr) (H H' : Hp) (a : Addr) (s : Rol.Strip) : Prop := H a = none /\ ∀ l, H l ≠ none -> aY C (drp H' l) a s
theorem az.apart {H : Hp} {w : Nat} {l : Addr} : ∀ {rs : List Addr} {xs : List Rol.Row}, l ∉ rs -> az H w rs xs -> az (drp H l) w rs xs
 | [], [], _, _ => trivial
 | r :: rs, x :: xs, n, h => ⟨by rw [bo (fun z => n (by rw [z]; exact C3 ..))]; exact h.1, az.apart (fun z => n (C2 _ z)) h.2⟩
 | [], _ :: _, _, h => h.elim
 | _ :: _, [], _, h => h.elim
theorem mD {C : Addr} {H H' : Hp} {a dx p : Addr} {rs : List Addr} {s : Rol.Strip} (ok : Rol.Strip.ok s = true) (h1 : H' a = some (.ins C dx (sf s.wide p))) (h2 : H' p = some (.lst (rs.map V.ref))) (h3 : az H' s.wide rs s.rows) (fa : H a = none) (fp : H p = none) (fr : ∀ c ∈ rs, H c = none) : nI C H H' a s :=
 ⟨fa, fun l hl => ⟨ok, dx, p, rs, by rw [bo (fun z => hl (by rw [<- z]; exact fa))]; exact h1, by rw [bo (fun z => hl (by rw [<- z]; exact fp))]; exact h2, h3.apart fun z => hl (fr l z)⟩⟩
theorem be {s : Rol.Strip} (h : Rol.Strip.ok s = true) : 1 <= s.wide /\ s.wide <= 128 /\ s.rows.length <= 256 /\ ∀ x ∈ s.rows, x < 2 ^ s.wide := by
 unfold Rol.Strip.ok Rol.widthOk Rol.TRACKS Rol.ROWS at h
 simp only [C4, C9, List.all_eq_true] at h
 exact ⟨h.1.1, h.1.2, h.2.1, h.2.2⟩
theorem qD {w : Nat} {xs : List Rol.Row} (h1 : 1 <= w) (h2 : w <= 128) (h3 : xs.length <= 256) (h4 : ∀ x ∈ xs, x < 2 ^ w) : Rol.Strip.ok ⟨w, xs⟩ = true := by
 unfold Rol.Strip.ok Rol.widthOk Rol.TRACKS Rol.ROWS
 simp only [C4, C9, List.all_eq_true]
 exact ⟨⟨h1, h2⟩, h3, h4⟩
theorem aq.upd {H : Hp} {a : Addr} {o : HO} (h : H a = none) : aq H (L2.upd H a o) := fun b u e => by
 rw [ag (ah e h)]
 exact e
structure cn (K : Fg) (mg : Str -> Option Value) (C : Addr) : Prop where
 cl : Cls K C
 nW : dP K C "width"
 nR : dP K C "rows"
 mgC : mg "Strip" = some (.ref C)
theorem lB {K : Fg} {a : Addr} {xs : List V} {g : TG} {tb : TS} {D : Ends} {σ : L2.St} {H : Hp} (Pv : Nat -> L2.St -> Hp -> Prop) (h0 : Pv 0 σ H) (hl : ∀ i σ H, i <= xs.length -> Pv i σ H -> SqL K H a xs)
  (hs : ∀ i x σ H T, xs[i]? = some x -> Pv i σ H -> H T = none -> g (.ref T) σ (L2.upd H T (.tup [.int (i : Nat), x])) fun σ2 H2 => tb { D with nx := Pv (i + 1), ct := Pv (i + 1), bk := D.nx } σ2 H2) (hd : ∀ σ H, Pv xs.length σ H -> D.nx σ H) :
  ∃ W : Nat -> Nat -> L2.St -> Hp -> Prop, (∃ m, W 0 m σ H) /\ ∀ i m σ H, W i m σ H ->
   ((Ite K a).stop i H /\ D.nx σ H) ∨ ((Ite K a).go i H /\ ∃ N : L2.St -> Hp -> Prop, (∀ σ' H', N σ' H' -> ∃ m', m' < m /\ W (i + 1) m' σ' H') /\ ∀ x H', (Ite K a).yld i H x H' -> g x σ H' fun σ2 H2 => tb { D with nx := N, ct := N, bk := D.nx } σ2 H2) := by
 refine ⟨fun i m σ H => m = xs.length - i /\ i <= xs.length /\ Pv i σ H, ⟨xs.length, by simp, De _, h0⟩, fun i m σ H hW => ?_⟩
 obtain ⟨rfl, hi, p⟩ := hW
 have q := hl i σ H hi p
 rcases Nat.lt_or_ge i xs.length with lt | ge
 ·refine .inr ⟨⟨xs, xs[i], q, Dg lt⟩, Pv (i + 1), fun σ' H' p' => ⟨xs.length - (i + 1), by omega, rfl, lt, p'⟩, fun v H' y => ?_⟩
  obtain ⟨T, x, rfl, hT, rfl, y⟩ := y
  exact hs i x σ H T (y xs q) p hT
 ·have e : i = xs.length := by omega
  subst e
  exact .inl ⟨⟨xs, q, C7 _⟩, hd σ H p⟩
end PH
end
section
namespace PH
open PySem PySem.Spec PyProof.Rows L2 PM
section
variable {P : Program} {w : World} {K : Fg} {mg : Str -> Option Value} {base : Heap}
def xt (C : Addr) : Sp := fun vs H Q _ => ∃ (a dx p : Addr) (w : Nat), vs = [.ref a, .int w, .ref p] /\ H a = some (.ins C dx []) /\ ∀ H' : Hp, H' a = some (.ins C dx (sf w p)) -> (∀ b o, H b = some o -> b ≠ a -> H' b = some o) -> Q .non H'
theorem on : al ["self", "width", "rows"] ["self", "width", "rows"] (ae gH) := ⟨rfl, rfl, rfl, by decide +kernel, rfl, by decide +kernel, by decide +kernel⟩
theorem lj {f C : Addr} {fd : FuncData} (F : Fun K "__init__" "Strip.__init__" gH f fd) (T : cn K mg C) : bc P w K mg base CX0 1 f fd ["self", "width", "rows"] (xt C) := by
 refine F.ok on (fun vs H Q E h => ?_) (fun cdv A outer s H vs Q E hr h => ?_)
 ·obtain ⟨_, _, _, _, rfl, _⟩ := h
  rfl
 ·obtain ⟨a, dx, p, n, rfl, hp, k⟩ := h
  refine ⟨_, ad (pO (pv 0) (pv 1) rfl) (af (pO (pv 0) (pv 2) rfl)), ?_⟩
  refine ⟨_, rfl, _, rfl, a, C, dx, [], rfl, hp, T.cl, T.nW, (by show 0 < 1000; decide), ?_⟩
  refine ⟨_, rfl, _, rfl, a, C, dx, _, rfl, upd_same, T.cl, T.nR, (by show 1 < 1000; decide), ?_⟩
  refine k _ upd_same fun b o e hb => ?_
  rw [ag hb, ag hb]
  exact e
structure TB (mg : Str -> Option Value) : Prop where
 len : mg "len" = none
 sum : mg "sum" = none
 sorted : mg "sorted" = none
 set : mg "set" = none
 min : mg "min" = none
 max : mg "max" = none
 rev : mg "reversed" = none
 enum : mg "enumerate" = none
 range : mg "range" = none
theorem A0 : bootBuiltins "sum" = some (.builtin "sum") := by decide +kernel
theorem nu : bootBuiltins "sorted" = some (.builtin "sorted") := by decide +kernel
theorem xM : bootBuiltins "set" = some (.type "set") := by decide +kernel
theorem Ba : bootBuiltins "min" = some (.builtin "min") := by decide +kernel
def ir (C : Addr) : Sp := fun vs H Q _ => ∃ (a b : Addr) (n : Nat) (x y : Rol.Row), vs = [.ref a, .ref b] /\ n <= 128 /\ H a = some (.lst (iV (tk n x))) /\ H b = some (.lst (iV (tk n y))) /\ ∀ (H' : Hp) (q : Addr), aq H H' -> H' q = some (.lst (iV ((unl n x y).map fun t : Nat => (t : Int)))) -> Q (.ref q) H'
theorem vO : al ["one", "other"] ["one", "other"] (ae cK) := ⟨rfl, rfl, rfl, by decide +kernel, rfl, by decide +kernel, by decide +kernel⟩
theorem tQ {f C : Addr} {fd : FuncData} (F : Fun K "unlike_tracks" "unlike_tracks" cK f fd) (B : TB mg) : bc P w K mg base CX0 1 f fd ["one", "other"] (ir C) := by
 refine F.ok vO (fun vs H Q E h => ?_) (fun cdv A outer s H vs Q E hr h => ?_)
 ·obtain ⟨_, _, _, _, _, rfl, _⟩ := h
  rfl
 ·obtain ⟨a, b, n, x, y, rfl, hn, ha, hb, k⟩ := h
  refine ⟨_, af (au (ak (mZ rfl) (by rfl) B.sorted nu (aa (aM yA (gc (xK rfl) (by rfl) B.set xM (aa (pv 0) ac)) (gc (xK rfl) (by rfl) B.set xM (aa (pv 1) ac))) ac))), ?_⟩
  refine ⟨_, rfl, a, tk n x, rfl, SqL.of ha, (fun z hz => pk hn hz), Nat.lt_of_le_of_lt (kt n x) (by omega), fun p kx hp mx lx => ?_⟩
  have s1 : aq H (L2.upd H p (qz w kx p)) := aq.upd hp
  refine ⟨_, rfl, b, tk n y, rfl, SqL.of (s1 _ _ hb), (fun z hz => pk hn hz), Nat.lt_of_le_of_lt (kt n y) (by omega), fun p2 ky hp2 my ly => ?_⟩
  have s2 : aq _ (L2.upd (L2.upd H p (qz w kx p)) p2 (qz w ky p2)) := aq.upd hp2
  have lx' := Nat.le_trans lx (kt n x)
  have ly' := Nat.le_trans ly (kt n y)
  refine ⟨p, p2, kx, ky, rfl, rfl, s2 _ _ upd_same, upd_same, by omega, by omega, fun p3 kz hp3 mz => ?_⟩
  have s3 := aq.upd (o := qz w kz p3) hp3
  refine ⟨p3, kz, rfl, upd_same, fun q ns hq nz pm so => ?_⟩
  have s4 := aq.upd (o := HO.lst (ns.map V.int)) hq
  refine k _ q (((s1.trans s2).trans s3).trans s4) ?_
  rw [upd_same, zI nz (fun z => ?_) pm so]
  ·rfl
  ·rw [mz z, mx z, my z]
end
end PH
end
section
namespace PH
open PySem PySem.Spec PyProof.Rows L2 PM
section
variable {P : Program} {w : World} {K : Fg} {mg : Str -> Option Value} {base : Heap}
def kF (C : Addr) : Sp := fun vs H Q _ => ∃ (a : Addr) (s : Rol.Strip), vs = [.ref a] /\ aY C H a s /\ ∀ H' : Hp, aq H H' -> Q (.int (s.holes : Nat)) H'
theorem oq : al ["strip", "row"] ["strip"] (ae dY) := ⟨rfl, rfl, rfl, by decide +kernel, rfl, by decide +kernel, by decide +kernel⟩
def Af (K : Fg) : List V -> Hp -> VK -> Prop := fun xs H Q => ∃ p ys, xs = [.ref p] /\ (SqL K H p ys ∨ SqT K H p ys) /\ Q (.int ys.length) H
theorem aJ {X : Cx} : eL X (.builtin "len") (Af X.K) := nh
abbrev lcS (xs : List Str) (gs : List Str) : Scope := { kind := .function, names := (xs.map fun x => (x, .local)) ++ gs.map fun x => (x, .globalImplicit), isGenerator := false, isCoroutine := false }
theorem zm : dQ ["strip", "row"] (ae dY) (lcS [".0", "row"] ["len"]) [("row", 1)] := ⟨rfl, by decide +kernel, by decide +kernel, by decide +kernel, by decide +kernel⟩
theorem wn {f C : Addr} {fd : FuncData} (F : Fun K "hole_count" "hole_count" dY f fd) (T : cn K mg C) (B : TB mg) : bc P w K mg base CX0 1 f fd ["strip"] (kF C) := by
 refine F.ok oq (fun vs H Q E h => ?_) (fun cdv A outer s H vs Q E hr h => ?_)
 ·obtain ⟨_, _, rfl, _⟩ := h
  rfl
 ·obtain ⟨a, sp, rfl, ⟨ok, dx, p, rs, h1, h2, h3⟩, k⟩ := h
  refine ⟨_, af (au (ak (AX rfl) (by rfl) B.sum A0 (aa (ja rfl oq.nd (bq (aI (pv 0) rfl)) zm (fun _ _ _ _ _ => aG (i := 1) oq.nd rfl (Or.inl rfl)) (fun _ _ _ _ _ => cu) (fun _ _ _ _ _ => ak (aJ : eL _ _ (Af K)) (by rfl) B.len Dd (aa (pv 1) ac))) ac))), ?_⟩
  refine ⟨_, rfl, a, C, dx, _, _, rfl, h1, T.cl, T.nR, jF _ _, p, rfl, ⟨_, SqL.of h2⟩, fun D hD => ?_⟩
  have s0 : aq H (L2.upd H D (.lst [])) := aq.upd hD
  refine cV (K := K) (a := p) (xs := rs.map V.ref) (fun i H' => aq H H' /\ H' D = some (.lst ((sp.rows.take i).map fun x => V.int (tk sp.wide x).length))) ⟨s0, upd_same⟩ (fun i H' _ ⟨q, _⟩ => SqL.of (q _ _ h2)) ?_ ?_
  ·rintro i v H' hv ⟨q, hq⟩
   obtain ⟨r, x, rfl, e1, e2, e3⟩ := h3.item hv
   refine ⟨rfl, _, rfl, r, _, rfl, .inl (SqL.of (q _ _ e3)), _, hq, ?_, fun b o e => ?_, ?_⟩
   ·rw [CP, Dn, sizeLine_eq]
    have := (be ok).2.2.1
    omega
   ·rw [ag (ah e hD)]
    exact q b o e
   ·rw [upd_same, aR (fun x => V.int (tk sp.wide x).length) e2]
    show some (HO.lst (_ ++ [V.int ((tk sp.wide x).map V.int).length])) = _
    rw [CP]
  ·rintro H' ⟨q, hq⟩
   rw [CP, h3.length, List.take_length] at hq
   refine ⟨D, sp.rows.map fun x => ((tk sp.wide x).length : Int), rfl, SqL.of ?_, ?_⟩
   ·rw [hq, List.map_map]
    rfl
   ·rw [uD]
    exact k H' q
end
end PH
end
section
namespace PH
open PySem PySem.Spec PyProof.Rows L2 PM
def bE (G H : Hp) (w : Nat) : List Addr -> List (Nat × Rol.Row) -> Prop
 | [], [] => True
 | t :: ts, p :: ps => (∃ r, H t = some (.tup [.int p.1, .ref r]) /\ G r = some (.lst (iV (tk w p.2)))) /\ bE G H w ts ps
 | _, _ => False
theorem bE.tups {G G' H H' : Hp} {w : Nat} (g : aq G G') (s : ∀ b xs, H b = some (.tup xs) -> H' b = some (.tup xs)) : ∀ {ts : List Addr} {ps : List (Nat × Rol.Row)}, bE G H w ts ps -> bE G' H' w ts ps
 | [], [], _ => trivial
 | t :: ts, p :: ps, h => ⟨⟨h.1.choose, s _ _ h.1.choose_spec.1, g _ _ h.1.choose_spec.2⟩, bE.tups g s h.2⟩
 | [], _ :: _, h => h.elim
 | _ :: _, [], h => h.elim
theorem bE.length {G H : Hp} {w : Nat} : ∀ {ts : List Addr} {ps : List (Nat × Rol.Row)}, bE G H w ts ps -> ts.length = ps.length
 | [], [], _ => rfl
 | t :: ts, p :: ps, h => by rw [CU, CU, h.2.length]
 | [], _ :: _, h => h.elim
 | _ :: _, [], h => h.elim
theorem bE.snoc {G H : Hp} {w : Nat} {t r : Addr} {c : Nat} {x : Rol.Row} (h1 : H t = some (.tup [.int c, .ref r])) (h2 : G r = some (.lst (iV (tk w x)))) : ∀ {ts : List Addr} {ps : List (Nat × Rol.Row)}, bE G H w ts ps -> bE G H w (ts ++ [t]) (ps ++ [(c, x)])
 | [], [], _ => ⟨⟨r, h1, h2⟩, trivial⟩
 | _ :: ts, _ :: ps, h => ⟨h.1, bE.snoc h1 h2 h.2⟩
 | [], _ :: _, h => h.elim
 | _ :: _, [], h => h.elim
theorem aD {H H' : Hp} {q : Addr} {o : HO} (s : aq H H') (h : H q = none) : aq H (L2.upd H' q o) := fun b u e => by
 rw [ag (ah e h)]
 exact s b u e
theorem vB {H H' : Hp} {q : Addr} {o : HO} {xs : List V} (s : aq H H') (h : H' q = some (.lst xs)) (b : Addr) (ys : List V) (e : H b = some (.tup ys)) : L2.upd H' q o b = some (.tup ys) := by
 have e' := s _ _ e
 rw [ag (fun z => by rw [z, h] at e'; cases e')]
 exact e'
section
variable {P : Program} {w : World} {K : Fg} {mg : Str -> Option Value} {base : Heap}
def ma (C : Addr) : Sp := fun vs H Q _ => ∃ (a : Addr) (s : Rol.Strip), vs = [.ref a] /\ aY C H a s /\ ∀ (H' : Hp) (q : Addr) (ts : List Addr), aq H H' -> H q = none -> H' q = some (.lst (ts.map V.ref)) -> bE H H' s.wide ts (Rol.runs s.rows) -> Q (.ref q) H'
theorem iK : al ["strip", "runs", "count", "number", "row"] ["strip"] (ae ow) := ⟨rfl, rfl, rfl, by decide +kernel, rfl, by decide +kernel, by decide +kernel⟩
theorem yG {f C : Addr} {fd : FuncData} (F : Fun K "runs_of" "runs_of" ow f fd) (T : cn K mg C) (B : TB mg) : bc P w K mg base CX0 1 f fd ["strip"] (ma C) := by
 refine F.ok iK (fun vs H Q E h => ?_) (fun cdv A outer s H vs Q E hr h => ?_)
 ·obtain ⟨_, _, rfl, _⟩ := h
  rfl
 ·obtain ⟨a, sp, rfl, ⟨ok, dx, p, rs, h1, h2, h3⟩, k⟩ := h
  obtain ⟨w1, w2, w3, w4⟩ := be ok
  refine ⟨_, ad (aw (i := 1) iK.nd rfl (Or.inl rfl) (aH ac)) (ad (aw (i := 2) iK.nd rfl (Or.inl rfl) ai)
   (ad (ca PassesOwn.never rfl (oK (by rfl) B.enum (aa (aI (pv 0) rfl) ac)) (mw rfl (bP (aG (i := 3) iK.nd rfl (Or.inl rfl)) (bP (aG (i := 4) iK.nd rfl (Or.inl rfl)) iZ)))
    (ad (sX (i := 2) iK.nd rfl (Or.inl rfl) ai fz)
    (af (bp (oF (aB gd (aM bj (pv 3) ai) (ak aJ (by rfl) B.len Dd (aa (aI (pv 0) rfl) ac)) (aE _)) (mi (aB (xG hr.units) (aL am (aI (pv 0) rfl) (aM bj (pv 3) ai) (fun _ _ => rfl)) (pv 4) (aE _)))).pt
     (ad (bv (jb PySem.F.plainAttrs_list PySem.F.slot_list_append PySem.F.type_list_append cy (pv 1) (aa (tz (aa (pv 2) (aa (pv 4) ac))) ac))) (af (aw (i := 2) iK.nd rfl (Or.inl rfl) ai)))
     aK))))
   (af (au (pv 1))))), ?_⟩
  refine ⟨De _, fun q hq => ?_⟩
  have s0 : aq H (L2.upd H q (.lst [])) := aq.upd hq
  refine ⟨_, rfl, a, C, dx, _, _, rfl, s0 _ _ h1, T.cl, T.nR, jF _ _, p, _, rfl, SqL.of (s0 _ _ h2), ?_⟩
  refine lB (K := K) (a := p) (xs := rs.map V.ref) (fun i σ H' => ∃ (v3 v4 : Option V) (c : Nat) (ts : List Addr) (ps : List (Nat × Rol.Row)), σ = [some (.ref a), some (.ref q), some (.int c), v3, v4] /\ aq H H' /\ H' q = some (.lst (ts.map V.ref)) /\ bE H H' sp.wide ts ps /\ ts.length <= i /\ ps ++ bump c (Rol.runs (sp.rows.drop i)) = Rol.runs sp.rows)
   ⟨none, none, 0, [], [], rfl, s0, upd_same, trivial, De _, by rw [nj]; rfl⟩ (fun i σ H' _ ⟨_, _, _, _, _, _, q1, _⟩ => SqL.of (q1 _ _ h2)) ?_ ?_
  ·rintro i v σ H' T1 hv ⟨v3, v4, c, ts, ps, rfl, q1, q2, q3, q4, q5⟩ hT
   obtain ⟨r, x, rfl, e1, e2, e3⟩ := h3.item hv
   have s2 : aq H' (L2.upd H' T1 (.tup [.int (i : Nat), .ref r])) := aq.upd hT
   have s3 : aq H _ := q1.trans s2
   have hi : i < sp.rows.length := (CY.mp e2).1
   have dr : sp.rows.drop i = x :: sp.rows.drop (i + 1) := by
    rw [<- List.getElem_cons_drop hi]
    congr 1
    exact C8 ((Dg hi).symm.trans e2)
   refine ⟨T1, _, rfl, SqT.of upd_same, rfl, _, _, rfl, _, _, rfl, rfl, ?_⟩
   refine ⟨_, rfl, _, _, rfl, rfl, ?_⟩
   refine ⟨_, rfl, _, _, rfl, rfl, _, rfl, a, C, dx, _, _, rfl, s3 _ _ h1, T.cl, T.nR, jF _ _, p, _, rfl, .inl (SqL.of (s3 _ _ h2)), rfl, _, rfl, ?_⟩
   have hz : ts.length < sizeLine := by rw [sizeLine_eq]; omega
   have put : ∀ (t : Addr), (L2.upd H' T1 (.tup [.int (i : Nat), .ref r])) t = none -> sp.rows.drop (i + 1) = [] ∨ (∃ y l, sp.rows.drop (i + 1) = y :: l /\ x ≠ y) ->
     ∃ (ts' : List Addr) (ps' : List (Nat × Rol.Row)), aq H (L2.upd (L2.upd (L2.upd H' T1 (.tup [.int (i : Nat), .ref r])) t (.tup [.int ((c : Int) + 1), .ref r])) q (.lst (ts.map V.ref ++ [.ref t]))) /\ ts.map V.ref ++ [V.ref t] = ts'.map V.ref /\ bE H (L2.upd (L2.upd (L2.upd H' T1 (.tup [.int (i : Nat), .ref r])) t (.tup [.int ((c : Int) + 1), .ref r])) q (.lst (ts.map V.ref ++ [.ref t]))) sp.wide ts' ps' /\ ts'.length <= i + 1 /\ ps' ++ bump 0 (Rol.runs (sp.rows.drop (i + 1))) = Rol.runs sp.rows := fun t ht ends => by
    have s4 : aq _ (L2.upd (L2.upd H' T1 (.tup [.int (i : Nat), .ref r])) t (.tup [.int ((c : Int) + 1), .ref r])) := aq.upd ht
    have g4 := s4 _ _ (s2 _ _ q2)
    refine ⟨ts ++ [t], ps ++ [(c + 1, x)], aD (s3.trans s4) hq, by rw [Dj]; rfl, bE.snoc ?_ e3 (q3.tups (aq.refl H) (vB (s2.trans s4) g4)), by rw [CV]; simp; omega, ?_⟩
    ·rw [ag (fun z => by rw [<- z] at g4; rw [upd_same] at g4; cases g4), upd_same]
     rfl
    ·rw [nj, <- q5, dr, Dr]
     congr 1
     rcases ends with z | ⟨y, l, z, ne⟩
     ·rw [z, vU]
      rfl
     ·rw [z, qA c l ne]
      rfl
   refine eR (fun c1 => ?_) (fun c1 => ?_)
   ·have c1' : (i : Int) + 1 = ((rs.map V.ref).length : Int) := V.int.inj (Dc c1)
    rw [CP, h3.length] at c1'
    refine ⟨_, rfl, .inl ⟨rfl, _, SqL.of (s2 _ _ q2)⟩, _, rfl, _, rfl, (by show 2 <= sizeLine; decide), fun t ht => ?_⟩
    have g4 := aq.upd (o := .tup [.int ((c : Int) + 1), .ref r]) ht _ _ (s2 _ _ q2)
    refine ⟨q, _, _, rfl, rfl, g4, by rw [CP]; exact hz, ?_⟩
    obtain ⟨ts', ps', k1, k2, k3, k4, k5⟩ := put t ht (.inl (List.drop_eq_nil_of_le (by omega)))
    exact ⟨_, _, 0, ts', ps', rfl, k1, by rw [upd_same, k2], k3, k4, k5⟩
   ·have c1' : ¬ (i : Int) + 1 = (sp.rows.length : Int) := fun z => c1 (C0 (congrArg V.int (by rw [CP, h3.length]; exact z)))
    have hi2 : i + 1 < sp.rows.length := by omega
    have ey : sp.rows[i + 1]? = some (sp.rows[i + 1]) := Dg hi2
    have dr2 : sp.rows.drop (i + 1) = sp.rows[i + 1] :: sp.rows.drop (i + 2) := (List.getElem_cons_drop hi2).symm
    obtain ⟨r2, f1, f2⟩ := h3.at_ ey
    refine ⟨_, rfl, a, C, dx, _, _, rfl, s3 _ _ h1, T.cl, T.nR, jF _ _, _, rfl, _, _, rfl, rfl, p, _, _, _, rfl, rfl, SqL.of (s3 _ _ h2), aQ (j := i + 1) (v := .ref r2) (by omega) (by rw [C1, f1]; rfl), _, rfl, r2, r, _, _, rfl, rfl, SqL.of (s3 _ _ f2), SqL.of (s3 _ _ e3), _, rfl, ?_⟩
    refine eR (fun c2 => ?_) (fun c2 => ?_)
    ·have ne : x ≠ sp.rows[i + 1] := fun z => by
      have : ¬ tk sp.wide sp.rows[i + 1] = tk sp.wide x := fun q => by
       rw [C0 q] at c2
       exact absurd c2 (by decide)
      exact this (by rw [<- z])
     refine ⟨_, rfl, .inl ⟨rfl, _, SqL.of (s2 _ _ q2)⟩, _, rfl, _, rfl, (by show 2 <= sizeLine; decide), fun t ht => ?_⟩
     have g4 := aq.upd (o := .tup [.int ((c : Int) + 1), .ref r]) ht _ _ (s2 _ _ q2)
     refine ⟨q, _, _, rfl, rfl, g4, by rw [CP]; exact hz, ?_⟩
     obtain ⟨ts', ps', k1, k2, k3, k4, k5⟩ := put t ht (.inr ⟨_, _, dr2, ne⟩)
     exact ⟨_, _, 0, ts', ps', rfl, k1, by rw [upd_same, k2], k3, k4, k5⟩
    ·have e : x = sp.rows[i + 1] := by
      have : tk sp.wide sp.rows[i + 1] = tk sp.wide x := Decidable.byContradiction fun q => c2 (by rw [C6 q]; rfl)
      exact (rK (w4 _ (List.getElem_mem hi2)) (w4 _ (List.mem_of_getElem? e2)) this).symm
     refine ⟨_, _, c + 1, ts, ps, rfl, s3, s2 _ _ q2, q3.tups (aq.refl H) fun b xs z => s2 _ _ z, by omega, ?_⟩
     rw [<- q5, dr, dr2, <- e, sN]
  ·rintro σ H' ⟨v3, v4, c, ts, ps, rfl, q1, q2, q3, q4, q5⟩
   rw [CP, h3.length, List.drop_length] at q5
   have e : ps = Rol.runs sp.rows := by
    rw [<- q5]
    show ps = ps ++ []
    rw [Dq]
   subst e
   exact ⟨_, rfl, k H' q ts q1 hq q2 q3⟩
end
end PH
end
section
namespace PH
open PySem PySem.Spec PyProof.Rows L2 PM
structure ao (P : Program) (w : World) (K : Fg) (mg : Str -> Option Value) (base : Heap) (x : Str) (ps : List Str) (k : Nat) (sp : Sp) : Prop where
 ex : ∃ (f : Addr) (fd : FuncData), mg x = some (.ref f) /\ PySem.W.keepIn K (.ref f) = true /\ ci K fd ps [] /\ bc P w K mg base CX0 k f fd ps sp
section
variable {P : Program} {w : World} {K : Fg} {mg : Str -> Option Value} {base : Heap}
def sj (C : Addr) : Sp := fun vs H Q _ => ∃ (a b : Addr) (s u : Rol.Strip), vs = [.ref a, .ref b] /\ aY C H a s /\ aY C H b u /\ s.wide = u.wide /\ ∀ (H' : Hp) (q : Addr), aq H H' -> H' q = some (.lst (iV (o4 s u))) -> Q (.ref q) H'
theorem sJ : al ["one", "other", "shared", "number"] ["one", "other"] (ae bT) := ⟨rfl, rfl, rfl, by decide +kernel, rfl, by decide +kernel, by decide +kernel⟩
theorem yO {f C : Addr} {fd : FuncData} (F : Fun K "first_difference" "first_difference" bT f fd) (T : cn K mg C) (B : TB mg) (U : ao P w K mg base "unlike_tracks" ["one", "other"] 1 (ir C)) : bc P w K mg base CX0 2 f fd ["one", "other"] (sj C) := by
 obtain ⟨fU, fdU, mU, kU, bU, GU⟩ := U.ex
 refine F.ok sJ (fun vs H Q E h => ?_) (fun cdv A outer s H vs Q E hr h => ?_)
 ·obtain ⟨_, _, _, _, rfl, _⟩ := h
  rfl
 ·obtain ⟨a, b, sp, su, rfl, ⟨ok, dx, p, rs, h1, h2, h3⟩, ⟨ok', dx', p', rs', h1', h2', h3'⟩, hw, k⟩ := h
  obtain ⟨w1, w2, w3, w4⟩ := be ok
  obtain ⟨w1', w2', w3', w4'⟩ := be ok'
  rw [<- hw] at h3' w4'
  refine ⟨_, ad (aw (i := 2) sJ.nd rfl (Or.inl rfl) (ak (ve rfl) (by rfl) B.min Ba (aa (ak aJ (by rfl) B.len Dd (aa (aI (pv 0) rfl) ac)) (aa (ak aJ (by rfl) B.len Dd (aa (aI (pv 1) rfl) ac)) ac))))
   (ad (ca PassesOwn.never rfl (iY rfl B.range (aa (pv 2) ac)) (aG (i := 3) sJ.nd rfl (Or.inl rfl))
    (af (bp (aB (xG hr.units) (aL am (aI (pv 0) rfl) (pv 3) (fun _ _ => rfl)) (aL am (aI (pv 1) rfl) (pv 3) (fun _ _ => rfl)) (aE _))
     (af (au (aH (aa (pv 3) (aa (aL am (aj GU hr rfl mU kU bU .nil aC (aa (aL am (aI (pv 0) rfl) (pv 3) (fun _ _ => rfl)) (aa (aL am (aI (pv 1) rfl) (pv 3) (fun _ _ => rfl)) ac))) ai (fun _ _ => rfl)) ac)))))
     aK)))
   (ad (bp (aB wb (ak aJ (by rfl) B.len Dd (aa (aI (pv 0) rfl) ac)) (ak aJ (by rfl) B.len Dd (aa (aI (pv 1) rfl) ac)) (aE _))
     (af (au (aH (aa (pv 2) (aa (aI (pv 0) rfl) ac))))) aK)
   (af (au (aH ac))))), ?_⟩
  have len1 : ((rs.map V.ref).length : Int) = sp.rows.length := by rw [CP, h3.length]
  have len2 : ((rs'.map V.ref).length : Int) = su.rows.length := by rw [CP, h3'.length]
  refine ⟨_, rfl, a, C, dx, _, _, rfl, h1, T.cl, T.nR, jF _ _, p, _, rfl, .inl (SqL.of h2), _, rfl, b, C, dx', _, _, rfl, h1', T.cl, T.nR, jF _ _, p', _, rfl, .inl (SqL.of h2'), _, _, rfl, ?_⟩
  have mn : (if ((rs'.map V.ref).length : Int) < ((rs.map V.ref).length : Int) then ((rs'.map V.ref).length : Int) else ((rs.map V.ref).length : Int)) = ((min sp.rows.length su.rows.length : Nat) : Int) := by
   rw [len1, len2]
   split <;> omega
  rw [mn]
  refine ⟨_, rfl, _, rfl, by omega, by omega, mT (lo := 0) (n := min sp.rows.length su.rows.length) (fun i σ H' => ∃ v3 : Option V, σ = [some (.ref a), some (.ref b), some (.int (min sp.rows.length su.rows.length : Nat)), v3] /\ H' = H /\ Rol.diffFrom sp.wide 0 sp.rows su.rows = Rol.diffFrom sp.wide i (sp.rows.drop i) (su.rows.drop i))
   ⟨none, rfl, rfl, rfl⟩ ?_ ?_⟩
  ·rintro i σ H' hi ⟨v3, rfl, rfl, hd⟩
   have ea : sp.rows[i]? = some (sp.rows[i]'(by omega)) := Dg _
   have eb : su.rows[i]? = some (su.rows[i]'(by omega)) := Dg _
   generalize sp.rows[i]'(by omega) = x at ea
   generalize su.rows[i]'(by omega) = y at eb
   have hx := w4 _ (List.mem_of_getElem? ea)
   have hy := w4' _ (List.mem_of_getElem? eb)
   obtain ⟨r, f1, f2⟩ := h3.at_ ea
   obtain ⟨r', f1', f2'⟩ := h3'.at_ eb
   have i1 : ∀ {z : Int}, z = 0 + (i : Int) -> atI (rs.map V.ref) z = some (.ref r) := fun e => aQ (j := i) (by omega) (by rw [C1, f1]; rfl)
   have i2 : ∀ {z : Int}, z = 0 + (i : Int) -> atI (rs'.map V.ref) z = some (.ref r') := fun e => aQ (j := i) (by omega) (by rw [C1, f1']; rfl)
   refine ⟨_, rfl, a, C, dx, _, _, rfl, h1, T.cl, T.nR, jF _ _, _, rfl, p, _, _, _, rfl, rfl, SqL.of h2, i1 rfl, _, rfl, b, C, dx', _, _, rfl, h1', T.cl, T.nR, jF _ _, _, rfl, p', _, _, _, rfl, rfl, SqL.of h2', i2 rfl, r, r', _, _, rfl, rfl, SqL.of f2, SqL.of f2', _, rfl, ?_⟩
   refine eR (fun c2 => ?_) (fun c2 => ?_)
   ·have ne : x ≠ y := fun z => by
     rw [z, C0 rfl] at c2
     exact absurd c2 (by decide)
    obtain ⟨t, rest, g1, g2⟩ := uX (w := sp.wide) ea eb hx hy ne
    refine ⟨_, rfl, _, rfl, a, C, dx, _, _, rfl, h1, T.cl, T.nR, jF _ _, _, rfl, p, _, _, _, rfl, rfl, SqL.of h2, i1 rfl, _, rfl, b, C, dx', _, _, rfl, h1', T.cl, T.nR, jF _ _, _, rfl, p', _, _, _, rfl, rfl, SqL.of h2', i2 rfl, r, r', sp.wide, x, y, rfl, w2, f2, f2', fun H1 q1 s1 e1 => ?_⟩
    refine ⟨q1, _, _, _, rfl, rfl, SqL.of e1, aQ (j := 0) (v := .int t) rfl (by rw [g1]; rfl), (by show 2 <= sizeLine; decide), fun q hq => ?_⟩
    refine k _ q (s1.trans (aq.upd hq)) ?_
    rw [upd_same]
    unfold o4
    rw [hd, g2]
    show some (HO.lst [V.int (0 + (i : Int)), V.int t]) = some (HO.lst [V.int (i : Int), V.int t])
    rw [Int.zero_add]
   ·have e : x = y := by
     have : tk sp.wide x = tk sp.wide y := Decidable.byContradiction fun q => c2 (by rw [C6 q]; rfl)
     exact rK hx hy this
    subst e
    exact ⟨_, rfl, rfl, by rw [hd, uW ea eb]⟩
  ·rintro σ H' ⟨v3, rfl, rfl, hd⟩
   rw [wZ] at hd
   refine ⟨_, rfl, a, C, dx, _, _, rfl, h1, T.cl, T.nR, jF _ _, p, _, rfl, .inl (SqL.of h2), _, rfl, b, C, dx', _, _, rfl, h1', T.cl, T.nR, jF _ _, p', _, rfl, .inl (SqL.of h2'), rfl, _, rfl, ?_⟩
   refine eR (fun c2 => ?_) (fun c2 => ?_)
   ·have ne : ¬ sp.rows.length = su.rows.length := fun z => by
     have : (V.int ((rs.map V.ref).length : Int)) = V.int ((rs'.map V.ref).length : Int) := by rw [len1, len2, z]
     rw [C0 this] at c2
     exact absurd c2 (by decide)
    rw [if_neg ne] at hd
    refine ⟨_, rfl, _, rfl, a, C, dx, _, _, rfl, h1, T.cl, T.nW, sy _ _, (by show 2 <= sizeLine; decide), fun q hq => ?_⟩
    refine k _ q (aq.upd hq) ?_
    rw [upd_same]
    unfold o4
    rw [hd]
    rfl
   ·have e : sp.rows.length = su.rows.length := by
     have : V.int ((rs.map V.ref).length : Int) = V.int ((rs'.map V.ref).length : Int) := Decidable.byContradiction fun q => c2 (by rw [C6 q]; rfl)
     have := V.int.inj this
     omega
    rw [if_pos e] at hd
    refine ⟨De _, fun q hq => ?_⟩
    refine k _ q (aq.upd hq) ?_
    rw [upd_same]
    unfold o4
    rw [hd]
    rfl
end
end PH
end
section
namespace PH
open PySem PySem.Spec PyProof.Rows L2 PM
def aP (kvs : List (Key × V)) (t : Nat) : Option Nat := match eJ kvs (Sum.inl (t : Int)) with
 | some (.int z) => some (z.toNat / 3)
 | _ => none
def ic (kvs : List (Key × V)) : Prop := ∀ t : Nat, ∀ v, eJ kvs (Sum.inl (t : Int)) = some v -> ∃ j : Nat, v = .int ((3 * j + 2 : Nat) : Int)
theorem iu (kvs : List (Key × V)) (k : Key) (v : V) : (gy kvs k v).length <= kvs.length + 1 := by
 unfold gy
 split
 ·rw [CP]
  exact Nat.le_succ _
 ·rw [CV]
  exact C7 _
theorem uB {n j : Nat} (h : j < n) : ixN n (j : Int) = some j := by
 unfold ixN
 rw [if_pos (Int.natCast_nonneg j), if_pos (by omega), Int.toNat_natCast]
theorem xj {kvs : List (Key × V)} (h : ic kvs) {t j : Nat} : aP kvs t = some j ↔ eJ kvs (Sum.inl (t : Int)) = some (.int ((3 * j + 2 : Nat) : Int)) := by
 unfold aP
 cases e : eJ kvs (Sum.inl (t : Int)) with
 | none => simp
 | some v =>
  obtain ⟨i, rfl⟩ := h t v e
  dsimp only
  rw [Int.toNat_natCast, show (3 * i + 2) / 3 = i by omega]
  constructor
  ·intro z
   rw [C8 z]
  ·intro z
   have := V.int.inj (C8 z)
   congr 1
   omega
theorem zH {kvs : List (Key × V)} (h : ic kvs) {t : Nat} : aP kvs t = none ↔ eJ kvs (Sum.inl (t : Int)) = none := by
 unfold aP
 cases e : eJ kvs (Sum.inl (t : Int)) with
 | none => simp
 | some v =>
  obtain ⟨i, rfl⟩ := h t v e
  simp
theorem ic.put {kvs : List (Key × V)} (h : ic kvs) (t j : Nat) : ic (gy kvs (Sum.inl (t : Int)) (.int ((3 * j + 2 : Nat) : Int))) := fun u v e => by
 rw [cG] at e
 split at e
 ·exact ⟨j, (C8 e).symm⟩
 ·exact h u v e
theorem gj {kvs : List (Key × V)} (h : ic kvs) (t j u : Nat) : aP (gy kvs (Sum.inl (t : Int)) (.int ((3 * j + 2 : Nat) : Int))) u = if u = t then some j else aP kvs u := by
 by_cases c : u = t
 ·subst c
  rw [if_pos rfl, xj (h.put u j), cG, if_pos rfl]
 ·rw [if_neg c]
  unfold aP
  rw [cG, if_neg (fun z => c (by have := Sum.inl.inj z; omega))]
section
variable {P : Program} {w : World} {K : Fg} {mg : Str -> Option Value} {base : Heap}
def nU (C : Addr) : Sp := fun vs H Q _ => ∃ (a : Addr) (s : Rol.Strip), vs = [.ref a] /\ aY C H a s /\ ∀ (H' : Hp) (q : Addr), aq H H' -> H' q = some (.lst (iV (flat s.slots))) -> Q (.ref q) H'
theorem dt : al ["strip", "slots", "going", "number", "row", "still", "track"] ["strip"] (ae kT) := ⟨rfl, rfl, rfl, by decide +kernel, rfl, by decide +kernel, by decide +kernel⟩
theorem wg {f C : Addr} {fd : FuncData} (F : Fun K "slots_of" "slots_of" kT f fd) (T : cn K mg C) (B : TB mg) : bc P w K mg base CX0 1 f fd ["strip"] (nU C) := by
 refine F.ok dt (fun vs H Q E h => ?_) (fun cdv A outer s H vs Q E hr h => ?_)
 ·obtain ⟨_, _, rfl, _⟩ := h
  rfl
 ·obtain ⟨a, sp, rfl, ⟨ok, dx, p, rs, h1, h2, h3⟩, k⟩ := h
  obtain ⟨w1, w2, w3, w4⟩ := be ok
  have hu := AO hr
  refine ⟨_, ad (aw (i := 1) dt.nd rfl (Or.inl rfl) (aH ac)) (ad (aw (i := 2) dt.nd rfl (Or.inl rfl) lg)
   (ad (ca PassesOwn.never rfl (oK (by rfl) B.enum (aa (aI (pv 0) rfl) ac)) (mw rfl (bP (aG (i := 3) dt.nd rfl (Or.inl rfl)) (bP (aG (i := 4) dt.nd rfl (Or.inl rfl)) iZ)))
    (ad (aw (i := 5) dt.nd rfl (Or.inl rfl) lg)
    (ad (ca PassesOwn.never rfl (bq (pv 4)) (aG (i := 6) dt.nd rfl (Or.inl rfl))
     (af (bp (xz (xE hu (pv 6) (pv 2)))
          (ad (oH hu (pv 5) (pv 6) (oM hu (pv 2) (pv 6) (fun _ _ => rfl)) rfl)
       (af (sW (pv 1) (oM hu (pv 2) (pv 6) (fun _ _ => rfl)) mN ai fz kJ)))
          (ad (bv (jb PySem.F.plainAttrs_list PySem.F.slot_list_extend PySem.F.type_list_extend dI (pv 1) (aa (aH (aa (pv 6) (aa (pv 3) (aa ai ac)))) ac)))
       (af (oH hu (pv 5) (pv 6) (aM dH (ak aJ (by rfl) B.len Dd (aa (pv 1) ac)) ai) rfl))))))
    (af (aw (i := 2) dt.nd rfl (Or.inl rfl) (pv 5))))))
   (af (au (pv 1))))), ?_⟩
  refine ⟨De _, fun q hq => ?_⟩
  have s0 : aq H (L2.upd H q (.lst [])) := aq.upd hq
  intro d hd
  have s1 : aq (L2.upd H q (.lst [])) (L2.upd (L2.upd H q (.lst [])) d (.dK [])) := aq.upd hd
  have s01 := s0.trans s1
  have hd0 : H d = none := s0.free hd
  refine ⟨_, rfl, a, C, dx, _, _, rfl, s01 _ _ h1, T.cl, T.nR, jF _ _, p, _, rfl, SqL.of (s01 _ _ h2), ?_⟩
  refine lB (K := K) (a := p) (xs := rs.map V.ref) (fun i σ H' => ∃ (v3 v4 v5 v6 : Option V) (d : Addr) (kvs : List (Key × V)), σ = [some (.ref a), some (.ref q), some (.ref d), v3, v4, v5, v6] /\ aq H H' /\ H d = none /\ H' d = some (.dK kvs) /\ ic kvs /\ H' q = some (.lst (iV (flat (Rol.slotsFrom sp.wide 0 0 (sp.rows.take i))))) /\ rg (Rol.slotsFrom sp.wide 0 0 (sp.rows.take i)) i (aP kvs))
   ⟨none, none, none, none, d, [], rfl, s01, hd0, upd_same, (fun t v e => by cases e), ?_, ?_⟩ (fun i σ H' _ ⟨_, _, _, _, _, _, _, q1, _⟩ => SqL.of (q1 _ _ h2)) ?_ ?_
  ·exact s1 _ _ upd_same
  ·refine ⟨fun t j e => (by cases e), fun t _ b hb => ?_⟩
   rw [List.take_zero, Rol.slotsFrom] at hb
   cases hb
  ·rintro i v σ H' T1 hv ⟨v3, v4, v5, v6, d, kvs, rfl, q1, q2, q3, q4, q5, q6⟩ hT
   obtain ⟨r, x, rfl, e1, e2, e3⟩ := h3.item hv
   have hi : i < sp.rows.length := (CY.mp e2).1
   have tl : (sp.rows.take i).length = i := by rw [Dn]; omega
   have tsn : sp.rows.take (i + 1) = sp.rows.take i ++ [x] := by rw [List.take_add_one, e2]; rfl
   have U := pV sp.wide (sp.rows.take i) 0 0
   rw [Nat.zero_add, tl] at U
   have Ln := iG sp.wide (sp.rows.take i) 0 0
   have SR := rP (w := sp.wide) (l := sp.rows.take i) (x := x) (g := aP kvs) (by rw [tl]; exact q6)
   have GN := fun g' => qR (w := sp.wide) (l := sp.rows.take i) (x := x) (g := aP kvs) (g' := g')
   rw [tl] at SR Ln GN
   rw [<- tsn] at SR
   have LB : sp.wide * i <= 128 * 256 := Nat.mul_le_mul w2 (by omega)
   generalize hL : Rol.slotsFrom sp.wide 0 0 (sp.rows.take i) = L at q5 q6 U Ln SR GN
   have s2 : aq H' (L2.upd H' T1 (.tup [.int (i : Nat), .ref r])) := aq.upd hT
   refine ⟨T1, _, rfl, SqT.of upd_same, rfl, _, _, rfl, _, _, rfl, rfl, ?_⟩
   intro e he
   have s3 : aq _ (L2.upd (L2.upd H' T1 (.tup [.int (i : Nat), .ref r])) e (.dK [])) := aq.upd he
   have s23 : aq H' _ := s2.trans s3
   have he0 : H e = none := q1.free (s2.free he)
   have nde : d ≠ e := ah (s2 _ _ q3) he
   refine ⟨_, rfl, r, rfl, ⟨_, SqL.of (s23 _ _ (q1 _ _ e3))⟩, cY (K := K) (a := r) (xs := iV (tk sp.wide x)) (fun m σ H3 => ∃ (v6 : Option V) (kv2 : List (Key × V)), σ = [some (.ref a), some (.ref q), some (.ref d), some (.int (i : Nat)), some (.ref r), some (.ref e), v6] /\ aq H H3 /\ H3 d = some (.dK kvs) /\ H3 e = some (.dK kv2) /\ ic kv2 /\ kv2.length <= m /\ H3 q = some (.lst (iV (flat (br L i (aP kvs) ((Rol.Row.tracks sp.wide x).take m))))) /\ (∀ t j, aP kv2 t = some j -> t ∈ (Rol.Row.tracks sp.wide x).take m /\ ∃ b, (br L i (aP kvs) ((Rol.Row.tracks sp.wide x).take m))[j]? = some b /\ b.track = t /\ b.first + b.len = i + 1) /\ ∀ t ∈ (Rol.Row.tracks sp.wide x).take m, (aP kv2 t).isSome = true)
    ⟨v6, [], rfl, q1.trans s23, s23 _ _ q3, upd_same, (fun t v e => by cases e), De _, by rw [List.take_zero, rQ]; exact s23 _ _ q5, (fun t j e => by cases e), (fun t ht => by rw [List.take_zero] at ht; cases ht)⟩ (fun m σ H3 _ ⟨_, _, _, y1, _⟩ => SqL.of (y1 _ _ e3)) ?_ ?_⟩
   ·rintro m y σ H3 hy ⟨v6, kv2, rfl, y1, y2, y3, y4, y5, y6, y7, y8⟩
    obtain ⟨t, ht, rfl⟩ : ∃ t : Nat, (Rol.Row.tracks sp.wide x)[m]? = some t /\ y = .int t := by
     unfold iV tk at hy
     rw [C1, C1] at hy
     cases z : (Rol.Row.tracks sp.wide x)[m]? with
     | none =>
      rw [z] at hy
      cases hy
     | some t =>
      rw [z] at hy
      exact ⟨t, rfl, (C8 hy).symm⟩
    have hm : m < (Rol.Row.tracks sp.wide x).length := (CY.mp ht).1
    have hm' := Dl hm (dk sp.wide x)
    have tk1 : (Rol.Row.tracks sp.wide x).take (m + 1) = (Rol.Row.tracks sp.wide x).take m ++ [t] := by rw [List.take_add_one, ht]; rfl
    have nt : t ∉ (Rol.Row.tracks sp.wide x).take m := fun z => by
     have nd : ((Rol.Row.tracks sp.wide x).take (m + 1)).Pairwise (· < ·) := (cH sp.wide x).sublist (List.take_sublist _ _)
     rw [tk1] at nd
     exact absurd ((List.pairwise_append.mp nd).2.2 t z t (Db.mpr rfl)) (Nat.lt_irrefl t)
    have SL := rT L i (aP kvs) ((Rol.Row.tracks sp.wide x).take m)
    have dl : ((Rol.Row.tracks sp.wide x).take m).length <= 128 := by rw [Dn]; omega
    have big : 3 * (br L i (aP kvs) ((Rol.Row.tracks sp.wide x).take m)).length + 3 <= sizeLine := by rw [sizeLine_eq]; omega
    have kl : kv2.length < sizeLine := by rw [sizeLine_eq]; omega
    have nqd : q ≠ d := wD y6 y2 (by intro z; cases z)
    have nqe : q ≠ e := wD y6 y3 (by intro z; cases z)
    rw [tk1]
    generalize hD : (Rol.Row.tracks sp.wide x).take m = D at y6 y7 y8 nt SL dl big
    refine ⟨_, rfl, _, rfl, d, _, rfl, lU.k (k := Sum.inl (t : Int)) y2, _, rfl, ?_⟩
    cases ev : eJ kvs (Sum.inl (t : Int)) with
    | some v =>
     obtain ⟨j, rfl⟩ := q4 t v ev
     have gt : aP kvs t = some j := (xj q4).mpr ev
     obtain ⟨b, b1, b2, b3⟩ := pz (D := D) gt q6 nt
     have so := vF q6 U gt nt b1
     have fa := (gQ b1).2.2
     have dg : lU H3 d (.int t) (some (.int ((3 * j + 2 : Nat) : Int))) := by rw [<- ev]; exact lU.k (k := Sum.inl (t : Int)) y2
     have y2' : (L2.upd H3 e (.dK (gy kv2 (Sum.inl (t : Int)) (.int ((3 * j + 2 : Nat) : Int))))) d = some (.dK kvs) := by rw [ag nde]; exact y2
     have y6' : (L2.upd H3 e (.dK (gy kv2 (Sum.inl (t : Int)) (.int ((3 * j + 2 : Nat) : Int))))) q = some (.lst (iV (flat (br L i (aP kvs) D)))) := by rw [ag nqe]; exact y6
     have dg' : lU (L2.upd H3 e (.dK (gy kv2 (Sum.inl (t : Int)) (.int ((3 * j + 2 : Nat) : Int))))) d (.int t) (some (.int ((3 * j + 2 : Nat) : Int))) := by rw [<- ev]; exact lU.k (k := Sum.inl (t : Int)) y2'
     refine ⟨_, rfl, _, rfl, d, _, rfl, dg, _, rfl, _, rfl, e, _, rfl, vw.k (k := Sum.inl (t : Int)) y3 kl, ?_⟩
     refine ⟨_, rfl, _, rfl, _, rfl, d, _, rfl, dg', q, _, 3 * j + 2, .int b.len, rfl, rfl, SqL.of y6', by unfold iV; rw [C1, fa]; rfl, _, _, rfl, rfl, q, _, _, 3 * j + 2, rfl, rfl, y6', ?_, ?_⟩
     ·refine uB ?_
      unfold iV
      rw [CP]
      exact (CY.mp fa).1
     ·have G : L2.upd (L2.upd H3 e (.dK (gy kv2 (Sum.inl (t : Int)) (.int ((3 * j + 2 : Nat) : Int))))) q (.lst ((iV (flat (br L i (aP kvs) D))).set (3 * j + 2) (.int ((b.len : Int) + 1)))) q = some (.lst (iV (flat (br L i (aP kvs) (D ++ [t]))))) := by
       rw [upd_same, so, qk (b.len + 1) b1]
       unfold iV
       rw [List.map_set]
       rfl
      refine ⟨_, gy kv2 (Sum.inl (t : Int)) (.int ((3 * j + 2 : Nat) : Int)), rfl, aD (aD y1 he0) hq, ?_, ?_, y4.put t j, Nat.le_trans (iu _ _ _) (by omega), G, fun u i' hu' => ?_, fun u hu' => ?_⟩
      ·rw [ag nqd.symm]
       exact y2'
      ·rw [ag nqe.symm, upd_same]
      ·rw [gj y4] at hu'
       by_cases c : u = t
       ·rw [if_pos c] at hu'
        have : j = i' := C8 hu'
        subst this
        refine ⟨List.mem_append_right _ (Db.mpr c), { b with len := b.len + 1 }, ?_, by rw [c]; exact b2, by dsimp only; omega⟩
        rw [so, List.getElem?_set_self (CY.mp b1).1]
       ·rw [if_neg c] at hu'
        obtain ⟨z1, b', z2, z3, z4⟩ := y7 u i' hu'
        refine ⟨List.mem_append_left _ z1, b', ?_, z3, z4⟩
        have : j ≠ i' := fun z => by
         subst z
         have := C8 (z2.symm.trans b1)
         subst this
         omega
        rw [so, List.getElem?_set_ne this]
        exact z2
      ·rw [gj y4]
       by_cases c : u = t
       ·rw [if_pos c]
        rfl
       ·rw [if_neg c]
        exact y8 u ((Dh.mp hu').resolve_right fun z => c (Db.mp z))
    | none =>
     have gt : aP kvs t = none := (zH q4).mpr ev
     have so := rR (D := D) q6 gt
     refine ⟨_, rfl, .inl ⟨rfl, _, SqL.of y6⟩, _, rfl, _, rfl, (by show 3 <= sizeLine; decide), fun z hz => ?_⟩
     have s5 := aq.upd (o := .lst [.int (t : Int), .int (i : Nat), .int 1]) hz
     refine ⟨q, z, _, _, rfl, rfl, s5 _ _ y6, upd_same, by unfold iV; rw [CP, ck]; exact big, ?_⟩
     have G : iV (flat (br L i (aP kvs) D)) ++ [V.int (t : Int), V.int (i : Nat), V.int 1] = iV (flat (br L i (aP kvs) (D ++ [t]))) := by
      rw [so, uR]
      unfold iV
      rw [Dj]
      rfl
     refine ⟨_, rfl, q, _, rfl, .inl (SqL.of upd_same), _, _, rfl, rfl, _, rfl, _, rfl, e, _, rfl, vw.k (k := Sum.inl (t : Int)) (by rw [ag nqe.symm]; exact s5 _ _ y3) kl, ?_⟩
     have len : (((iV (flat (br L i (aP kvs) D)) ++ [V.int (t : Int), V.int (i : Nat), V.int 1]).length : Nat) : Int) - 1 = ((3 * (br L i (aP kvs) D).length + 2 : Nat) : Int) := by
      rw [CV]
      unfold iV
      rw [CP, ck]
      show ((3 * (br L i (aP kvs) D).length + 3 : Nat) : Int) - 1 = _
      omega
     dsimp only
     rw [len]
     refine ⟨_, gy kv2 (Sum.inl (t : Int)) (.int ((3 * (br L i (aP kvs) D).length + 2 : Nat) : Int)), rfl, aD (aD (y1.trans s5) hq) he0, ?_, upd_same, y4.put t _, Nat.le_trans (iu _ _ _) (by omega), ?_, fun u i' hu' => ?_, fun u hu' => ?_⟩
     ·rw [ag nde, ag nqd.symm]
      exact s5 _ _ y2
     ·rw [ag nqe, upd_same, G]
     ·rw [gj y4] at hu'
      by_cases c : u = t
      ·rw [if_pos c] at hu'
       have := C8 hu'
       subst this
       refine ⟨List.mem_append_right _ (Db.mpr c), ⟨t, i, 1⟩, ?_, c.symm, rfl⟩
       rw [so, List.getElem?_append_right (C7 _), Nat.sub_self]
       rfl
      ·rw [if_neg c] at hu'
       obtain ⟨z1, b', z2, z3, z4⟩ := y7 u i' hu'
       refine ⟨List.mem_append_left _ z1, b', ?_, z3, z4⟩
       rw [so, List.getElem?_append_left (CY.mp z2).1]
       exact z2
     ·rw [gj y4]
      by_cases c : u = t
      ·rw [if_pos c]
       rfl
      ·rw [if_neg c]
       exact y8 u ((Dh.mp hu').resolve_right fun z => c (Db.mp z))
   ·rintro σ H3 ⟨v6, kv2, rfl, y1, y2, y3, y4, y5, y6, y7, y8⟩
    have full : (Rol.Row.tracks sp.wide x).take (iV (tk sp.wide x)).length = Rol.Row.tracks sp.wide x := by
     unfold iV
     rw [CP, jR, List.take_length]
    rw [full] at y6 y7 y8
    refine ⟨_, rfl, _, _, _, _, e, kv2, rfl, y1, he0, y3, y4, ?_, ?_⟩
    ·rw [y6, SR]
    ·rw [<- SR]
     exact GN _ y7 y8
  ·rintro σ H' ⟨v3, v4, v5, v6, d, kvs, rfl, q1, q2, q3, q4, q5, q6⟩
   rw [CP, h3.length, List.take_length] at q5
   exact ⟨_, rfl, k H' q q1 q5⟩
end
end PH
end
section
namespace PH
open PySem PySem.Spec PyProof.Rows L2 PM
section
variable {P : Program} {w : World} {K : Fg} {mg : Str -> Option Value} {base : Heap}
def nX (K : Fg) : Sp := fun vs H Q _ => ∃ (a : Addr) (L : List Rol.Slot) (j : Nat) (x y : Rol.Slot), vs = [.ref a, .int ((3 * (j + 1) : Nat) : Int)] /\ SqL K H a (iV (flat L)) /\ L[j]? = some x /\ L[j + 1]? = some y /\ ∀ H' : Hp, aq H H' -> Q (.bl (Rol.Slot.before x y)) H'
theorem sG : al ["slots", "place", "before"] ["slots", "place"] (ae kW) := ⟨rfl, rfl, rfl, by decide +kernel, rfl, by decide +kernel, by decide +kernel⟩
theorem qM (x y : Rol.Slot) : HT.lexLt [(x.first : Int), (x.track : Int)] [(y.first : Int), (y.track : Int)] = Rol.Slot.before x y := by
 rw [HT.lexLt, HT.lexLt]
 have h := ra (a := y) (b := x)
 cases e : Rol.Slot.before x y with
 | true =>
  rcases h.mp e with z | ⟨z1, z2⟩
  ·rw [if_neg (by omega)]
   exact C0 (by omega)
  ·rw [if_pos (by omega), if_neg (by omega)]
   exact C0 (by omega)
 | false =>
  have n : ¬ (x.first < y.first ∨ (x.first = y.first /\ x.track < y.track)) := fun z => by
   rw [h.mpr z] at e
   cases e
  by_cases c : (x.first : Int) = y.first
  ·rw [if_pos c]
   by_cases d : (x.track : Int) = y.track
   ·rw [if_pos d]
    rfl
   ·rw [if_neg d]
    exact C6 (by omega)
  ·rw [if_neg c]
   exact C6 (by omega)
theorem wl {f : Addr} {fd : FuncData} (F : Fun K "in_order" "in_order" kW f fd) : bc P w K mg base CX0 1 f fd ["slots", "place"] (nX K) := by
 refine F.ok sG (fun vs H Q E h => ?_) (fun cdv A outer s H vs Q E hr h => ?_)
 ·obtain ⟨_, _, _, _, _, rfl, _⟩ := h
  rfl
 ·obtain ⟨a, L, j, x, y, rfl, hs, hx, hy, k⟩ := h
  obtain ⟨x1, x2, x3⟩ := gQ hx
  obtain ⟨y1, y2, y3⟩ := gQ hy
  have at' : ∀ {z : Int} {i : Nat} {v : Int}, z = (i : Int) -> (flat L)[i]? = some v -> atI (iV (flat L)) z = some (.int v) := fun e h => aQ e (by unfold iV; rw [C1, h]; rfl)
  refine ⟨_, ad (aw (i := 2) sG.nd rfl (Or.inl rfl) (tz (aa (aL am (pv 0) (aM dH (pv 1) ai) (fun _ _ => rfl)) (aa (aL am (pv 0) (aM dH (pv 1) ai) (fun _ _ => rfl)) ac))))
   (af (au (gK (Av hr.units0) (pv 2) (tz (aa (aL am (pv 0) (aM bj (pv 1) ai) (fun _ _ => rfl)) (aa (aL am (pv 0) (pv 1) (fun _ _ => rfl)) ac))) (aE _)))), ?_⟩
  refine ⟨_, rfl, _, rfl, _, _, rfl, rfl, a, _, _, _, rfl, rfl, hs, at' (i := 3 * j + 1) (by omega) x2, _, rfl, _, rfl, _, _, rfl, rfl, a, _, _, _, rfl, rfl, hs, at' (i := 3 * j) (by omega) x1, (by show 2 <= sizeLine; decide), fun t ht => ?_⟩
  have s1 : aq H _ := aq.upd (o := .tup [.int x.first, .int x.track]) ht
  refine ⟨_, rfl, _, rfl, _, rfl, _, _, rfl, rfl, a, _, _, _, rfl, rfl, s1.seq hs, at' (i := 3 * (j + 1) + 1) (by omega) y2, _, rfl, _, rfl, a, _, _, _, rfl, rfl, s1.seq hs, at' (i := 3 * (j + 1)) rfl y1, (by show 2 <= sizeLine; decide), fun u hu => ?_⟩
  have s2 := aq.upd (o := .tup [.int y.first, .int y.track]) hu
  refine ⟨t, u, [(x.first : Int), (x.track : Int)], [(y.first : Int), (y.track : Int)], rfl, rfl, SqT.of (s2 _ _ upd_same), SqT.of upd_same, ?_⟩
  rw [qM]
  exact k _ (s1.trans s2)
def fL (n w : Nat) (L : List Rol.Slot) : Nat := (Rol.badSlot n w 0 [] L).getD L.length
def nQ (K : Fg) : Sp := fun vs H Q _ => ∃ (a : Addr) (L : List Rol.Slot) (wd n : Nat), vs = [.int wd, .int n, .ref a] /\ SqL K H a (iV (flat L)) /\ L.length <= 2000 /\ ∀ H' : Hp, aq H H' -> Q (.int (fL n wd L : Nat)) H'
theorem gF : al ["width", "length", "slots", "ends", "place", "track", "first", "end"] ["width", "length", "slots"] (ae cq) := ⟨rfl, rfl, rfl, by decide +kernel, rfl, by decide +kernel, by decide +kernel⟩
theorem rg3 {m : Nat} (h : m <= 2000) : RgC 0 ((3 * m : Nat) : Int) 3 m := by
 refine ⟨by decide, by decide, ?_, ?_⟩
 ·unfold Builtin.Range.small Builtin.Range.rangeFitsLong Builtin.Range.rangeSize
  simp
  omega
 ·unfold Builtin.Range.rangeSize
  rw [if_pos (by decide)]
  split <;> omega
def db (kvs : List (Key × V)) (t : Nat) : Option Nat := match eJ kvs (Sum.inl (t : Int)) with
 | some (.int z) => some z.toNat
 | _ => none
def Ends (kvs : List (Key × V)) : Prop := ∀ t : Nat, ∀ v, eJ kvs (Sum.inl (t : Int)) = some v -> ∃ j : Nat, v = .int (j : Int)
theorem jt {kvs : List (Key × V)} {t j : Nat} (e : eJ kvs (Sum.inl (t : Int)) = some (.int (j : Int))) : db kvs t = some j := by
 unfold db
 rw [e]
 simp
theorem uV {kvs : List (Key × V)} {t : Nat} (e : eJ kvs (Sum.inl (t : Int)) = none) : db kvs t = none := by
 unfold db
 rw [e]
theorem mY (kvs : List (Key × V)) (t j : Nat) : db (gy kvs (Sum.inl (t : Int)) (.int (j : Int))) = fun u => if u = t then some j else db kvs u := by
 funext u
 by_cases c : u = t
 ·subst c
  rw [if_pos rfl]
  exact jt (by rw [cG, if_pos rfl])
 ·rw [if_neg c]
  unfold db
  rw [cG, if_neg (fun z => c (by have := Sum.inl.inj z; omega))]
theorem wf {f : Addr} {fd : FuncData} (F : Fun K "standing_slots" "standing_slots" cq f fd) (B : TB mg) (U : ao P w K mg base "in_order" ["slots", "place"] 1 (nX K)) : bc P w K mg base CX0 2 f fd ["width", "length", "slots"] (nQ K) := by
 obtain ⟨fU, fdU, mU, kU, bU, GU⟩ := U.ex
 refine F.ok gF (fun vs H Q E h => ?_) (fun cdv A outer s H vs Q E hr h => ?_)
 ·obtain ⟨_, _, _, _, rfl, _⟩ := h
  rfl
 ·obtain ⟨a, L, wd, n, rfl, hs, hL, k⟩ := h
  have hu := AO hr
  refine ⟨_, ad (aw (i := 3) gF.nd rfl (Or.inl rfl) lg)
   (ad (ca PassesOwn.never rfl (mv rfl B.range (aa ai (aa (ak aJ (by rfl) B.len Dd (aa (pv 2) ac)) (aa ai ac)))) (aG (i := 4) gF.nd rfl (Or.inl rfl))
    (ad (aw (i := 5) gF.nd rfl (Or.inl rfl) (aL am (pv 2) (pv 4) (fun _ _ => rfl)))
    (ad (aw (i := 6) gF.nd rfl (Or.inl rfl) (aL am (pv 2) (aM bj (pv 4) ai) (fun _ _ => rfl)))
    (ad (aw (i := 7) gF.nd rfl (Or.inl rfl) (aM bj (pv 6) (aL am (pv 2) (aM bj (pv 4) ai) (fun _ _ => rfl))))
    (ad (bp (oF (aB tP (pv 5) (pv 0) (aE _)) (oF (aB gd (pv 7) (pv 6) (aE _)) (mi (aB jH (pv 7) (pv 1) (aE _))))).pt (af (au (aM fm (pv 4) ai))) aK)
    (ad (bp (mj (aB jH (pv 4) ai (aE _)) (iR (g8 (iT (aj GU hr (by rfl) mU kU bU .nil aC (aa (pv 2) (aa (pv 4) ac))))))).pt (af (au (aM fm (pv 4) ai))) aK)
    (ad (bp (mj (xz (xE hu (pv 5) (pv 3))) (iR (aB jc (pv 6) (oM hu (pv 3) (pv 5) (fun _ _ => rfl)) (aE _)))).pt (af (au (aM fm (pv 4) ai))) aK)
    (af (oH hu (pv 3) (pv 5) (pv 7) rfl)))))))))
   (af (au (aM fm (ak aJ (by rfl) B.len Dd (aa (pv 2) ac)) ai)))), ?_⟩
  intro d hd
  have s0 : aq H (L2.upd H d (.dK [])) := aq.upd hd
  have fl : ((iV (flat L)).length : Int) = ((3 * L.length : Nat) : Int) := by unfold iV; rw [CP, ck]
  refine ⟨_, rfl, a, _, rfl, .inl (s0.seq hs), _, _, _, L.length, rfl, by rw [fl]; exact rg3 hL, ?_⟩
  refine j8 (lo := 0) (c := 3) (n := L.length) (fun i σ H' => ∃ (v4 v5 v6 v7 : Option V) (kvs : List (Key × V)), σ = [some (.int wd), some (.int n), some (.ref a), some (.ref d), v4, v5, v6, v7] /\ aq H H' /\ H' d = some (.dK kvs) /\ Ends kvs /\ kvs.length <= i /\ jD (L.take i) (db kvs) /\ Rol.badSlot n wd 0 [] L = Rol.badSlot n wd i (L.take i).reverse (L.drop i))
   ⟨none, none, none, none, [], rfl, s0, upd_same, (fun t v e => by cases e), De _, by rw [List.take_zero]; exact wS, rfl⟩ ?_ ?_
  ·rintro i σ H' hi ⟨v4, v5, v6, v7, kvs, rfl, q1, q2, q3, q4, q5, q6⟩
   have ea : L[i]? = some (L[i]) := Dg hi
   generalize L[i] = b at ea
   obtain ⟨x1, x2, x3⟩ := gQ ea
   have at' : ∀ {z : Int} {j : Nat} {v : Int}, z = (j : Int) -> (flat L)[j]? = some v -> atI (iV (flat L)) z = some (.int v) := fun e h => aQ e (by unfold iV; rw [C1, h]; rfl)
   have hs' := q1.seq hs
   have out : ∀ H2 : Hp, aq H H2 -> ¬ mX n wd (L.take i) b -> Q (.int ((0 + (i : Int) * 3) / 3)) H2 := fun H2 s2 nf => by
    have e : fL n wd L = i := by
     unfold fL
     rw [q6, xf ea nf]
     rfl
    have := k H2 s2
    rw [e] at this
    rw [show (0 + (i : Int) * 3) / 3 = (i : Int) by omega]
    exact this
   refine ⟨_, rfl, _, rfl, a, _, _, _, rfl, rfl, hs', at' (j := 3 * i) (by omega) x1, ?_⟩
   refine ⟨_, rfl, _, rfl, _, _, rfl, rfl, a, _, _, _, rfl, rfl, hs', at' (j := 3 * i + 1) (by omega) x2, ?_⟩
   refine ⟨_, rfl, _, rfl, _, rfl, _, _, rfl, rfl, a, _, _, _, rfl, rfl, hs', at' (j := 3 * i + 2) (by omega) x3, _, _, rfl, rfl, ?_⟩
   refine ⟨_, rfl, _, rfl, _, _, rfl, rfl, _, rfl, ?_⟩
   have kl : kvs.length < sizeLine := by rw [sizeLine_eq]; omega
   refine eR (fun c1 => ?_) (fun c1 => ?_)
   ·have := Dc c1
    exact ⟨_, rfl, _, _, rfl, rfl, ⟨by decide, by decide⟩, out _ q1 fun f => absurd (eD.mp f.1) (by omega)⟩
   have c1' : ¬ (wd : Int) <= b.track := fun z => c1 (C0 z)
   refine ⟨_, rfl, _, rfl, rfl, _, rfl, ?_⟩
   refine eR (fun c2 => ?_) (fun c2 => ?_)
   ·have := V.int.inj (Dc c2)
    exact ⟨_, rfl, _, _, rfl, rfl, ⟨by decide, by decide⟩, out _ q1 fun f => absurd (eD.mp f.1) (by omega)⟩
   have c2' : ¬ (b.first : Int) + b.len = b.first := fun z => c2 (C0 (congrArg V.int z))
   refine ⟨_, rfl, _, rfl, _, _, rfl, rfl, _, rfl, ?_⟩
   refine eR (fun c3 => ?_) (fun c3 => ?_)
   ·have := Dc c3
    exact ⟨_, rfl, _, _, rfl, rfl, ⟨by decide, by decide⟩, out _ q1 fun f => absurd (eD.mp f.1) (by omega)⟩
   have c3' : ¬ (n : Int) < (b.first : Int) + b.len := fun z => c3 (C0 z)
   have ins : Rol.Slot.inside n wd b = true := eD.mpr (by omega)
   refine ⟨_, rfl, _, _, rfl, rfl, _, rfl, ?_⟩
   refine eR (fun c4 => ?_) (fun c4 => ?_)
   ·have c4' := Dc c4
    obtain ⟨j, rfl⟩ : ∃ j, i = j + 1 := ⟨i - 1, by omega⟩
    have ex : L[j]? = some (L[j]'(by omega)) := Dg _
    generalize L[j]'(by omega) = x at ex
    refine ⟨_, rfl, _, rfl, a, L, j, x, b, by rw [show (0 + ((j + 1 : Nat) : Int) * 3) = ((3 * (j + 1) : Nat) : Int) by omega]; rfl, hs', ex, ea, fun H2 s2 => ⟨_, rfl, ?_⟩⟩
    cases bf : Rol.Slot.before x b with
    | false =>
     exact ⟨_, rfl, _, _, rfl, rfl, ⟨by decide, by decide⟩, out _ (q1.trans s2) fun f => by
      have := f.2.1
      rw [mK ex, Option.all_some, bf] at this
      cases this⟩
    | true =>
     have bef : ((L.take (j + 1)).reverse.head?.all fun x => Rol.Slot.before x b) = true := by
      rw [mK ex, Option.all_some, bf]
     -- behind those before
     refine ⟨_, rfl, _, rfl, d, _, rfl, lU.k (k := Sum.inl (b.track : Int)) (s2 _ _ q2), _, rfl, ?_⟩
     have put : (∀ z, db kvs b.track = some z -> z < b.first) -> ∃ (v4 v5 v6 v7 : Option V) (kvs' : List (Key × V)), [some (V.int wd), some (.int n), some (.ref a), some (.ref d), some (.int (0 + ((j + 1 : Nat) : Int) * 3)), some (.int b.track), some (.int b.first), some (.int ((b.first : Int) + b.len))] = [some (.int wd), some (.int n), some (.ref a), some (.ref d), v4, v5, v6, v7] /\ aq H (L2.upd H2 d (.dK (gy kvs (Sum.inl (b.track : Int)) (.int ((b.first : Int) + b.len))))) /\ L2.upd H2 d (.dK (gy kvs (Sum.inl (b.track : Int)) (.int ((b.first : Int) + b.len)))) d = some (.dK kvs') /\ Ends kvs' /\ kvs'.length <= j + 1 + 1 /\ jD (L.take (j + 1 + 1)) (db kvs') /\ Rol.badSlot n wd 0 [] L = Rol.badSlot n wd (j + 1 + 1) (L.take (j + 1 + 1)).reverse (L.drop (j + 1 + 1)) := fun lt => by
      have cast : (b.first : Int) + b.len = ((b.first + b.len : Nat) : Int) := by omega
      refine ⟨_, _, _, _, _, rfl, aD (q1.trans s2) hd, upd_same, ?_, Nat.le_trans (iu _ _ _) (by omega), ?_, ?_⟩
      ·intro t v e
       rw [cast, cG] at e
       split at e
       ·exact ⟨_, (C8 e).symm⟩
       ·exact q3 t v e
      ·rw [cast, mY, List.take_add_one, ea]
       exact ql q5 lt
      ·rw [q6, xP ea ⟨ins, bef, (gr q5).mpr lt⟩]
     cases ev : eJ kvs (Sum.inl (b.track : Int)) with
     | none => exact ⟨_, rfl, _, rfl, _, rfl, d, _, rfl, vw.k (k := Sum.inl (b.track : Int)) (s2 _ _ q2) kl, put fun z hz => by rw [uV ev] at hz; cases hz⟩
     | some v =>
      obtain ⟨z, rfl⟩ := q3 _ v ev
      have dg : lU H2 d (.int b.track) (some (.int (z : Int))) := by rw [<- ev]; exact lU.k (k := Sum.inl (b.track : Int)) (s2 _ _ q2)
      refine ⟨_, rfl, _, rfl, _, rfl, d, _, rfl, dg, _, _, rfl, rfl, _, rfl, ?_⟩
      refine eR (fun c7 => ?_) (fun c7 => ?_)
      ·have := Dc c7
       exact ⟨_, rfl, _, _, rfl, rfl, ⟨by decide, by decide⟩, out _ (q1.trans s2) fun f => by
        have := (gr q5).mp f.2.2 z (jt ev)
        omega⟩
      ·exact ⟨_, rfl, _, rfl, _, rfl, d, _, rfl, vw.k (k := Sum.inl (b.track : Int)) (s2 _ _ q2) kl, put fun y hy => by
        rw [jt ev] at hy
        have := C8 hy
        have : ¬ (b.first : Int) <= z := fun q => c7 (C0 q)
        omega⟩
   ·have c4' : ¬ (0 : Int) < 0 + (i : Int) * 3 := fun z => c4 (C0 z)
    have i0 : i = 0 := by omega
    have bef : ((L.take i).reverse.head?.all fun x => Rol.Slot.before x b) = true := by
     rw [i0]
     rfl
    obtain ⟨H2, s2, e2⟩ : ∃ H2, aq H' H2 /\ H2 = H' := ⟨H', aq.refl H', rfl⟩
    rw [<- e2]
    -- behind those before
    refine ⟨_, rfl, _, rfl, d, _, rfl, lU.k (k := Sum.inl (b.track : Int)) (s2 _ _ q2), _, rfl, ?_⟩
    have put : (∀ z, db kvs b.track = some z -> z < b.first) -> ∃ (v4 v5 v6 v7 : Option V) (kvs' : List (Key × V)), [some (V.int wd), some (.int n), some (.ref a), some (.ref d), some (.int (0 + (i : Int) * 3)), some (.int b.track), some (.int b.first), some (.int ((b.first : Int) + b.len))] = [some (.int wd), some (.int n), some (.ref a), some (.ref d), v4, v5, v6, v7] /\ aq H (L2.upd H2 d (.dK (gy kvs (Sum.inl (b.track : Int)) (.int ((b.first : Int) + b.len))))) /\ L2.upd H2 d (.dK (gy kvs (Sum.inl (b.track : Int)) (.int ((b.first : Int) + b.len)))) d = some (.dK kvs') /\ Ends kvs' /\ kvs'.length <= i + 1 /\ jD (L.take (i + 1)) (db kvs') /\ Rol.badSlot n wd 0 [] L = Rol.badSlot n wd (i + 1) (L.take (i + 1)).reverse (L.drop (i + 1)) := fun lt => by
     have cast : (b.first : Int) + b.len = ((b.first + b.len : Nat) : Int) := by omega
     refine ⟨_, _, _, _, _, rfl, aD (q1.trans s2) hd, upd_same, ?_, Nat.le_trans (iu _ _ _) (by omega), ?_, ?_⟩
     ·intro t v e
      rw [cast, cG] at e
      split at e
      ·exact ⟨_, (C8 e).symm⟩
      ·exact q3 t v e
     ·rw [cast, mY, List.take_add_one, ea]
      exact ql q5 lt
     ·rw [q6, xP ea ⟨ins, bef, (gr q5).mpr lt⟩]
    cases ev : eJ kvs (Sum.inl (b.track : Int)) with
    | none => exact ⟨_, rfl, _, rfl, _, rfl, d, _, rfl, vw.k (k := Sum.inl (b.track : Int)) (s2 _ _ q2) kl, put fun z hz => by rw [uV ev] at hz; cases hz⟩
    | some v =>
     obtain ⟨z, rfl⟩ := q3 _ v ev
     have dg : lU H2 d (.int b.track) (some (.int (z : Int))) := by rw [<- ev]; exact lU.k (k := Sum.inl (b.track : Int)) (s2 _ _ q2)
     refine ⟨_, rfl, _, rfl, _, rfl, d, _, rfl, dg, _, _, rfl, rfl, _, rfl, ?_⟩
     refine eR (fun c7 => ?_) (fun c7 => ?_)
     ·have := Dc c7
      exact ⟨_, rfl, _, _, rfl, rfl, ⟨by decide, by decide⟩, out _ (q1.trans s2) fun f => by
       have := (gr q5).mp f.2.2 z (jt ev)
       omega⟩
     ·exact ⟨_, rfl, _, rfl, _, rfl, d, _, rfl, vw.k (k := Sum.inl (b.track : Int)) (s2 _ _ q2) kl, put fun y hy => by
       rw [jt ev] at hy
       have := C8 hy
       have : ¬ (b.first : Int) <= z := fun q => c7 (C0 q)
       omega⟩
  ·rintro σ H' ⟨v4, v5, v6, v7, kvs, rfl, q1, q2, q3, q4, q5, q6⟩
   refine ⟨_, rfl, a, _, rfl, .inl (q1.seq hs), _, _, rfl, rfl, ⟨by decide, by decide⟩, ?_⟩
   rw [List.drop_length] at q6
   have e : fL n wd L = L.length := by
    unfold fL
    rw [q6, Rol.badSlot]
    rfl
   have := k H' q1
   rw [e] at this
   dsimp only
   rw [fl, show ((3 * L.length : Nat) : Int) / 3 = (L.length : Int) by omega]
   exact this
end
end PH
end
section
namespace PH
open PySem PySem.Spec PyProof.Rows L2 PM
structure gR (H : Hp) (as : List Addr) (f : Nat -> List Int) : Prop where
 nd : as.Nodup
 at_ : ∀ k a, as[k]? = some a -> H a = some (.lst (iV (f k)))
theorem gR.put {H : Hp} {as : List Addr} {f : Nat -> List Int} (h : gR H as f) {k : Nat} {a : Addr} (e : as[k]? = some a) (l : List Int) : gR (L2.upd H a (.lst (iV l))) as fun x => if x = k then l else f x := by
 refine ⟨h.nd, fun j b hb => ?_⟩
 by_cases c : j = k
 ·subst c
  have : b = a := C8 (hb.symm.trans e)
  subst this
  rw [upd_same, if_pos rfl]
 ·rw [if_neg c, ag (fun z => c (BJ h.nd hb (by rw [z]; exact e)))]
  exact h.at_ j b hb
theorem az.off {H : Hp} {w : Nat} {D : Addr} {o : HO} : ∀ {rs : List Addr} {xs : List Rol.Row}, D ∉ rs -> az H w rs xs -> az (L2.upd H D o) w rs xs
 | [], [], _, _ => trivial
 | r :: rs, x :: xs, n, h => ⟨by rw [ag (fun z => n (by rw [z]; exact C3 ..))]; exact h.1, az.off (fun z => n (C2 _ z)) h.2⟩
 | [], _ :: _, _, h => h.elim
 | _ :: _, [], _, h => h.elim
structure jC (P : Program) (w : World) (K : Fg) (mg : Str -> Option Value) (base : Heap) (C : Addr) : Prop where
 t : cn K mg C
 ex : ∃ (f : Addr) (fd : FuncData), Mk K C f /\ ci K fd ["self", "width", "rows"] [] /\ bc P w K mg base CX0 1 f fd ["self", "width", "rows"] (xt C)
section
variable {P : Program} {w : World} {K : Fg} {mg : Str -> Option Value} {base : Heap}
def r9 (K : Fg) (C : Addr) : Sp := fun vs H Q _ => ∃ (a : Addr) (L : List Rol.Slot) (wd n : Nat), vs = [.int wd, .int n, .ref a] /\ SqL K H a (iV (flat L)) /\ L.length <= 2000 /\ 1 <= wd /\ wd <= 128 /\ n <= 256 /\ Rol.badSlot n wd 0 [] L = none /\ ∀ (H' : Hp) (p : Addr), aq H H' -> nI C H H' p (Rol.fill n wd L) -> Q (.ref p) H'
theorem gY : al ["width", "length", "slots", "rows", "place", "first", "number", "row"] ["width", "length", "slots"] (ae bz) := ⟨rfl, rfl, rfl, by decide +kernel, rfl, by decide +kernel, by decide +kernel⟩
theorem zo : dQ ["width", "length", "slots", "rows", "place", "first", "number", "row"] (ae bz) (lcS [".0", "number"] []) [("number", 6)] := ⟨rfl, by decide +kernel, by decide +kernel, by decide +kernel, by decide +kernel⟩
theorem zn : dQ ["width", "length", "slots", "rows", "place", "first", "number", "row"] (ae bz) (lcS [".0", "row"] ["sorted"]) [("row", 7)] := ⟨rfl, by decide +kernel, by decide +kernel, by decide +kernel, by decide +kernel⟩
theorem yN {f C : Addr} {fd : FuncData} (F : Fun K "strip_of_slots" "strip_of_slots" bz f fd) (M : jC P w K mg base C) (B : TB mg) : bc P w K mg base CX0 3 f fd ["width", "length", "slots"] (r9 K C) := by
 obtain ⟨fI, fdI, mI, bI, GI⟩ := M.ex
 refine F.ok gY (fun vs H Q E h => ?_) (fun cdv A outer s H vs Q E hr h => ?_)
 ·obtain ⟨_, _, _, _, rfl, _⟩ := h
  rfl
 ·obtain ⟨a, L, wd, n, rfl, hs, hL, w1, w2, hn, bad, k⟩ := h
  have good := yZ bad
  refine ⟨_, ad (pN (i := 3) rfl gY.nd rfl rfl rfl (iY rfl B.range (aa (pv 1) ac)) zo (fun _ _ _ _ _ => aG (i := 6) gY.nd rfl (Or.inl rfl)) (fun _ _ _ _ _ => cu) (fun _ _ _ _ _ => aH ac))
   (ad (ca PassesOwn.never rfl (mv rfl B.range (aa ai (aa (ak aJ (by rfl) B.len Dd (aa (pv 2) ac)) (aa ai ac)))) (aG (i := 4) gY.nd rfl (Or.inl rfl))
    (ad (aw (i := 5) gY.nd rfl (Or.inl rfl) (aL am (pv 2) (aM bj (pv 4) ai) (fun _ _ => rfl)))
    (af (ca PassesOwn.never rfl (tu rfl B.range (aa (pv 5) (aa (aM bj (pv 5) (aL am (pv 2) (aM bj (pv 4) ai) (fun _ _ => rfl))) ac))) (aG (i := 6) gY.nd rfl (Or.inl rfl))
     (af (bv (jb PySem.F.plainAttrs_list PySem.F.slot_list_append PySem.F.type_list_append cy (aL am (pv 3) (pv 6) (fun _ _ => rfl)) (aa (aL am (pv 2) (pv 4) (fun _ _ => rfl)) ac))))))))
   (af (au (fk mI GI hr rfl M.t.mgC bI .nil aC (aa (pv 0) (aa (ja rfl gY.nd (bq (pv 3)) zn (fun _ _ _ _ _ => aG (i := 7) gY.nd rfl (Or.inl rfl)) (fun _ _ _ _ _ => cu) (fun _ _ _ _ _ => ak (qW : eL _ _ (pM K)) (by rfl) B.sorted nu (aa (pv 7) ac))) ac)))))), ?_⟩
  refine ⟨_, rfl, _, rfl, by omega, by omega, fun q hq => ?_⟩
  have sq : aq H (L2.upd H q (.lst [])) := aq.upd hq
  refine pY (lo := 0) (n := n) (fun i H' => ∃ as : List Addr, H' q = some (.lst (as.map V.ref)) /\ as.length = i /\ aq H H' /\ (∀ c ∈ as, H c = none) /\ q ∉ as /\ gR H' as fun _ => []) ⟨[], upd_same, rfl, sq, (fun c hc => by cases hc), (by simp), .nil, fun k a e => by simp at e⟩ ?_ ?_
  ·rintro i H' hi ⟨as, q1, q2, q3, q4, q5, q6⟩
   refine ⟨rfl, De _, fun p hp => ?_⟩
   have s1 : aq H' (L2.upd H' p (.lst [])) := aq.upd hp
   have npq : q ≠ p := ah q1 hp
   have npa : p ∉ as := fun z => by
    obtain ⟨k, hk, e⟩ := List.getElem_of_mem z
    have := q6.at_ k p (by rw [Dg hk, e])
    rw [hp] at this
    cases this
   refine ⟨_, s1 _ _ q1, by rw [CP, sizeLine_eq]; omega, as ++ [p], by rw [upd_same, Dj]; rfl, by rw [CV, q2]; rfl, aD (q3.trans s1) hq, fun c hc => ?_, fun z => ?_, ?_, fun k c e => ?_⟩
   ·rcases Dh.mp hc with z | z
    ·exact q4 c z
    ·rw [Db.mp z]
     exact q3.free hp
   ·rcases Dh.mp z with z | z
    ·exact q5 z
    ·exact npq (Db.mp z)
   ·exact uk q6.nd npa
   ·by_cases lt : k < as.length
    ·rw [List.getElem?_append_left lt] at e
     have ne : c ≠ q := fun z => q5 (by rw [<- z]; exact List.mem_of_getElem? e)
     rw [ag ne]
     exact s1 _ _ (q6.at_ k c e)
    ·rw [List.getElem?_append_right (by omega)] at e
     have : p = c := by
      have := List.mem_of_getElem? e
      exact (Db.mp this).symm
     subst this
     rw [ag npq.symm, upd_same]
     rfl
  rintro H1 ⟨as, a1, a2, a3, a4, a5, a6⟩
  have fl : ((iV (flat L)).length : Int) = ((3 * L.length : Nat) : Int) := by unfold iV; rw [CP, ck]
  refine ⟨_, rfl, a, _, rfl, .inl (a3.seq hs), _, _, _, L.length, rfl, by rw [fl]; exact rg3 hL, ?_⟩
  refine j8 (lo := 0) (c := 3) (n := L.length) (fun i σ H' => ∃ (v4 v5 v6 : Option V), σ = [some (.int wd), some (.int n), some (.ref a), some (.ref q), v4, v5, v6, none] /\ aq H H' /\ H' q = some (.lst (as.map V.ref)) /\ gR H' as (given (L.take i)))
   ⟨none, none, none, rfl, a3, a1, a6⟩ ?_ ?_
  ·rintro i σ H' hi ⟨v4, v5, v6, rfl, q1, q2, q3⟩
   have ea : L[i]? = some (L[i]) := Dg hi
   generalize L[i] = b at ea
   obtain ⟨x1, x2, x3⟩ := gQ ea
   obtain ⟨b1, b2, b3⟩ := good.ins b (List.mem_of_getElem? ea)
   have at' : ∀ {z : Int} {j : Nat} {v : Int}, z = (j : Int) -> (flat L)[j]? = some v -> atI (iV (flat L)) z = some (.int v) := fun e h => aQ e (by unfold iV; rw [C1, h]; rfl)
   have hs' := q1.seq hs
   refine ⟨_, rfl, _, rfl, _, _, rfl, rfl, a, _, _, _, rfl, rfl, hs', at' (j := 3 * i + 1) (by omega) x2, ?_⟩
   refine ⟨_, rfl, _, rfl, _, rfl, _, rfl, _, _, rfl, rfl, a, _, _, _, rfl, rfl, hs', at' (j := 3 * i + 2) (by omega) x3, _, _, rfl, rfl, _, _, rfl, ⟨by omega, by omega, by omega, by omega⟩, ?_⟩
   have eN : ((b.first : Int) + b.len - b.first).toNat = b.len := by omega
   refine mT (lo := (b.first : Int)) (n := ((b.first : Int) + b.len - b.first).toNat) (fun m σ H' => ∃ v6 : Option V, σ = [some (.int wd), some (.int n), some (.ref a), some (.ref q), some (.int (0 + (i : Int) * 3)), some (.int b.first), v6, none] /\ aq H H' /\ H' q = some (.lst (as.map V.ref)) /\ gR H' as (cj (L.take i) b m))
    ⟨v6, rfl, q1, q2, by rw [oW]; exact q3⟩ ?_ ?_
   ·rintro m σ H2 hm ⟨v6, rfl, y1, y2, y3⟩
    rw [eN] at hm
    have hk : b.first + m < as.length := by omega
    have ec : as[b.first + m]? = some (as[b.first + m]) := Dg hk
    generalize as[b.first + m] = c at ec
    have hc := y3.at_ _ _ ec
    have mc := List.mem_of_getElem? ec
    have gl := uI (L.take i) b m (b.first + m)
    rw [Dn] at gl
    refine ⟨_, rfl, _, rfl, q, _, _, _, rfl, rfl, SqL.of y2, aQ (j := b.first + m) (v := .ref c) (by omega) (by rw [C1, ec]; rfl), .inl ⟨rfl, _, SqL.of hc⟩, _, rfl, _, rfl, a, _, _, _, rfl, rfl, y1.seq hs, at' (j := 3 * i) (by omega) x1, c, _, _, rfl, rfl, hc, by unfold iV; rw [CP, sizeLine_eq]; omega, ?_⟩
    have e : iV (cj (L.take i) b m (b.first + m)) ++ [V.int b.track] = iV (cj (L.take i) b m (b.first + m) ++ [(b.track : Int)]) := by
     unfold iV
     rw [Dj]
     rfl
    refine ⟨_, rfl, aD y1 (a4 c mc), ?_, ?_⟩
    ·rw [ag (fun z => a5 (by rw [z]; exact mc))]
     exact y2
    ·rw [e, oX]
     have := y3.put ec (cj (L.take i) b m (b.first + m) ++ [(b.track : Int)])
     refine ⟨this.nd, fun j d hd => ?_⟩
     rw [this.at_ j d hd]
     by_cases z : j = b.first + m
     ·rw [if_pos z, if_pos z, z]
     ·rw [if_neg z, if_neg z]
   ·rintro σ H2 ⟨v6, rfl, y1, y2, y3⟩
    rw [eN, qS, show L.take i ++ [b] = L.take (i + 1) by rw [List.take_add_one, ea]; rfl] at y3
    exact ⟨_, _, _, rfl, y1, y2, y3⟩
  ·rintro σ H' ⟨v4, v5, v6, rfl, q1, q2, q3⟩
   rw [List.take_length] at q3
   refine ⟨_, rfl, _, rfl, q, rfl, ⟨_, SqL.of q2⟩, fun D hD => ?_⟩
   have sD : aq H' (L2.upd H' D (.lst [])) := aq.upd hD
   refine cV (K := K) (a := q) (xs := as.map V.ref) (fun i H3 => ∃ rs : List Addr, H3 D = some (.lst (rs.map V.ref)) /\ rs.length = i /\ aq H' H3 /\ D ∉ rs /\ (∀ c ∈ rs, H' c = none) /\ az H3 wd rs (((List.range n).map (gJ wd L)).take i)) ⟨[], upd_same, rfl, sD, by simp, (fun c hc => by cases hc), by rw [List.take_zero]; trivial⟩ (fun i H3 _ ⟨_, _, _, z, _⟩ => SqL.of (z _ _ q2)) ?_ ?_
   ·rintro i v H3 hv ⟨rs, y1, y2, y3, y4, y0, y5⟩
    rw [C1] at hv
    obtain ⟨c, ec, rfl⟩ := Option.map_eq_some_iff.mp hv
    have hi : i < n := by
     have := (CY.mp ec).1
     omega
    refine ⟨rfl, _, rfl, c, given L i, rfl, SqL.of (y3 _ _ (q3.at_ _ _ ec)), fun ns p pm so hp => ?_⟩
    have en := mL good i pm so
    subst en
    have s1 := aq.upd (o := .lst ((tk wd (gJ wd L i)).map V.int)) hp
    have nDp : D ≠ p := ah y1 hp
    refine ⟨_, s1 _ _ y1, by rw [CP, sizeLine_eq]; omega, rs ++ [p], by rw [upd_same, Dj]; rfl, by rw [CV, y2]; rfl, aD (y3.trans s1) hD, fun z => ?_, fun c hc => ?_, ?_⟩
    ·rcases Dh.mp z with z | z
     ·exact y4 z
     ·exact nDp (Db.mp z)
    ·rcases Dh.mp hc with z | z
     ·exact y0 c z
     ·rw [Db.mp z]
      exact y3.free hp
    ·have er : ((List.range n).map (gJ wd L)).take (i + 1) = ((List.range n).map (gJ wd L)).take i ++ [gJ wd L i] := by
      rw [List.take_add_one, C1, List.getElem?_range hi]
      rfl
     rw [er]
     refine az.append (az.off y4 (y5.same s1)) ⟨?_, trivial⟩
     rw [ag nDp.symm, upd_same]
     rfl
   ·rintro H3 ⟨rs, y1, y2, y3, y4, y0, y5⟩
    rw [CP, a2, show ((List.range n).map (gJ wd L)).take n = (List.range n).map (gJ wd L) from List.take_of_length_le (by simp)] at y5
    intro x dx' nx ndx nex
    refine ⟨x, dx', D, wd, rfl, upd_same, fun H4 e4 k4 => ⟨rfl, ?_⟩⟩
    have s4 : aq H3 H4 := aq.made nx ndx k4
    refine k H4 x ((q1.trans y3).trans s4) (mD ?_ e4 (s4 _ _ y1) (y5.same s4) ((q1.trans y3).free nx) (q1.free hD) fun c hc => q1.free (y0 c hc))
    rw [uS]
    refine qD w1 w2 (by simp; exact hn) fun r hr => ?_
    obtain ⟨j, _, rfl⟩ := List.mem_map.mp hr
    exact Aa wd L j
end
end PH
end
section
namespace PM
open Rol TL
def tn (b : Bytes) : List Nat := b.map UInt8.toNat
theorem fK (a b : Bytes) : tn (a ++ b) = tn a ++ tn b := Dj
theorem rG {α : Type} (f : α -> Bytes) (l : List α) : tn (l.flatMap f) = l.flatMap fun x => tn (f x) := List.map_flatMap
theorem o3 {n : Nat} {c : Char} (h : c ∈ Nat.toDigits 10 n) : 48 <= c.toNat /\ c.toNat <= 57 := by
 have := Nat.isDigit_of_mem_toDigits (by decide) (by decide) h
 unfold Char.isDigit at this
 simp only [C4, C9] at this
 exact this
theorem o6 (n : Nat) : tn (decimal n) = numL n := by
 unfold tn decimal numL
 rw [List.map_map]
 refine List.map_congr_left fun c hc => ?_
 have := o3 hc
 show (UInt8.ofNat c.toNat).toNat = c.toNat
 rw [UInt8.toNat_ofNat']
 omega
theorem gL {n : Nat} (h : n < 1000) : (numL n).length <= 3 := by
 have all : ∀ m, m < 1000 -> ((Nat.toDigits 10 m).map Char.toNat).length <= 3 := by decide +kernel
 exact all n h
theorem gP (S p : List Nat) : ∀ r : List (List Nat), jN S (p :: r) = p ++ r.flatMap fun x => S ++ x
 | [] => by
  show p = p ++ []
  rw [Dq]
 | x :: r => by
  rw [jN, gP S x r, List.flatMap_cons, Dr]
theorem eC (S : List Nat) : ∀ (p : List Nat) (r : List (List Nat)), jN S (p :: r) ++ S = (p :: r).flatMap fun x => x ++ S
 | p, [] => by simp [jN]
 | p, x :: r => by
  rw [jN, List.flatMap_cons, <- eC S x r]
  simp [Dr]
def jJ (w : Nat) (p : Nat × Row) : List Nat := jN [32] (numL p.1 :: (Row.tracks w p.2).map numL)
theorem ut (w : Nat) (p : Nat × Row) : tn (runText w p) = jJ w p ++ [10] := by
 unfold runText jJ
 rw [fK, fK, o6, rG, gP, List.flatMap_map]
 have : (fun t => tn (32 :: decimal t)) = fun t => [32] ++ numL t := by
  funext t
  show 32 :: tn (decimal t) = _
  rw [o6]
  rfl
 rw [this]
 rfl
def qP (w : Nat) : List Nat := [115, 116, 114, 105, 112, 32] ++ numL w
theorem j6 : tn HEAD = [115, 116, 114, 105, 112, 32] := by decide +kernel
theorem gB (s : Strip) : tn s.text = jN [10] (qP s.wide :: (runs s.rows).map (jJ s.wide)) ++ [10] := by
 unfold Strip.text
 rw [eC, List.flatMap_cons, List.flatMap_map, fK, fK, j6, o6]
 unfold qP
 rw [Dr, Dr]
 congr 1
 congr 1
 show 10 :: tn ((runs s.rows).flatMap (runText s.wide)) = _
 rw [rG]
 show _ = 10 :: _
 congr 1
 have : (fun x => tn (runText s.wide x)) = fun p => jJ s.wide p ++ [10] := by
  funext p
  exact ut s.wide p
 rw [this]
 rfl
theorem cP : ∀ {l : List Row} {p : Nat × Row}, p ∈ runs l -> 1 <= p.1 /\ p.1 <= l.length /\ p.2 ∈ l
 | [], p, h => by
  rw [runs] at h
  cases h
 | x :: r, p, h => by
  rw [runs] at h
  split at h
  ·rw [Db.mp h]
   exact ⟨C7 _, by simp, C3 ..⟩
  ·rename_i n y l e
   have ih : ∀ q ∈ (n, y) :: l, 1 <= q.1 /\ q.1 <= r.length /\ q.2 ∈ r := fun q hq => cP (by rw [e]; exact hq)
   have i0 := ih (n, y) (C3 ..)
   rw [CU]
   by_cases c : x = y
   ·rw [if_pos c] at h
    rcases C5.mp h with z | z
    ·subst z
     exact ⟨by dsimp only; omega, by have := i0.2.1; dsimp only at *; omega, C2 _ i0.2.2⟩
    ·have := ih p (C2 _ z)
     exact ⟨this.1, by omega, C2 _ this.2.2⟩
   ·rw [if_neg c] at h
    rcases C5.mp h with z | z
    ·subst z
     exact ⟨C7 _, by omega, C3 ..⟩
    ·have := ih p z
     exact ⟨this.1, by omega, C2 _ this.2.2⟩
theorem fW : ∀ l : List Row, (runs l).length <= l.length
 | [] => C7 _
 | x :: r => by
  have ih := fW r
  rw [runs]
  split
  ·simp
  ·rename_i n y l e
   rw [e] at ih
   rw [CU] at ih ⊢
   split
   ·rw [CU]
    omega
   ·rw [CU, CU]
    omega
end PM
end
section
namespace PH
open PySem PySem.Spec PyProof.Rows L2 PM TL
theorem AH {x : Str} {g : TG} {tt : TT} {te : TE} {vs : List Nat} {σ : L2.St} {H1 : Hp} {D : Addr} {Qd : Hp -> Prop} (Pv : Nat -> Hp -> Prop) (h0 : Pv 0 (L2.upd H1 D (.lst [])))
  (hs : ∀ i c H, x.cps[i]? = some c -> Pv i H -> g (.str ⟨#[c]⟩) (df σ vs) H fun σ2 H2 => df σ2 vs = df σ vs /\ tt σ2 H2 fun b H3 => if b = true then te σ2 H3 fun y H4 => ∃ acc, H4 D = some (.lst acc) /\ acc.length < sizeLine /\ Pv (i + 1) (L2.upd H4 D (.lst (acc ++ [y]))) else Pv (i + 1) H3) (hd : ∀ H, Pv x.cps.size H -> Qd H) :
  ∃ W : Nat -> Nat -> Hp -> Prop, (∃ m, W 0 m (L2.upd H1 D (.lst []))) /\ ∀ i m H, W i m H ->
   ((Its x).stop i H /\ Qd H) ∨ ((Its x).go i H /\ ∃ Nx : Hp -> Prop, (∀ H', Nx H' -> ∃ m', m' < m /\ W (i + 1) m' H') /\ ∀ y H', (Its x).yld i H y H' -> g y (df σ vs) H' fun σ2 H2 => df σ2 vs = df σ vs /\ tt σ2 H2 fun b H3 =>
    if b = true then te σ2 H3 fun y H4 => ∃ acc, H4 D = some (.lst acc) /\ acc.length < sizeLine /\ Nx (L2.upd H4 D (.lst (acc ++ [y]))) else Nx H3) := by
 refine ⟨fun i m H => m = x.cps.size - i /\ i <= x.cps.size /\ Pv i H, ⟨_, by rfl, De _, h0⟩, fun i m H hW => ?_⟩
 obtain ⟨rfl, hi, p⟩ := hW
 rcases Nat.lt_or_ge i x.cps.size with lt | ge
 ·refine .inr ⟨lt, Pv (i + 1), fun H' p' => ⟨x.cps.size - (i + 1), by omega, rfl, lt, p'⟩, fun v H' y => ?_⟩
  obtain ⟨rfl, c, ec, rfl⟩ := y
  exact hs i c H' ec p
 ·have e : i = x.cps.size := by omega
  subst e
  exact .inl ⟨C7 _, hd H p⟩
structure TT2 (mg : Str -> Option Value) : Prop where
 str : mg "str" = none
 ord : mg "ord" = none
 head : ∃ t, mg "HEAD" = some (.str "strip " t)
theorem xL : bootBuiltins "str" = some (.type "str") := by decide +kernel
theorem xN : bootBuiltins "ord" = some (.builtin "ord") := by decide +kernel
abbrev mC (n : Nat) : Str := Str.ofString (toString (n : Int))
theorem mF {i : Nat} (h : i < 100000) : (i : Int).natAbs.log2 < 1920 := by
 rw [Int.natAbs_natCast]
 have : i.log2 <= i := Nat.log2_le_self i
 by_cases c : i = 0
 ·subst c
  decide
 ·exact (Nat.log2_lt c).mpr (Dl h (by decide +kernel))
theorem l7 {l : List Nat} {b : Nat} (h : ∀ x ∈ l, x <= b) : l.sum <= l.length * b := by
 induction l with
 | nil => simp
 | cons x r ih =>
  have h1 := h x (C3 ..)
  have h2 := ih fun y hy => h y (C2 _ hy)
  rw [List.sum_cons, CU, Nat.add_mul]
  omega
theorem wG {n : Nat} (h : n < 1000) : (mC n).length <= 3 := by
 rw [len_tl, pj]
 exact gL h
theorem bE.item {G H : Hp} {w : Nat} : ∀ {ts : List Addr} {ps : List (Nat × Rol.Row)} {i : Nat} {v : V}, bE G H w ts ps -> (ts.map V.ref)[i]? = some v -> ∃ p t r, ps[i]? = some p /\ v = .ref t /\ H t = some (.tup [.int p.1, .ref r]) /\ G r = some (.lst (iV (tk w p.2)))
 | [], [], i, v, _, e => by simp at e
 | t :: ts, p :: ps, 0, v, h, e => by
  have : V.ref t = v := by simpa using e
  subst this
  obtain ⟨r, z1, z2⟩ := h.1
  exact ⟨p, t, r, rfl, rfl, z1, z2⟩
 | t :: ts, p :: ps, i + 1, v, h, e => by
  obtain ⟨p', t', r, e1, e2, e3, e4⟩ := bE.item h.2 (i := i) (v := v) (by simpa using e)
  exact ⟨p', t', r, by simpa using e1, e2, e3, e4⟩
 | [], _ :: _, _, _, h, _ => h.elim
 | _ :: _, [], _, _, h, _ => h.elim
def gO (w : Nat) (p : Nat × Rol.Row) : Str := Txt.join " " ((p.1 :: Rol.Row.tracks w p.2).map mC)
theorem io (w : Nat) (p : Nat × Rol.Row) : tl (gO w p) = jJ w p := by
 unfold gO jJ
 rw [uz, nO, List.map_map]
 have e1 : tl (Str.ofString " ") = [32] := by decide +kernel
 have e2 : (tl ∘ mC) = numL := by
  funext n
  exact pj n
 rw [e1, e2]
 rfl
theorem jk {w : Nat} {p : Nat × Rol.Row} (hw : w <= 128) (hp : p.1 <= 256) : (gO w p).length <= 600 := by
 rw [len_tl, io]
 unfold jJ
 rw [gP, CV, List.flatMap_map, List.length_flatMap]
 have h1 := gL (n := p.1) (by omega)
 have h2 : ((Rol.Row.tracks w p.2).map fun a => ([32] ++ numL a).length).sum <= ((Rol.Row.tracks w p.2).map fun a => ([32] ++ numL a).length).length * 4 := l7 fun x hx => by
  obtain ⟨t, ht, rfl⟩ := List.mem_map.mp hx
  have := gL (n := t) (by have := (aN.mp ht).1; omega)
  rw [CV]
  show 1 + _ <= 4
  omega
 rw [CP] at h2
 have := dk w p.2
 omega
section
variable {P : Program} {w : World} {K : Fg} {mg : Str -> Option Value} {base : Heap}
def rW (C : Addr) : Sp := fun vs H Q _ => ∃ (a : Addr) (s : Rol.Strip), vs = [.ref a] /\ aY C H a s /\ ∀ (H' : Hp) (q : Addr), aq H H' -> H q = none -> H' q = some (.lst ((tn s.text).map fun c : Nat => V.int c)) -> Q (.ref q) H'
theorem gW : al ["strip", "lines", "count", "tracks", "number", "sign"] ["strip"] (ae iM) := ⟨rfl, rfl, rfl, by decide +kernel, rfl, by decide +kernel, by decide +kernel⟩
theorem zj : dQ ["strip", "lines", "count", "tracks", "number", "sign"] (ae iM) (lcS [".0", "number"] ["str"]) [("number", 4)] := ⟨rfl, by decide +kernel, by decide +kernel, by decide +kernel, by decide +kernel⟩
theorem zi : dQ ["strip", "lines", "count", "tracks", "number", "sign"] (ae iM) (lcS [".0", "sign"] ["ord"]) [("sign", 5)] := ⟨rfl, by decide +kernel, by decide +kernel, by decide +kernel, by decide +kernel⟩
theorem yC {f C : Addr} {fd : FuncData} (F : Fun K "text_of" "text_of" iM f fd) (T : cn K mg C) (B : TB mg) (B2 : TT2 mg) (U : ao P w K mg base "runs_of" ["strip"] 1 (ma C)) : bc P w K mg base CX0 2 f fd ["strip"] (rW C) := by
 obtain ⟨fU, fdU, mU, kU, bU, GU⟩ := U.ex
 obtain ⟨tH, eH⟩ := B2.head
 refine F.ok gW (fun vs H Q E h => ?_) (fun cdv A outer s H vs Q E hr h => ?_)
 ·obtain ⟨_, _, rfl, _⟩ := h
  rfl
 ·obtain ⟨a, sp, rfl, hS, k⟩ := h
  obtain ⟨ok, dx, p, rs, h1, h2, h3⟩ := id hS
  obtain ⟨w1, w2, w3, w4⟩ := be ok
  refine ⟨_, ad (aw (i := 1) gW.nd rfl (Or.inl rfl) (aH (aa (aM jY (ax (v := .str "strip ") (by rfl) eH ⟨_, rfl⟩) (gc ia (by rfl) B2.str xL (aa (aI (pv 0) rfl) ac))) ac)))
   (ad (ca PassesOwn.never rfl (bq (aj GU hr rfl mU kU bU .nil aC (aa (pv 0) ac))) (mw rfl (bP (aG (i := 2) gW.nd rfl (Or.inl rfl)) (bP (aG (i := 3) gW.nd rfl (Or.inl rfl)) iZ)))
    (af (bv (jb PySem.F.plainAttrs_list PySem.F.slot_list_append PySem.F.type_list_append cy (pv 1) (aa (tI tE (ja rfl gW.nd (bq (aM jd (aH (aa (pv 2) ac)) (pv 3))) zj (fun _ _ _ _ _ => aG (i := 4) gW.nd rfl (Or.inl rfl)) (fun _ _ _ _ _ => cu) (fun _ _ _ _ _ => gc ia (by rfl) B2.str xL (aa (pv 4) ac)))) ac)))))
   (af (au (ja rfl gW.nd (xB (aM jY (tI tE (pv 1)) tE)) zi (fun _ _ _ _ _ => aG (i := 5) gW.nd rfl (Or.inl rfl)) (fun _ _ _ _ _ => cu) (fun _ _ _ _ _ => ak qr (by rfl) B2.ord xN (aa (pv 5) ac)))))), ?_⟩
  have hlen : (("strip " : Str) ++ mC sp.wide).length <= 9 := by
   rw [len_tl, bW, CV, pj]
   have := gL (n := sp.wide) (by omega)
   have e : (tl ("strip " : Str)).length = 6 := by decide +kernel
   omega
  refine ⟨_, rfl, a, C, dx, _, _, rfl, h1, T.cl, T.nW, sy _ _, _, rfl, mF (by omega), _, _, rfl, rfl, ?_, (by show 1 <= sizeLine; decide), fun q hq => ?_⟩
  ·rw [sizeLine_eq]
   rw [len_tl, bW, CV, <- len_tl, <- len_tl] at hlen
   exact Nat.le_trans hlen (by decide)
  have s0 : aq H (L2.upd H q (.lst [.str (("strip " : Str) ++ mC sp.wide)])) := aq.upd hq
  refine ⟨_, rfl, a, sp, rfl, hS.same s0, fun H1 u ts s1 hu1 hu2 hR => ?_⟩
  refine ⟨u, rfl, ⟨_, SqL.of hu2⟩, ?_⟩
  have g1 := s1 _ _ upd_same
  have nuq : u ≠ q := fun z => by
   rw [z, upd_same] at hu1
   cases hu1
  refine cY (K := K) (a := u) (xs := ts.map V.ref) (fun i σ H' => ∃ (v2 v3 : Option V), σ = [some (.ref a), some (.ref q), v2, v3, none, none] /\ aq H H' /\ (∀ b o, b ≠ q -> H1 b = some o -> H' b = some o) /\ H' q = some (.lst (((("strip " : Str) ++ mC sp.wide) :: ((Rol.runs sp.rows).take i).map (gO sp.wide)).map V.str)))
   ⟨none, none, rfl, s0.trans s1, (fun b o _ e => e), g1⟩ (fun i σ H' _ ⟨_, _, _, _, z, _⟩ => SqL.of (z _ _ nuq hu2)) ?_ ?_
  ·rintro i v σ H' hv ⟨v2, v3, rfl, q1, q2, q3⟩
   obtain ⟨pr, t, r, hpr, rfl, ht, hr1⟩ := hR.item hv
   have bnd := cP (List.mem_of_getElem? hpr)
   have hi : i < 256 := by
    have := (CY.mp hpr).1
    have := fW sp.rows
    omega
   have nrq : r ≠ q := fun z => by
    rw [z, upd_same] at hr1
    have := HO.lst.inj (C8 hr1)
    unfold iV at this
    cases e : tk sp.wide pr.2 with
    | nil =>
     rw [e] at this
     cases this
    | cons y l =>
     rw [e] at this
     cases this
   have ntq : t ≠ q := fun z => by
    rw [z] at ht
    rw [ht] at g1
    cases g1
   have ht' := q2 _ _ ntq ht
   have hr2 := q2 _ _ nrq (s1 _ _ hr1)
   refine ⟨t, _, rfl, SqT.of ht', rfl, _, _, rfl, _, _, rfl, rfl, ?_⟩
   refine ⟨_, rfl, .inl ⟨rfl, _, SqL.of q3⟩, ⟨_, rfl⟩, _, rfl, (by show 1 <= sizeLine; decide), fun p1 hp1 => ?_⟩
   have s2 : aq H' _ := aq.upd (o := .lst [.int pr.1]) hp1
   have tl1 := kt sp.wide pr.2
   refine ⟨_, rfl, p1, r, _, _, rfl, rfl, upd_same, s2 _ _ hr2, by unfold iV; rw [CP, sizeLine_eq]; simp; omega, fun p2 hp2 => ?_⟩
   have s3 := aq.upd (o := .lst ([.int pr.1] ++ iV (tk sp.wide pr.2))) hp2
   refine ⟨p2, rfl, ⟨_, SqL.of upd_same⟩, fun D hD => ?_⟩
   have s4 := aq.upd (o := .lst []) hD
   have s24 := (s2.trans s3).trans s4
   have zs : [V.int pr.1] ++ iV (tk sp.wide pr.2) = (pr.1 :: Rol.Row.tracks sp.wide pr.2).map fun n : Nat => V.int n := by
    unfold iV tk
    rw [List.map_map, List.map_cons]
    rfl
   have big : ∀ n ∈ pr.1 :: Rol.Row.tracks sp.wide pr.2, n < 1000 := fun n hn => by
    rcases C5.mp hn with z | z
    ·omega
    ·have := (aN.mp z).1
     omega
   refine cV (K := K) (a := p2) (xs := [V.int pr.1] ++ iV (tk sp.wide pr.2)) (fun j H3 => aq H' H3 /\ H3 p2 = some (.lst ([V.int pr.1] ++ iV (tk sp.wide pr.2))) /\ H3 D = some (.lst ((((pr.1 :: Rol.Row.tracks sp.wide pr.2).take j).map mC).map V.str))) ⟨s24, s4 _ _ upd_same, upd_same⟩ (fun j H3 _ ⟨_, z, _⟩ => SqL.of z) ?_ ?_
   ·rintro j y H3 hy ⟨y1, y2, y3⟩
    rw [zs, C1] at hy
    obtain ⟨n, en, rfl⟩ := Option.map_eq_some_iff.mp hy
    have nD : p2 ≠ D := ah upd_same hD
    have hj : j < 200 := by
     have := (CY.mp en).1
     rw [CU] at this
     have := dk sp.wide pr.2
     omega
    refine ⟨rfl, _, rfl, _, rfl, mF (by have := big n (List.mem_of_getElem? en); omega), _, y3, by rw [CP, CP, Dn, sizeLine_eq]; omega, aD y1 (s2.free (s3.free hD)), ?_, ?_⟩
    ·rw [ag nD]
     exact y2
    ·rw [upd_same, aR mC en, Dj]
     rfl
   ·rintro H3 ⟨y1, y2, y3⟩
    rw [show ([V.int pr.1] ++ iV (tk sp.wide pr.2)).length = (pr.1 :: Rol.Row.tracks sp.wide pr.2).length by rw [zs, CP], List.take_length] at y3
    refine ⟨_, D, (pr.1 :: Rol.Row.tracks sp.wide pr.2).map mC, rfl, rfl, .inl (SqL.of y3), ?_, ?_⟩
    ·have h2 := l7 (l := ((pr.1 :: Rol.Row.tracks sp.wide pr.2).map mC).map (·.length)) (b := 3) fun x hx => by
      obtain ⟨z, hz, rfl⟩ := List.mem_map.mp hx
      obtain ⟨n, hn, rfl⟩ := List.mem_map.mp hz
      exact wG (big n hn)
     rw [CP, CP, CU] at h2
     have := dk sp.wide pr.2
     rw [CP, CU, show (Str.ofString " ").length = 1 by decide +kernel]
     omega
    ·refine ⟨q, _, _, rfl, rfl, y1 _ _ q3, by rw [CP, CU, CP, Dn, sizeLine_eq]; omega, ?_⟩
     refine ⟨_, _, rfl, aD (q1.trans y1) hq, fun b o nb e => by rw [ag nb]; exact y1 _ _ (q2 b o nb e), ?_⟩
     rw [upd_same, aR (gO sp.wide) hpr, <- List.cons_append, Dj]
     rfl
  ·rintro σ H' ⟨v2, v3, rfl, q1, q2, q3⟩
   rw [CP, hR.length, List.take_length] at q3
   have sums := l7 (l := (((("strip " : Str) ++ mC sp.wide) :: (Rol.runs sp.rows).map (gO sp.wide)).map (·.length))) (b := 600) fun x hx => by
    obtain ⟨z, hz, rfl⟩ := List.mem_map.mp hx
    rcases C5.mp hz with c | c
    ·rw [c]
     omega
    ·obtain ⟨pr, hp, rfl⟩ := List.mem_map.mp c
     have := cP hp
     exact jk w2 (by omega)
   have rl := fW sp.rows
   rw [CP, CU, CP] at sums
   have codes : tl (Txt.join "\n" ((("strip " : Str) ++ mC sp.wide) :: (Rol.runs sp.rows).map (gO sp.wide)) ++ ("\n" : Str)) = tn sp.text := by
    have e1 : tl (Str.ofString "\n") = [10] := by decide +kernel
    have e2 : (tl ∘ gO sp.wide) = jJ sp.wide := by
     funext p
     exact io _ p
    have e3 : tl (Str.ofString "strip ") = [115, 116, 114, 105, 112, 32] := by decide +kernel
    rw [bW, uz, nO, List.map_cons, List.map_map, e1, e2, bW, e3, pj, gB]
    rfl
   have jl : (Txt.join "\n" ((("strip " : Str) ++ mC sp.wide) :: (Rol.runs sp.rows).map (gO sp.wide)) ++ ("\n" : Str)).length = (tn sp.text).length := by rw [len_tl, codes]
   have tlen : (tn sp.text).length <= 300000 := by
    rw [gB, eC, List.length_flatMap]
    have h2 := l7 (l := (qP sp.wide :: (Rol.runs sp.rows).map (jJ sp.wide)).map fun a => (a ++ [10]).length) (b := 601) fun x hx => by
     obtain ⟨z, hz, rfl⟩ := List.mem_map.mp hx
     rw [CV]
     show z.length + 1 <= 601
     rcases C5.mp hz with c | c
     ·rw [c]
      unfold qP
      rw [CV]
      have := gL (n := sp.wide) (by omega)
      show 6 + _ + 1 <= 601
      omega
     ·obtain ⟨pr, hp, rfl⟩ := List.mem_map.mp c
      have := cP hp
      have := jk (p := pr) w2 (by omega)
      rw [len_tl, io] at this
      omega
    rw [CP, CU, CP] at h2
    omega
   refine ⟨⟨_, rfl⟩, _, rfl, _, q, (("strip " : Str) ++ mC sp.wide) :: (Rol.runs sp.rows).map (gO sp.wide), rfl, rfl, .inl (SqL.of q3), ?_, _, _, rfl, rfl, ?_, _, rfl, fun D hD => ?_⟩
   ·rw [CU, CP, show (Str.ofString "\n").length = 1 by decide +kernel]
    omega
   ·rw [len_tl, bW, CV, <- len_tl, <- len_tl] at jl
    rw [jl, sizeLine_eq]
    omega
   ·have codes' : ∀ {i c : Nat}, (Txt.join "\n" ((("strip " : Str) ++ mC sp.wide) :: (Rol.runs sp.rows).map (gO sp.wide)) ++ ("\n" : Str)).cps[i]? = some c -> (tn sp.text)[i]? = some c := fun {i c} e => by
     rw [<- codes]
     simpa using e
    have size : (Txt.join "\n" ((("strip " : Str) ++ mC sp.wide) :: (Rol.runs sp.rows).map (gO sp.wide)) ++ ("\n" : Str)).cps.size = (tn sp.text).length := jl
    generalize Txt.join "\n" ((("strip " : Str) ++ mC sp.wide) :: (Rol.runs sp.rows).map (gO sp.wide)) ++ ("\n" : Str) = S at codes' size
    refine AH (x := S) (fun i H3 => aq H' H3 /\ H3 D = some (.lst (((tn sp.text).take i).map fun c : Nat => V.int c))) ⟨aq.upd hD, upd_same⟩ ?_ ?_
    ·rintro i c H3 hc ⟨y1, y2⟩
     have hi := (CY.mp (codes' hc)).1
     refine ⟨rfl, _, rfl, _, rfl, rfl, _, y2, by rw [CP, Dn, sizeLine_eq]; omega, aD y1 hD, ?_⟩
     rw [upd_same, aR (fun c : Nat => V.int c) (codes' hc)]
     rfl
    ·rintro H3 ⟨y1, y2⟩
     rw [size, List.take_length] at y2
     exact k H3 D (q1.trans y1) (q1.free hD) y2
end
end PH
end
section
namespace PM
open Rol
def bI (b : Bytes) : List Int := b.map fun c => (c.toNat : Int)
theorem bt (b : Bytes) : (bI b).length = b.length := by unfold bI; rw [CP]
theorem BV {b : Bytes} {i : Nat} {c : UInt8} (h : b[i]? = some c) : (bI b)[i]? = some (c.toNat : Int) := by
 unfold bI
 rw [C1, h]
 rfl
def ay (b : Bytes) : Bytes := b.takeWhile isDigit
theorem kg (b : Bytes) : (ay b).length <= b.length := by
 unfold ay
 exact (List.takeWhile_sublist _).length_le
def fo (d : Bytes) : Bool := !(decide (d.length = 0) || decide (3 < d.length)) && (decide (d.length = 1) || !decide (d.head? = some 48))
theorem oO (d : Bytes) (c : UInt8) : number (d ++ [c]) = 10 * number d + (c.toNat - 48) := by
 unfold number
 rw [List.foldl_append]
 rfl
theorem uQ : ∀ (d : Bytes) (a : Nat), 10 ^ d.length * a <= d.foldl (fun n c => 10 * n + (c.toNat - 48)) a
 | [], a => by simp
 | c :: r, a => by
  rw [List.foldl_cons]
  have := uQ r (10 * a + (c.toNat - 48))
  refine Nat.le_trans ?_ this
  rw [CU, Nat.pow_succ, Nat.mul_assoc, Nat.mul_add]
  omega
theorem qG {d : Bytes} (hd : ∀ c ∈ d, isDigit c = true) (h4 : 3 < d.length) (h0 : d.head? ≠ some 48) : 1000 <= number d := by
 match d, hd, h4, h0 with
 | [], _, h4, _ => simp at h4
 | c :: r, hd, h4, h0 =>
  have hc := hd c (C3 ..)
  unfold isDigit at hc
  simp only [C4, C9] at hc
  have ne : c.toNat ≠ 48 := fun z => h0 (by
   have : c = 48 := UInt8.toNat_inj.mp z
   rw [this]
   rfl)
  unfold number
  rw [List.foldl_cons]
  have := uQ r (10 * 0 + (c.toNat - 48))
  rw [CU] at h4
  have p : 10 ^ 3 <= 10 ^ r.length := Nat.pow_le_pow_right (by decide) (by omega)
  have q : 10 ^ r.length * 1 <= 10 ^ r.length * (10 * 0 + (c.toNat - 48)) := Nat.mul_le_mul_left _ (by omega)
  omega
theorem kh (b : Bytes) : ∀ c ∈ ay b, isDigit c = true := fun c hc => by
 unfold ay at hc
 induction b with
 | nil => cases hc
 | cons x r ih =>
  rw [List.takeWhile_cons] at hc
  split at hc
  ·rename_i h
   rcases C5.mp hc with z | z
   ·rw [z]
    exact h
   ·exact ih z
  ·cases hc
theorem ln {lo hi p : Nat} {b : Bytes} (hh : hi < 1000) : numberIn lo hi p b = if fo (ay b) = true /\ lo <= number (ay b) /\ number (ay b) <= hi then .ok (number (ay b), p + (ay b).length, b.drop (ay b).length) else .error p := by
 have all := kh b
 unfold numberIn
 show (if ay b = [] ∨ ((ay b).head? = some 48 /\ (ay b).length ≠ 1) ∨ number (ay b) < lo ∨ hi < number (ay b) then (.error p : Read Nat) else .ok (number (ay b), p + (ay b).length, b.drop (ay b).length)) = _
 generalize ay b = d at all
 by_cases c : d = [] ∨ (d.head? = some 48 /\ d.length ≠ 1) ∨ number d < lo ∨ hi < number d
 ·rw [if_pos c, if_neg]
  rintro ⟨h1, h2, h3⟩
  unfold fo at h1
  simp only [C4, Bool.or_eq_true, Bool.not_eq_true', Bool.or_eq_false_iff, C9, decide_eq_false_iff_not] at h1
  rcases c with z | ⟨z1, z2⟩ | z | z
  ·rw [z] at h1
   exact h1.1.1 rfl
  ·rcases h1.2 with q | q
   ·exact z2 q
   ·exact q z1
  ·omega
  ·omega
 ·have c1 : d ≠ [] := fun z => c (.inl z)
  have c2 : ¬ (d.head? = some 48 /\ d.length ≠ 1) := fun z => c (.inr (.inl z))
  have c3 : ¬ number d < lo := fun z => c (.inr (.inr (.inl z)))
  have c4 : ¬ hi < number d := fun z => c (.inr (.inr (.inr z)))
  have key : fo d = true := by
   unfold fo
   simp only [C4, Bool.or_eq_true, Bool.not_eq_true', Bool.or_eq_false_iff, C9, decide_eq_false_iff_not]
   have l0 : d.length ≠ 0 := fun z => c1 (List.eq_nil_of_length_eq_zero z)
   by_cases l1 : d.length = 1
   ·exact ⟨⟨l0, by omega⟩, .inl l1⟩
   ·have h0 : d.head? ≠ some 48 := fun z => c2 ⟨z, l1⟩
    refine ⟨⟨l0, fun z => ?_⟩, .inr h0⟩
    have := qG all z h0
    omega
  rw [if_neg c, if_pos ⟨key, by omega, by omega⟩]
def gx (w : Nat) : Nat -> Nat -> Nat -> Bytes -> Except Nat (List Nat × Nat × Bytes)
 | 0, _, p, _ => .error p
 | f + 1, least, p, b => match b with
  | 32 :: r => (match numberIn least (w - 1) (p + 1) r with
   | .error k => .error k
   | .ok x => match gx w f (x.1 + 1) x.2.1 x.2.2 with
    | .error k => .error k
    | .ok y => .ok (x.1 :: y.1, y.2))
  | _ => .ok ([], p, b)
def aX (l : List Nat) : Row := l.foldr (fun t a => 2 ^ t + a) 0
def fv (row : Row) (q : Nat) (b : Bytes) : Read (Row × Nat) := match b with
 | 10 :: r => .ok ((row, q), q + 1, r)
 | _ => .error q
theorem eB {row : Row} {q : Nat} {b : Bytes} (h : ∀ r, b ≠ 10 :: r) : fv row q b = .error q := by
 unfold fv
 split
 ·exact absurd rfl (h _)
 ·rfl
theorem lY (w : Nat) (hw : 1 <= w) (hw2 : w <= 128) : ∀ (f least p : Nat) (b : Bytes), tracksIn w f least p b = match gx w f least p b with
  | .error k => .error k
  | .ok y => fv (aX y.1) y.2.1 y.2.2
 | 0, least, p, b => by
  rw [tracksIn, gx]
 | f + 1, least, p, b => by
  have num : (if w <= least then (.error (p + 1) : Read Nat) else numberIn least (w - 1) (p + 1) (b.drop 1)) = numberIn least (w - 1) (p + 1) (b.drop 1) := by
   by_cases c : w <= least
   ·rw [if_pos c, ln (by omega), if_neg (by omega)]
   ·rw [if_neg c]
  match b with
  | [] => rfl
  | c :: r =>
   by_cases e32 : c = 32
   ·subst e32
    have num' : (if w <= least then (.error (p + 1) : Read Nat) else numberIn least (w - 1) (p + 1) r) = numberIn least (w - 1) (p + 1) r := num
    have lhs : tracksIn w (f + 1) least p (32 :: r) = match (if w <= least then (.error (p + 1) : Read Nat) else numberIn least (w - 1) (p + 1) r) with
     | .error k => .error k
     | .ok x => match tracksIn w f (x.1 + 1) x.2.1 x.2.2 with
      | .error k => .error k
      | .ok y => .ok ((2 ^ x.1 + y.1.1, y.1.2), y.2.1, y.2.2) := by
     rw [tracksIn]
     by_cases c : w <= least
     ·rw [if_pos c, if_pos c]
     ·rw [if_neg c, if_neg c]
      rfl
    have rhs : gx w (f + 1) least p (32 :: r) = match numberIn least (w - 1) (p + 1) r with
     | .error k => .error k
     | .ok x => match gx w f (x.1 + 1) x.2.1 x.2.2 with
      | .error k => .error k
      | .ok y => .ok (x.1 :: y.1, y.2) := by rw [gx]
    rw [lhs, rhs, num']
    cases numberIn least (w - 1) (p + 1) r with
    | error k => rfl
    | ok x =>
     dsimp only
     rw [lY w hw hw2 f (x.1 + 1) x.2.1 x.2.2]
     cases gx w f (x.1 + 1) x.2.1 x.2.2 with
     | error k => rfl
     | ok y =>
      obtain ⟨ts, q, b'⟩ := y
      dsimp only
      by_cases e10 : ∃ s, b' = 10 :: s
      ·obtain ⟨s, rfl⟩ := e10
       rfl
      ·rw [eB fun s z => e10 ⟨s, z⟩, eB fun s z => e10 ⟨s, z⟩]
   ·have rhs : gx w (f + 1) least p (c :: r) = .ok ([], p, c :: r) := by
     rw [gx]
     intro s z
     cases z
     exact e32 rfl
    rw [rhs]
    by_cases e10 : c = 10
    ·subst e10
     rw [tracksIn]
     rfl
    ·rw [tracksIn]
     ·dsimp only
      rw [eB]
      intro s z
      cases z
      exact e10 rfl
     ·intro s z
      cases z
      exact e10 rfl
     ·intro s z
      cases z
      exact e32 rfl
end PM
end
section
namespace PM
open Rol
theorem rN : ∀ {ts : List Nat} {l : Nat}, (∀ t ∈ ts, l <= t) -> ∃ m, aX ts = 2 ^ l * m
 | [], l, _ => ⟨0, rfl⟩
 | t :: r, l, h => by
  obtain ⟨m, e⟩ := rN (ts := r) (l := l) fun u hu => h u (C2 _ hu)
  have ht := h t (C3 ..)
  refine ⟨2 ^ (t - l) + m, ?_⟩
  show 2 ^ t + aX r = _
  rw [e, Nat.mul_add, <- Nat.pow_add, show l + (t - l) = t by omega]
theorem iE : ∀ {ts : List Nat}, ts.Pairwise (· < ·) -> ∀ i, Nat.testBit (aX ts) i = decide (i ∈ ts)
 | [], _, i => by
  show Nat.testBit 0 i = _
  rw [Nat.zero_testBit]
  simp
 | t :: r, h, i => by
  rw [List.pairwise_cons] at h
  obtain ⟨m, e⟩ := rN (ts := r) (l := t + 1) fun u hu => h.1 u hu
  have ih := iE h.2 i
  have s : aX (t :: r) = aX r ||| 2 ^ t := by
   show 2 ^ t + aX r = _
   rw [Nat.add_comm, e]
   exact Nat.two_pow_add_eq_or_of_lt (Nat.pow_lt_pow_right (by decide) (Nat.lt_succ_self t)) m
  rw [s, Nat.testBit_or, ih, Nat.testBit_two_pow]
  by_cases c : t = i
  ·subst c
   simp
  ·have c' : ¬ i = t := fun z => c z.symm
   simp [c, c']
theorem zL {w : Nat} {ts : List Nat} (h : ts.Pairwise (· < ·)) (lt : ∀ t ∈ ts, t < w) : tk w (aX ts) = ts.map fun t : Nat => (t : Int) := by
 refine ee (gA _ _) ?_ fun z => ?_
 ·rw [List.pairwise_map]
  exact h.imp fun q => by omega
 ·rw [eQ, List.mem_map]
  constructor
  ·rintro ⟨t, rfl, _, q⟩
   rw [iE h, C9] at q
   exact ⟨t, q, rfl⟩
  ·rintro ⟨t, q, rfl⟩
   exact ⟨t, rfl, lt t q, by rw [iE h]; exact C0 q⟩
theorem rM {w : Nat} {ts : List Nat} (h : ts.Pairwise (· < ·)) (lt : ∀ t ∈ ts, t < w) : aX ts < 2 ^ w := Nat.lt_pow_two_of_testBit _ fun i hi => by
 rw [iE h]
 exact C6 fun z => by
  have := lt i z
  omega
theorem jZ {lo hi p : Nat} {bs : Bytes} {x : Nat × Nat × Bytes} (hh : hi < 1000) (h : numberIn lo hi p (bs.drop p) = .ok x) : lo <= x.1 /\ x.1 <= hi /\ x.2.2 = bs.drop x.2.1 /\ p < x.2.1 /\ x.2.1 <= bs.length := by
 rw [ln hh] at h
 split at h
 ·rename_i c
  cases h
  obtain ⟨c1, c2, c3⟩ := c
  have l := kg (bs.drop p)
  rw [List.length_drop] at l
  have pos : (ay (bs.drop p)).length ≠ 0 := fun z => by
   unfold fo at c1
   rw [z] at c1
   simp at c1
  exact ⟨c2, c3, by rw [List.drop_drop], by dsimp only; omega, by dsimp only; omega⟩
 ·cases h
def Ai (ts : List Nat) : Except Nat (List Nat × Nat × Bytes) -> Except Nat (List Nat × Nat × Bytes)
 | .error k => .error k
 | .ok y => .ok (ts ++ y.1, y.2)
theorem vZ (x : Except Nat (List Nat × Nat × Bytes)) : Ai [] x = x := by cases x <;> rfl
theorem tj (ts : List Nat) (t : Nat) (x : Except Nat (List Nat × Nat × Bytes)) : Ai (ts ++ [t]) x = Ai ts (match x with
  | .error k => .error k
  | .ok y => .ok (t :: y.1, y.2)) := by
 cases x with
 | error k => rfl
 | ok y =>
  show Except.ok _ = Except.ok _
  rw [Dr]
  rfl
theorem xm {w f least p : Nat} {bs : Bytes} (h : bs[p]? ≠ some 32) : gx w (f + 1) least p (bs.drop p) = .ok ([], p, bs.drop p) := by
 rw [gx]
 intro r z
 apply h
 have : (bs.drop p)[0]? = some 32 := by rw [z]; rfl
 rw [List.getElem?_drop] at this
 exact this
theorem rJ {w f least p : Nat} {bs : Bytes} (h : bs[p]? = some 32) : gx w (f + 1) least p (bs.drop p) = match numberIn least (w - 1) (p + 1) (bs.drop (p + 1)) with
  | .error k => .error k
  | .ok x => match gx w f (x.1 + 1) x.2.1 x.2.2 with
   | .error k => .error k
   | .ok y => .ok (x.1 :: y.1, y.2) := by
 rw [bO h, gx]
 all_goals rfl
theorem dN {bs : Bytes} {p n : Nat} (hn : n < 256) : (bI bs)[p]? = some (n : Int) ↔ bs[p]? = some (UInt8.ofNat n) := by
 unfold bI
 rw [C1]
 cases e : bs[p]? with
 | none => simp
 | some c =>
  simp only [Option.map_some, Option.some.injEq]
  constructor
  ·intro h
   apply UInt8.toNat_inj.mp
   rw [UInt8.toNat_ofNat']
   omega
  ·intro h
   rw [h, UInt8.toNat_ofNat']
   omega
theorem ku {w : Nat} (hw : 1 <= w) (hw2 : w <= 128) {bs : Bytes} : ∀ (f least p : Nat) (y : List Nat × Nat × Bytes), p <= bs.length -> gx w f least p (bs.drop p) = .ok y -> y.2.2 = bs.drop y.2.1 /\ p <= y.2.1 /\ y.2.1 <= bs.length /\ y.1.Pairwise (· < ·) /\ ∀ t ∈ y.1, least <= t /\ t < w
 | 0, least, p, y, hp, h => by
  rw [gx] at h
  cases h
 | f + 1, least, p, y, hp, h => by
  by_cases e : bs[p]? = some 32
  ·rw [rJ e] at h
   cases n : numberIn least (w - 1) (p + 1) (bs.drop (p + 1)) with
   | error k =>
    rw [n] at h
    cases h
   | ok x =>
    obtain ⟨x1, x2, x3, x4, x5⟩ := jZ (by omega) n
    rw [n] at h
    dsimp only at h
    rw [x3] at h
    cases m : gx w f (x.1 + 1) x.2.1 (bs.drop x.2.1) with
    | error k =>
     rw [m] at h
     cases h
    | ok z =>
     rw [m] at h
     cases h
     obtain ⟨z1, z2, z3, z4, z5⟩ := ku hw hw2 f (x.1 + 1) x.2.1 z x5 m
     refine ⟨z1, by dsimp only; omega, z3, List.pairwise_cons.mpr ⟨fun t ht => by have := z5 t ht; omega, z4⟩, fun t ht => ?_⟩
     rcases C5.mp ht with q | q
     ·subst q
      omega
     ·have := z5 t q
      omega
  ·rw [xm e] at h
   cases h
   exact ⟨rfl, C7 _, hp, .nil, fun t ht => by cases ht⟩
def bQ (l : List (Nat × Row)) : List Row := l.flatMap fun x => List.replicate x.1 x.2
def Aj (l : List (Nat × Row)) : Except Nat (List (Nat × Row)) -> Except Nat (List (Nat × Row))
 | .error k => .error k
 | .ok r => .ok (l ++ r)
theorem v0 (x : Except Nat (List (Nat × Row))) : Aj [] x = x := by cases x <;> rfl
theorem ur {w f had p : Nat} {last : Option Row} {bs : Bytes} (h : bs.length <= p) : linesIn w (f + 1) had last p (bs.drop p) = .ok [] := by
 rw [linesIn, if_pos (List.drop_eq_nil_of_le h)]
theorem qL {w f had p : Nat} {last : Option Row} {bs : Bytes} (hw : 1 <= w) (hw2 : w <= 128) (hp : p < bs.length) (hh : had <= 256) : linesIn w (f + 1) had last p (bs.drop p) = match numberIn 1 (256 - had) p (bs.drop p) with
  | .error k => .error k
  | .ok n => match gx w (w + 1) 0 n.2.1 n.2.2 with
   | .error k => .error k
   | .ok y => match fv (aX y.1) y.2.1 y.2.2 with
    | .error k => .error k
    | .ok x => if last = some x.1.1 then .error x.1.2 else match linesIn w f (had + n.1) (some x.1.1) x.2.1 x.2.2 with
     | .error k => .error k
     | .ok l => .ok ((n.1, x.1.1) :: l) := by
 have ne : bs.drop p ≠ [] := fun z => by
  have := List.drop_eq_nil_iff.mp z
  omega
 rw [linesIn, if_neg ne]
 unfold ROWS
 by_cases c : 256 <= had
 ·rw [if_pos c, ln (by omega), if_neg (by omega)]
 ·rw [if_neg c]
  cases numberIn 1 (256 - had) p (bs.drop p) with
  | error k => rfl
  | ok n =>
   dsimp only
   rw [lY w hw hw2]
   cases gx w (w + 1) 0 n.2.1 n.2.2 with
   | error k => rfl
   | ok y => rfl
def jG (w had : Nat) (last : Option Row) (p : Nat) (b : Bytes) : Except Nat (Nat × Row × Nat × Bytes) := match numberIn 1 (256 - had) p b with
 | .error k => .error k
 | .ok n => match gx w (w + 1) 0 n.2.1 n.2.2 with
  | .error k => .error k
  | .ok y => match fv (aX y.1) y.2.1 y.2.2 with
   | .error k => .error k
   | .ok x => if last = some x.1.1 then .error x.1.2 else .ok (n.1, x.1.1, x.2.1, x.2.2)
theorem uq {w f had p : Nat} {last : Option Row} {bs : Bytes} (hw : 1 <= w) (hw2 : w <= 128) (hp : p < bs.length) (hh : had <= 256) : linesIn w (f + 1) had last p (bs.drop p) = match jG w had last p (bs.drop p) with
  | .error k => .error k
  | .ok z => match linesIn w f (had + z.1) (some z.2.1) z.2.2.1 z.2.2.2 with
   | .error k => .error k
   | .ok l => .ok ((z.1, z.2.1) :: l) := by
 rw [qL hw hw2 hp hh]
 unfold jG
 cases numberIn 1 (256 - had) p (bs.drop p) with
 | error k => rfl
 | ok n =>
  dsimp only
  cases gx w (w + 1) 0 n.2.1 n.2.2 with
  | error k => rfl
  | ok y =>
   dsimp only
   cases fv (aX y.1) y.2.1 y.2.2 with
   | error k => rfl
   | ok x =>
    dsimp only
    by_cases c : last = some x.1.1
    ·rw [if_pos c, if_pos c]
    ·rw [if_neg c, if_neg c]
theorem j3 {row : Row} {q : Nat} {bs : Bytes} : fv row q (bs.drop q) = if bs[q]? = some 10 then .ok ((row, q), q + 1, bs.drop (q + 1)) else .error q := by
 by_cases c : bs[q]? = some 10
 ·rw [if_pos c, bO c]
  rfl
 ·rw [if_neg c]
  refine eB fun r z => c ?_
  have : (bs.drop q)[0]? = some 10 := by rw [z]; rfl
  rw [List.getElem?_drop] at this
  exact this
theorem sP {w had p : Nat} {last : Option Row} {bs : Bytes} {z : Nat × Row × Nat × Bytes} (hw : 1 <= w) (hw2 : w <= 128) (hp : p <= bs.length) (h : jG w had last p (bs.drop p) = .ok z) : 1 <= z.1 /\ had + z.1 <= 256 /\ z.2.1 < 2 ^ w /\ z.2.2.2 = bs.drop z.2.2.1 /\ p < z.2.2.1 /\ z.2.2.1 <= bs.length := by
 unfold jG at h
 cases n : numberIn 1 (256 - had) p (bs.drop p) with
 | error k =>
  rw [n] at h
  cases h
 | ok x =>
  obtain ⟨x1, x2, x3, x4, x5⟩ := jZ (by omega) n
  rw [n] at h
  dsimp only at h
  rw [x3] at h
  cases m : gx w (w + 1) 0 x.2.1 (bs.drop x.2.1) with
  | error k =>
   rw [m] at h
   cases h
  | ok y =>
   obtain ⟨y1, y2, y3, y4, y5⟩ := ku hw hw2 _ _ _ y x5 m
   rw [m] at h
   dsimp only at h
   rw [y1, j3] at h
   by_cases c : bs[y.2.1]? = some 10
   ·rw [if_pos c] at h
    dsimp only at h
    have lt := (CY.mp c).1
    split at h
    ·cases h
    ·cases h
     exact ⟨x1, by dsimp only; omega, rM y4 fun t ht => (y5 t ht).2, rfl, by dsimp only; omega, lt⟩
   ·rw [if_neg c] at h
    cases h
end PM
end
section
namespace PH
open PySem PySem.Spec PyProof.Rows L2 PM
def rf (t : Addr) (p : Nat) : List (Str × V) := gZ "place" (.int p) (gZ "text" (.ref t) [])
theorem rk (t : Addr) (p : Nat) : (rf t p).lookup ("place" : Str) = some (.int p) := by
 unfold rf
 rw [aZ, if_pos rfl]
theorem Ad (t : Addr) (p : Nat) : (rf t p).lookup ("text" : Str) = some (.ref t) := by
 unfold rf
 rw [aZ, if_neg (by decide +kernel), aZ, if_pos rfl]
theorem ig (t : Addr) (p : Nat) {m : Str} (h1 : ¬ m = "place") (h2 : ¬ m = "text") : (rf t p).lookup m = none := by
 unfold rf
 rw [aZ, if_neg h1, aZ, if_neg h2]
 rfl
theorem yq (t : Addr) (n : Nat) : rf t n = [(("text" : Str), V.ref t), (("place" : Str), V.int n)] := by
 show (if ("text" : Str) = "place" then [(("text" : Str), V.int n)] else ("text", V.ref t) :: gZ "place" (.int n) []) = _
 rw [if_neg (by decide +kernel)]
 rfl
theorem xy (t : Addr) (p : Nat) : (rf t p).length = 2 := by
 rw [yq]
 rfl
theorem xx (t : Addr) (p q : Nat) : gZ "place" (.int q) (rf t p) = rf t q := by
 rw [yq, yq]
 show (if ("text" : Str) = "place" then [(("text" : Str), V.int q), ("place", V.int p)] else ("text", V.ref t) :: (if ("place" : Str) = "place" then [(("place" : Str), V.int q)] else [("place", V.int p), ("place", V.int q)])) = _
 rw [if_neg (by decide +kernel), if_pos rfl]
def bD (C : Addr) (H : Hp) (r t : Addr) (p : Nat) : Prop := ∃ dx, H r = some (.ins C dx (rf t p))
def SB (r : Addr) (H H' : Hp) : Prop := ∀ c o, c ≠ r -> H c = some o -> H' c = some o
theorem SB.trans {r : Addr} {H H1 H2 : Hp} (a : SB r H H1) (b : SB r H1 H2) : SB r H H2 := fun c o n e => b c o n (a c o n e)
theorem SB.of {r : Addr} {H H1 : Hp} (a : aq H H1) : SB r H H1 := fun c o _ e => a c o e
theorem SB.same {r : Addr} {H0 H H1 : Hp} (s : aq H0 H) (n : H0 r = none) (b : SB r H H1) : aq H0 H1 := fun c o e => b c o (ah e n) (s c o e)
theorem SB.seq {K : Fg} {r : Addr} {H H1 : Hp} {a : Addr} {xs : List V} (b : SB r H H1) (n : a ≠ r) (h : SqL K H a xs) : SqL K H1 a xs := by
 rcases h with (h | ⟨o, h⟩) | h
 ·exact .inl (.inl (b _ _ n h))
 ·exact .inl (.inr ⟨o, b _ _ n h⟩)
 ·exact .inr h
theorem SB.put {r : Addr} {H : Hp} {o : HO} : SB r H (L2.upd H r o) := fun c u n e => by rw [ag n]; exact e
def Flt (CF r : Addr) (H : Hp) (E : XK) (p : Nat) : Prop := ∀ H' dx, SB r H H' -> H' dx = some (.xd [(("place" : Str), .int p)]) -> E (.ref CF) (some dx) H'
theorem Flt.mono {CF r : Addr} {H H1 : Hp} {E : XK} {p : Nat} (b : SB r H H1) (h : Flt CF r H E p) : Flt CF r H1 E p := fun H' dx s e => h H' dx (b.trans s) e
structure nH (P : Program) (w : World) (K : Fg) (mg : Str -> Option Value) (base : Heap) (CF : Addr) (sp : Sp) : Prop where
 ex : ∃ (N fI : Addr) (fd : FuncData), lP K CF N fI /\ ci K fd ["self", "place"] [] /\ bc P w K mg base CX0 1 fI fd ["self", "place"] sp
 nP : PySem.W.findIn K (.ref CF) "place" = some none
 mgC : mg "Fault" = some (.ref CF)
structure cx (K : Fg) (mg : Str -> Option Value) (CR : Addr) : Prop where
 cl : Cls K CR
 nT : dP K CR "text"
 nP : dP K CR "place"
 mgC : mg "Reader" = some (.ref CR)
structure bV (P : Program) (w : World) (K : Fg) (mg : Str -> Option Value) (base : Heap) (CX : CXT) (C : Addr) (m : Str) (ps : List Str) (k : Nat) (sp : Sp) : Prop where
 ex : ∃ (f : Addr) (fd : FuncData), zy K C m f /\ ci K fd ps [] /\ bc P w K mg base CX k f fd ps sp
section
variable {P : Program} {w : World} {K : Fg} {mg : Str -> Option Value} {base : Heap}
def cI (CF : Addr) : Sp := fun vs H Q _ => ∃ (e : Addr) (p : Nat), vs = [.ref e, .int p] /\ H e = some (XcN e CF) /\ ∀ dx, H dx = none -> dx ≠ e -> Q .non (L2.upd (L2.upd H dx (.xd [(("place" : Str), .int p)])) e (XcR e CF dx))
theorem vP : al ["self", "place"] ["self", "place"] (ae bL) := ⟨rfl, rfl, rfl, by decide +kernel, rfl, by decide +kernel, by decide +kernel⟩
theorem lm {f CF N : Addr} {fd : FuncData} (F : Fun K "__init__" "Fault.__init__" bL f fd) (c : lP K CF N f) (n : PySem.W.findIn K (.ref CF) "place" = some none) : bc P w K mg base CX0 1 f fd ["self", "place"] (cI CF) := by
 refine F.ok vP (fun vs H Q E h => ?_) (fun cdv A outer s H vs Q E hr h => ?_)
 ·obtain ⟨_, _, rfl, _⟩ := h
  rfl
 ·obtain ⟨e, p, rfl, he, k⟩ := h
  refine ⟨_, af (yt c n (pv 0) (pv 1)), ?_⟩
  exact ⟨_, rfl, _, rfl, e, rfl, he, fun dx hdx ne => k dx hdx ne⟩
theorem cA {CF r : Addr} {H : Hp} {E : XK} {p : Nat} (h : Flt CF r H E p) (e : Addr) (he : H e = none) :
  cI CF (.ref e :: [.int p]) (L2.upd H e (XcN e CF)) (fun v H2 => v = .non /\ ∃ dx, H2 e = some (XcR e CF dx) /\ E (.ref CF) (some dx) (drp H2 e)) E0 := by
 refine ⟨e, p, rfl, upd_same, fun dx hdx ne => ⟨rfl, dx, upd_same, h _ dx (fun c o n q => ?_) ?_⟩⟩
 ·have ce : c ≠ e := ah q he
  have cd : c ≠ dx := fun z => by
   rw [ag ne, <- z, q] at hdx
   cases hdx
  rw [bo ce, ag ce, ag cd, ag ce]
  exact q
 ·rw [bo ne, ag ne, upd_same]
def md (CR : Addr) : Sp := fun vs H Q _ => ∃ (r dx t : Addr), vs = [.ref r, .ref t] /\ H r = some (.ins CR dx []) /\ ∀ H' : Hp, bD CR H' r t 0 -> (∀ b o, H b = some o -> b ≠ r -> H' b = some o) -> Q .non H'
theorem sE : al ["self", "text"] ["self", "text"] (ae eY) := ⟨rfl, rfl, rfl, by decide +kernel, rfl, by decide +kernel, by decide +kernel⟩
theorem jI {f CR : Addr} {fd : FuncData} (F : Fun K "__init__" "Reader.__init__" eY f fd) (T : cx K mg CR) : bc P w K mg base CX0 1 f fd ["self", "text"] (md CR) := by
 refine F.ok sE (fun vs H Q E h => ?_) (fun cdv A outer s H vs Q E hr h => ?_)
 ·obtain ⟨_, _, _, rfl, _⟩ := h
  rfl
 ·obtain ⟨r, dx, t, rfl, hp, k⟩ := h
  refine ⟨_, ad (pO (pv 0) (pv 1) rfl) (af (pO (pv 0) ai rfl)), ?_⟩
  refine ⟨_, rfl, _, rfl, r, CR, dx, [], rfl, hp, T.cl, T.nT, (by show 0 < 1000; decide), ?_⟩
  refine ⟨_, rfl, r, CR, dx, _, rfl, upd_same, T.cl, T.nP, (by show 1 < 1000; decide), ?_⟩
  refine k _ ⟨dx, upd_same⟩ fun b o e hb => ?_
  rw [ag hb, ag hb]
  exact e
def kH (K : Fg) (CR : Addr) : Sp := fun vs H Q _ => ∃ (r t : Addr) (bs : Rol.Bytes) (p : Nat), vs = [.ref r] /\ bD CR H r t p /\ SqL K H t (iV (bI bs)) /\ Q (.bl (decide (p = bs.length))) H
theorem yj : al ["self"] ["self"] (ae dv) := ⟨rfl, rfl, rfl, by decide +kernel, rfl, by decide +kernel, by decide +kernel⟩
theorem ub {f CR : Addr} {fd : FuncData} (F : Fun K "at_end" "Reader.at_end" dv f fd) (T : cx K mg CR) (B : TB mg) : bc P w K mg base CX0 1 f fd ["self"] (kH K CR) := by
 refine F.ok yj (fun vs H Q E h => ?_) (fun cdv A outer s H vs Q E hr h => ?_)
 ·obtain ⟨_, _, _, _, rfl, _⟩ := h
  rfl
 ·obtain ⟨r, t, bs, p, rfl, ⟨dx, h1⟩, hs, k⟩ := h
  refine ⟨_, af (au (gK gd (aI (pv 0) rfl) (ak aJ (by rfl) B.len Dd (aa (aI (pv 0) rfl) ac)) (aE _))), ?_⟩
  refine ⟨_, rfl, r, CR, dx, _, _, rfl, h1, T.cl, T.nP, rk _ _, _, rfl, r, CR, dx, _, _, rfl, h1, T.cl, T.nT, Ad _ _, t, _, rfl, .inl hs, rfl, ?_⟩
  have e : decide (V.int (p : Int) = V.int ((iV (bI bs)).length : Int)) = decide (p = bs.length) := by
   unfold iV
   rw [CP, bt]
   refine decide_eq_decide.mpr ⟨fun z => ?_, fun z => by rw [z]⟩
   have := V.int.inj z
   omega
  show Q (.bl (decide (V.int (p : Int) = V.int ((iV (bI bs)).length : Int)))) H
  rw [e]
  exact k
def pA (K : Fg) (CR : Addr) : Sp := fun vs H Q _ => ∃ (r t : Addr) (bs : Rol.Bytes) (p : Nat) (c : Int), vs = [.ref r, .int c] /\ bD CR H r t p /\ SqL K H t (iV (bI bs)) /\ p <= bs.length /\ Q (.bl (decide ((bI bs)[p]? = some c))) H
theorem z7 : al ["self", "byte"] ["self", "byte"] (ae eX) := ⟨rfl, rfl, rfl, by decide +kernel, rfl, by decide +kernel, by decide +kernel⟩
theorem yF {f CR : Addr} {fd : FuncData} (F : Fun K "sees" "Reader.sees" eX f fd) (T : cx K mg CR) (M : bV P w K mg base CX0 CR "at_end" ["self"] 1 (kH K CR)) : bc P w K mg base CX0 2 f fd ["self", "byte"] (pA K CR) := by
 obtain ⟨fM, fdM, mM, bM, GM⟩ := M.ex
 refine F.ok z7 (fun vs H Q E h => ?_) (fun cdv A outer s H vs Q E hr h => ?_)
 ·obtain ⟨_, _, _, _, _, rfl, _⟩ := h
  rfl
 ·obtain ⟨r, t, bs, p, c, rfl, hR, hs, hp, k⟩ := h
  obtain ⟨dx, h1⟩ := id hR
  refine ⟨_, af (au (Ao (xD (la (pv 0) T.cl mM GM hr bM .nil aC)) (xC (gK gd (aL am (aI (pv 0) rfl) (aI (pv 0) rfl) (fun _ _ => rfl)) (pv 1) (aE _))))), ?_⟩
  refine ⟨_, rfl, r, dx, _, rfl, h1, ig _ _ (by decide +kernel) (by decide +kernel), r, t, bs, p, rfl, hR, hs, _, rfl, _, rfl, ?_⟩
  by_cases c0 : p = bs.length
  ·rw [C0 c0]
   have e : (bI bs)[p]? = none := List.getElem?_eq_none (by rw [bt]; omega)
   rw [e] at k
   exact k
  ·rw [C6 c0]
   have ex : (bI bs)[p]? = some ((bI bs)[p]'(by rw [bt]; omega)) := Dg _
   generalize (bI bs)[p]'(by rw [bt]; omega) = y at ex
   refine ⟨_, rfl, r, CR, dx, _, _, rfl, h1, T.cl, T.nT, Ad _ _, _, rfl, r, CR, dx, _, _, rfl, h1, T.cl, T.nP, rk _ _, t, _, _, _, rfl, rfl, hs, aQ (j := p) (v := .int y) rfl (by unfold iV; rw [C1, ex]; rfl), _, rfl, rfl, ?_⟩
   have e : decide (V.int y = V.int c) = decide ((bI bs)[p]? = some c) := by
    rw [ex]
    refine decide_eq_decide.mpr ⟨fun z => by rw [V.int.inj z], fun z => by rw [C8 z]⟩
   show Q (.bl (decide (V.int y = V.int c))) H
   rw [e]
   exact k
end
end PH
end
section
namespace PH
open PySem PySem.Spec PyProof.Rows L2 PM
theorem fJ {c : TT} {tb : TS} {D : L2.Ends} {σ : L2.St} {H : Hp} (Pv : L2.St -> Hp -> Prop) (μ : L2.St -> Hp -> Nat) (h0 : Pv σ H)
  (hs : ∀ σ H, Pv σ H -> c σ H fun b H1 => if b = true then ∃ N : L2.St -> Hp -> Prop, (∀ σ' H', N σ' H' -> ∃ m', m' < μ σ H /\ m' = μ σ' H' /\ Pv σ' H') /\ tb { D with nx := N, ct := N, bk := D.nx } σ H1 else D.nx σ H1) : xo c tb D σ H :=
 ⟨fun m σ H => m = μ σ H /\ Pv σ H, ⟨_, rfl, h0⟩, fun m σ H hW => by
  obtain ⟨rfl, p⟩ := hW
  exact hs σ H p⟩
structure TN (mg : Str -> Option Value) : Prop where
 digits : ∃ t, mg "MOST_DIGITS" = some (.int 3 t)
 d0 : ∃ t, mg "DIGIT_0" = some (.int 48 t)
 d9 : ∃ t, mg "DIGIT_9" = some (.int 57 t)
 lf : ∃ t, mg "LINE_END" = some (.int 10 t)
 bl : ∃ t, mg "BLANK" = some (.int 32 t)
 width : ∃ t, mg "MOST_WIDTH" = some (.int 128 t)
 rows : ∃ t, mg "MOST_ROWS" = some (.int 256 t)
structure jE (K : Fg) (C : Addr) (H : Hp) (r t : Addr) (bs : Rol.Bytes) (p : Nat) : Prop where
 at_ : bD C H r t p
 txt : SqL K H t (iV (bI bs))
 ne : t ≠ r
 le : p <= bs.length
theorem jE.to {K : Fg} {C : Addr} {H H' : Hp} {r t : Addr} {bs : Rol.Bytes} {p q : Nat} (h : jE K C H r t bs p) (s : SB r H H') (h' : bD C H' r t q) (l : q <= bs.length) : jE K C H' r t bs q := ⟨h', s.seq h.ne h.txt, h.ne, l⟩
theorem jE.same {K : Fg} {C : Addr} {H H' : Hp} {r t : Addr} {bs : Rol.Bytes} {p : Nat} (h : jE K C H r t bs p) (s : aq H H') : jE K C H' r t bs p := h.to (SB.of s) (let ⟨dx, e⟩ := h.at_; ⟨dx, s _ _ e⟩) h.le
section
variable {P : Program} {w : World} {K : Fg} {mg : Str -> Option Value} {base : Heap}
def jS (K : Fg) (CR CF : Addr) : Sp := fun vs H Q E => ∃ (r t : Addr) (bs : Rol.Bytes) (p : Nat) (c : Int), vs = [.ref r, .int c] /\ jE K CR H r t bs p /\ ((bI bs)[p]? = some c -> ∀ H', SB r H H' -> jE K CR H' r t bs (p + 1) -> Q .non H') /\ ((bI bs)[p]? ≠ some c -> Flt CF r H E p)
theorem zZ : al ["self", "byte"] ["self", "byte"] (ae eW) := ⟨rfl, rfl, rfl, by decide +kernel, rfl, by decide +kernel, by decide +kernel⟩
theorem yD {f CR CF : Addr} {fd : FuncData} (F : Fun K "take" "Reader.take" eW f fd) (T : cx K mg CR) (TF : nH P w K mg base CF (cI CF)) (M : bV P w K mg base CX0 CR "sees" ["self", "byte"] 2 (pA K CR)) : bc P w K mg base (CX1 P w) 3 f fd ["self", "byte"] (jS K CR CF) := by
 obtain ⟨fM, fdM, mM, bM, GM⟩ := M.ex
 obtain ⟨NF, fF, fdF, xF, bF, GF⟩ := TF.ex
 refine F.okX zZ (fun vs H Q E h => ?_) (fun cdv A outer s H vs Q E hr h => ?_)
 ·obtain ⟨_, _, _, _, _, rfl, _⟩ := h
  rfl
 ·obtain ⟨r, t, bs, p, c, rfl, hR, kY, kN⟩ := h
  obtain ⟨dx, h1⟩ := id hR.at_
  refine ⟨_, ad (bp (g8 (iT (tG (pv 0) T.cl mM GM hr bM .nil aC (aa (pv 1) ac)))) (af (kZ rfl rfl xF GF hr (by rfl) TF.mgC bF (aa (aI (pv 0) rfl) ac) ip)) aK)
   (af (mm (pv 0) ai fz)), ?_⟩
  refine ⟨_, rfl, r, dx, _, rfl, h1, ig _ _ (by decide +kernel) (by decide +kernel), _, rfl, r, t, bs, p, c, rfl, hR.at_, hR.txt, hR.le, _, rfl, ?_⟩
  by_cases e : (bI bs)[p]? = some c
  ·rw [C0 e]
   have lt : p < bs.length := by
    have := (CY.mp e).1
    rw [bt] at this
    exact this
   refine ⟨_, rfl, r, CR, dx, _, _, rfl, h1, T.cl, T.nP, rk _ _, _, _, rfl, rfl, ?_⟩
   have e1 : gZ "place" (V.int ((p : Int) + 1)) (rf t p) = rf t (p + 1) := xx t p (p + 1)
   refine ⟨dx, _, h1, by rw [xy]; decide, ?_⟩
   refine kY e _ SB.put (hR.to SB.put ⟨dx, ?_⟩ lt)
   rw [upd_same]
   exact congrArg (fun q => some (HO.ins CR dx q)) e1
  ·rw [C6 e]
   exact ⟨_, rfl, r, CR, dx, _, _, rfl, h1, T.cl, T.nP, rk _ _, (by show 1 <= 1000; decide), fun z hz => cA (kN e) z hz⟩
def nZ (K : Fg) : Sp := fun vs H Q _ => ∃ (a : Addr) (d : Rol.Bytes), vs = [.ref a] /\ SqL K H a (iV (bI d)) /\ Q (.bl (fo d)) H
theorem yi : al ["digits"] ["digits"] (ae iO) := ⟨rfl, rfl, rfl, by decide +kernel, rfl, by decide +kernel, by decide +kernel⟩
theorem tY {f : Addr} {fd : FuncData} (F : Fun K "is_number" "is_number" iO f fd) (B : TB mg) (N : TN mg) : bc P w K mg base CX0 1 f fd ["digits"] (nZ K) := by
 obtain ⟨t1, e1⟩ := N.digits
 obtain ⟨t2, e2⟩ := N.d0
 refine F.ok yi (fun vs H Q E h => ?_) (fun cdv A outer s H vs Q E hr h => ?_)
 ·obtain ⟨_, _, rfl, _⟩ := h
  rfl
 ·obtain ⟨a, d, rfl, hs, k⟩ := h
  refine ⟨_, ad (bp (oF (aB gd (ak aJ (by rfl) B.len Dd (aa (pv 0) ac)) ai (aE _)) (mi (aB jH (ak aJ (by rfl) B.len Dd (aa (pv 0) ac)) (ax (v := .int 3) (by rfl) e1 ⟨_, rfl⟩) (aE _)))).pt (af (au An)) aK)
   (af (au (BG (gK gd (ak aJ (by rfl) B.len Dd (aa (pv 0) ac)) ai (aE _)) (xC (gK wb (aL am (pv 0) ai (fun _ _ => rfl)) (ax (v := .int 48) (by rfl) e2 ⟨_, rfl⟩) (aE _)))))), ?_⟩
  have fl : ((iV (bI d)).length : Int) = (d.length : Int) := by unfold iV; rw [CP, bt]
  refine ⟨_, rfl, a, _, rfl, .inl hs, rfl, _, rfl, ?_⟩
  refine eR (fun c => ?_) (fun c => ?_)
  ·have c' : d.length = 0 := by
    have := V.int.inj (Dc c)
    omega
   have : fo d = false := by
    unfold fo
    rw [c']
    rfl
   rw [this] at k
   exact k
  have c' : d.length ≠ 0 := fun z => c (C0 (congrArg V.int (by rw [fl, z]; rfl)))
  refine ⟨_, rfl, a, _, rfl, .inl hs, _, _, rfl, rfl, _, rfl, ?_⟩
  refine eR (fun c2 => ?_) (fun c2 => ?_)
  ·have c2' : 3 < d.length := by
    have := Dc c2
    omega
   have : fo d = false := by
    unfold fo
    rw [C0 c2', Bool.or_true]
    rfl
   rw [this] at k
   exact k
  have c2' : ¬ 3 < d.length := fun z => c2 (C0 (by omega))
  refine ⟨_, rfl, a, _, rfl, .inl hs, rfl, _, rfl, ?_⟩
  have nk : fo d = (decide (d.length = 1) || !decide (d.head? = some 48)) := by
   unfold fo
   rw [C6 c', C6 c2']
   rfl
  rw [nk] at k
  refine eR (fun c3 => ?_) (fun c3 => ?_)
  ·have c3' : d.length = 1 := by
    have := V.int.inj (Dc c3)
    omega
   rw [C0 c3', Bool.true_or] at k
   exact k
  have c3' : ¬ d.length = 1 := fun z => c3 (C0 (congrArg V.int (by rw [fl, z]; rfl)))
  rw [C6 c3', Bool.false_or] at k
  obtain ⟨x, l, rfl⟩ : ∃ x l, d = x :: l := by
   cases d with
   | nil => exact absurd rfl c'
   | cons x l => exact ⟨x, l, rfl⟩
  refine ⟨_, rfl, a, _, _, _, rfl, rfl, hs, aQ (j := 0) (v := .int x.toNat) rfl rfl, rfl, ?_⟩
  have e : (!decide (V.int (x.toNat : Int) = V.int 48)) = !decide ((x :: l).head? = some 48) := by
   congr 1
   refine decide_eq_decide.mpr ⟨fun z => ?_, fun z => ?_⟩
   ·have z' := V.int.inj z
    have : x = 48 := UInt8.toNat_inj.mp (by show x.toNat = 48; omega)
    rw [this]
    rfl
   ·have : x = 48 := C8 z
    rw [this]
    rfl
  show Q (.bl (!decide (V.int (x.toNat : Int) = V.int 48))) H
  rw [e]
  exact k
def x9 (K : Fg) : Sp := fun vs H Q _ => ∃ (a : Addr) (d : Rol.Bytes), vs = [.ref a] /\ SqL K H a (iV (bI d)) /\ (∀ c ∈ d, Rol.isDigit c = true) /\ Q (.int (Rol.number d : Nat)) H
theorem vN : al ["digits", "value", "digit"] ["digits"] (ae kQ) := ⟨rfl, rfl, rfl, by decide +kernel, rfl, by decide +kernel, by decide +kernel⟩
theorem Ay {f : Addr} {fd : FuncData} (F : Fun K "value_of" "value_of" kQ f fd) (N : TN mg) : bc P w K mg base CX0 1 f fd ["digits"] (x9 K) := by
 obtain ⟨t2, e2⟩ := N.d0
 refine F.ok vN (fun vs H Q E h => ?_) (fun cdv A outer s H vs Q E hr h => ?_)
 ·obtain ⟨_, _, rfl, _⟩ := h
  rfl
 ·obtain ⟨a, d, rfl, hs, hd, k⟩ := h
  refine ⟨_, ad (aw (i := 1) vN.nd rfl (Or.inl rfl) ai) (ad (ca PassesOwn.never rfl (bq (pv 0)) (aG (i := 2) vN.nd rfl (Or.inl rfl))
    (af (aw (i := 1) vN.nd rfl (Or.inl rfl) (aM dH (aM bj (aM Ar (pv 1) ai) (pv 2)) (ax (v := .int 48) (by rfl) e2 ⟨_, rfl⟩)))))
   (af (au (pv 1)))), ?_⟩
  refine ⟨_, rfl, a, rfl, ⟨_, hs⟩, cY (K := K) (a := a) (xs := iV (bI d)) (fun i σ H' => ∃ v2 : Option V, σ = [some (.ref a), some (.int (Rol.number (d.take i) : Nat)), v2] /\ H' = H) ⟨none, rfl, rfl⟩ (fun i σ H' _ ⟨_, _, e⟩ => by rw [e]; exact hs) ?_ ?_⟩
  ·rintro i y σ H' hy ⟨v2, rfl, rfl⟩
   unfold iV bI at hy
   rw [C1, C1] at hy
   cases ec : d[i]? with
   | none =>
    rw [ec] at hy
    cases hy
   | some c =>
    rw [ec] at hy
    cases hy
    have hc := hd c (List.mem_of_getElem? ec)
    unfold Rol.isDigit at hc
    simp only [C4, C9] at hc
    refine ⟨_, rfl, _, _, rfl, rfl, .inr ⟨by decide, by decide⟩, _, rfl, _, _, rfl, rfl, _, _, rfl, rfl, some (.int c.toNat), ?_, rfl⟩
    rw [List.take_add_one, ec]
    have e : ((Rol.number (d.take i) : Nat) : Int) * 10 + (c.toNat : Int) - 48 = ((Rol.number (d.take i ++ [c]) : Nat) : Int) := by
     rw [oO]
     omega
    show [some (V.ref a), some (V.int (((Rol.number (d.take i) : Nat) : Int) * 10 + (c.toNat : Int) - 48)), some (V.int c.toNat)] = _
    rw [e]
    rfl
  ·rintro σ H' ⟨v2, rfl, rfl⟩
   rw [show (iV (bI d)).length = d.length by unfold iV; rw [CP, bt], List.take_length]
   exact ⟨_, rfl, k⟩
end
end PH
end
section
namespace PH
open PySem PySem.Spec PyProof.Rows L2 PM
theorem gT {α : Type} {f : α -> Bool} : ∀ {l : List α} {n : Nat}, (∀ x ∈ l.take n, f x = true) -> (l[n]? = none ∨ ∃ x, l[n]? = some x /\ f x = false) -> l.takeWhile f = l.take n
 | [], n, _, _ => by simp
 | x :: r, 0, _, h => by
  rcases h with h | ⟨y, h1, h2⟩
  ·simp at h
  ·have : x = y := by simpa using h1
   subst this
   rw [List.takeWhile_cons, h2]
   rfl
 | x :: r, n + 1, ha, h => by
  have hx := ha x (by simp)
  rw [List.takeWhile_cons, hx, if_pos rfl, gT (n := n) (fun y hy => ha y (by rw [List.take_succ_cons]; exact C2 _ hy)) (by simpa using h)]
  rfl
section
variable {P : Program} {w : World} {K : Fg} {mg : Str -> Option Value} {base : Heap}
def kG (K : Fg) (CR : Addr) : Sp := fun vs H Q _ => ∃ (r t : Addr) (bs : Rol.Bytes) (p : Nat), vs = [.ref r] /\ jE K CR H r t bs p /\ ∀ (q : Addr), H q = none -> Q (.ref q) (L2.upd H q (.lst (iV (bI (ay (bs.drop p))))))
theorem kM : al ["self", "end"] ["self"] (ae bK) := ⟨rfl, rfl, rfl, by decide +kernel, rfl, by decide +kernel, by decide +kernel⟩
theorem ua {f CR : Addr} {fd : FuncData} (F : Fun K "digits_here" "Reader.digits_here" bK f fd) (T : cx K mg CR) (B : TB mg) (N : TN mg) : bc P w K mg base CX0 1 f fd ["self"] (kG K CR) := by
 obtain ⟨t0, e0⟩ := N.d0
 obtain ⟨t9, e9⟩ := N.d9
 refine F.ok kM (fun vs H Q E h => ?_) (fun cdv A outer s H vs Q E hr h => ?_)
 ·obtain ⟨_, _, _, _, rfl, _⟩ := h
  rfl
 ·obtain ⟨r, t, bs, p, rfl, hR, k⟩ := h
  obtain ⟨dx, h1⟩ := id hR.at_
  have hs := hR.txt
  have hp := hR.le
  refine ⟨_, ad (aw (i := 1) kM.nd rfl (Or.inl rfl) (aI (pv 0) rfl))
   (ad (iw PassesOwn.never (mj (aB tM (pv 1) (ak aJ (by rfl) B.len Dd (aa (aI (pv 0) rfl) ac)) (aE _)) (iR (fY jc jc (ax (v := .int 48) (by rfl) e0 ⟨_, rfl⟩) (aL am (aI (pv 0) rfl) (pv 1) (fun _ _ => rfl)) (ax (v := .int 57) (by rfl) e9 ⟨_, rfl⟩)))).pt
    (af (sX (i := 1) kM.nd rfl (Or.inl rfl) ai fz)))
   (af (au (fZ iI (aI (pv 0) rfl) (cT (aI (pv 0) rfl)) (cT (pv 1)))))), ?_⟩
  have fl : ((iV (bI bs)).length : Int) = (bs.length : Int) := by unfold iV; rw [CP, bt]
  refine ⟨_, rfl, r, CR, dx, _, _, rfl, h1, T.cl, T.nP, rk _ _, ?_⟩
  have fin : ∀ n, p + n <= bs.length -> (∀ x ∈ (bs.drop p).take n, Rol.isDigit x = true) -> (p + n = bs.length ∨ ∃ x, bs[p + n]? = some x /\ Rol.isDigit x = false) -> ∀ q, H q = none -> Q (.ref q) (L2.upd H q (.lst (o8 (iV (bI bs)) (some (p : Int)) (some ((p + n : Nat) : Int))))) := fun n hn ha hb q hq => by
   have e : o8 (iV (bI bs)) (some (p : Int)) (some ((p + n : Nat) : Int)) = iV (bI (ay (bs.drop p))) := by
    have tw : ay (bs.drop p) = (bs.drop p).take n := by
     unfold ay
     refine gT ha ?_
     rcases hb with z | ⟨x, z1, z2⟩
     ·exact .inl (List.getElem?_eq_none (by rw [List.length_drop]; omega))
     ·exact .inr ⟨x, by rw [List.getElem?_drop]; exact z1, z2⟩
    unfold o8
    rw [tw, HT.sIx_nat, HT.sIx_nat]
    have l : (iV (bI bs)).length = bs.length := by unfold iV; rw [CP, bt]
    rw [l, Nat.min_eq_left hp, Nat.min_eq_left hn]
    unfold iV bI
    rw [show p + n - p = n by omega, <- List.map_drop, <- List.map_drop, <- List.map_take, <- List.map_take]
   rw [e]
   exact k q hq
  refine fJ (fun σ H' => ∃ n, σ = [some (.ref r), some (.int ((p + n : Nat) : Int))] /\ H' = H /\ p + n <= bs.length /\ ∀ x ∈ (bs.drop p).take n, Rol.isDigit x = true) (fun σ H' => match σ with
   | [_, some (.int z)] => bs.length - z.toNat
   | _ => 0) ⟨0, rfl, rfl, hp, fun x hx => by simp at hx⟩ ?_
  rintro σ H' ⟨n, rfl, rfl, hn, ha⟩
  have ret : (p + n = bs.length ∨ ∃ x, bs[p + n]? = some x /\ Rol.isDigit x = false) -> zO (tSl (B7 K) (Bl K (lZ 0) "text") (xZ (Bl K (lZ 0) "place")) (xZ (lZ 1))) { nx := fun _ H' => Q .non H', rt := Q } [some (.ref r), some (.int ((p + n : Nat) : Int))] H' := fun hb =>
   ⟨_, rfl, r, CR, dx, _, _, rfl, h1, T.cl, T.nT, Ad _ _, _, rfl, r, CR, dx, _, _, rfl, h1, T.cl, T.nP, rk _ _, _, rfl, _, rfl, _, rfl, t, _, rfl, hs, fin n hn ha hb⟩
  refine ⟨_, rfl, _, rfl, r, CR, dx, _, _, rfl, h1, T.cl, T.nT, Ad _ _, t, _, rfl, .inl hs, _, _, rfl, rfl, _, rfl, ?_⟩
  refine eR (fun c => ?_) (fun c => ?_)
  ·have c' : p + n < bs.length := by
    have := Dc c
    omega
   have ex : bs[p + n]? = some (bs[p + n]) := Dg c'
   generalize bs[p + n] = x at ex
   refine ⟨_, rfl, r, CR, dx, _, _, rfl, h1, T.cl, T.nT, Ad _ _, _, rfl, t, _, _, _, rfl, rfl, hs, aQ (j := p + n) (v := .int x.toNat) rfl (by unfold iV; rw [C1, BV ex]; rfl), _, _, rfl, rfl, _, rfl, ?_⟩
   refine eR (fun c2 => ?_) (fun c2 => ?_)
   ·have c2' := Dc c2
    refine ⟨_, _, rfl, rfl, _, rfl, ?_⟩
    refine eR (fun c3 => ?_) (fun c3 => ?_)
    ·have c3' := Dc c3
     refine ⟨fun σ' H'' => (∃ n', σ' = [some (.ref r), some (.int ((p + n' : Nat) : Int))] /\ H'' = H' /\ p + n' <= bs.length /\ ∀ x ∈ (bs.drop p).take n', Rol.isDigit x = true) /\ σ' = [some (.ref r), some (.int ((p + (n + 1) : Nat) : Int))], fun σ' H'' hN => ?_, ?_⟩
     ·obtain ⟨hN, e⟩ := hN
      subst e
      exact ⟨_, by dsimp only; omega, rfl, hN⟩
     ·have e : ((p + n : Nat) : Int) + 1 = ((p + (n + 1) : Nat) : Int) := by omega
      refine ⟨_, rfl, _, _, rfl, rfl, ⟨n + 1, ?_, rfl, by omega, fun y hy => ?_⟩, ?_⟩
      ·show [some (V.ref r), some (V.int (((p + n : Nat) : Int) + 1))] = _
       rw [e]
      ·rw [List.take_add_one, List.getElem?_drop, ex] at hy
       rcases Dh.mp hy with z | z
       ·exact ha y z
       ·have : y = x := by simpa using z
        rw [this]
        unfold Rol.isDigit
        simp only [C4, C9]
        omega
      ·show [some (V.ref r), some (V.int (((p + n : Nat) : Int) + 1))] = _
       rw [e]
    ·have c3' : ¬ (x.toNat : Int) <= 57 := fun z => c3 (C0 z)
     refine ret (.inr ⟨x, ex, ?_⟩)
     unfold Rol.isDigit
     rw [C6 (show ¬ x.toNat <= 57 by omega), Bool.and_false]
   ·have c2' : ¬ (48 : Int) <= x.toNat := fun z => c2 (C0 z)
    refine ⟨_, rfl, ret (.inr ⟨x, ex, ?_⟩)⟩
    unfold Rol.isDigit
    rw [C6 (show ¬ 48 <= x.toNat by omega), Bool.false_and]
  ·have c' : ¬ ((p + n : Nat) : Int) < (iV (bI bs)).length := fun z => c (C0 z)
   exact ret (.inl (by omega))
end
end PH
end
section
namespace PH
open PySem PySem.Spec PyProof.Rows L2 PM
section
variable {P : Program} {w : World} {K : Fg} {mg : Str -> Option Value} {base : Heap}
def dq (K : Fg) (CR CF : Addr) : Sp := fun vs H Q E => ∃ (r t : Addr) (bs : Rol.Bytes) (p lo hi : Nat), vs = [.ref r, .int lo, .int hi] /\ hi < 1000 /\ jE K CR H r t bs p /\ (∀ k, Rol.numberIn lo hi p (bs.drop p) = .error k -> Flt CF r H E k) /\ ∀ x, Rol.numberIn lo hi p (bs.drop p) = .ok x -> ∀ H', SB r H H' -> jE K CR H' r t bs x.2.1 -> Q (.int x.1) H'
theorem mf : al ["self", "lowest", "highest", "digits"] ["self", "lowest", "highest"] (ae bJ) := ⟨rfl, rfl, rfl, by decide +kernel, rfl, by decide +kernel, by decide +kernel⟩
theorem oN {f CR CF : Addr} {fd : FuncData} (F : Fun K "take_number" "Reader.take_number" bJ f fd) (T : cx K mg CR) (B : TB mg) (TF : nH P w K mg base CF (cI CF)) (M : bV P w K mg base CX0 CR "digits_here" ["self"] 1 (kG K CR))
  (U1 : ao P w K mg base "is_number" ["digits"] 1 (nZ K)) (U2 : ao P w K mg base "value_of" ["digits"] 1 (x9 K)) : bc P w K mg base (CX1 P w) 3 f fd ["self", "lowest", "highest"] (dq K CR CF) := by
 obtain ⟨fM, fdM, mM, bM, GM⟩ := M.ex
 obtain ⟨NF, fF, fdF, xF, bF, GF⟩ := TF.ex
 obtain ⟨f1, fd1, m1, k1, b1, G1⟩ := U1.ex
 obtain ⟨f2, fd2, m2, k2, b2, G2⟩ := U2.ex
 refine F.okX mf (fun vs H Q E h => ?_) (fun cdv A outer s H vs Q E hr h => ?_)
 ·obtain ⟨_, _, _, _, _, _, rfl, _⟩ := h
  rfl
 ·obtain ⟨r, t, bs, p, lo, hi, rfl, hh, hR, kN, kY⟩ := h
  obtain ⟨dx, h1⟩ := id hR.at_
  have hr1 : bG 1 _ := hr.mono (by decide)
  refine ⟨_, ad (aw (i := 3) mf.nd rfl (Or.inl rfl) (la (pv 0) T.cl mM GM hr1 bM .nil aC))
   (ad (bp (oF (g8 (iT (aj G1 hr1 (by rfl) m1 k1 b1 .nil aC (aa (pv 3) ac)))) (mi (g8 (fY jc jc (pv 1) (aj G2 hr1 (by rfl) m2 k2 b2 .nil aC (aa (pv 3) ac)) (pv 2))))).pt
    (af (kZ rfl rfl xF GF hr (by rfl) TF.mgC bF (aa (aI (pv 0) rfl) ac) ip)) aK)
   (ad (mm (pv 0) (ak aJ (by rfl) B.len Dd (aa (pv 3) ac)) fz)
   (af (au (aj G2 hr1 (by rfl) m2 k2 b2 .nil aC (aa (pv 3) ac)))))), ?_⟩
  refine ⟨_, rfl, r, dx, _, rfl, h1, ig _ _ (by decide +kernel) (by decide +kernel), r, t, bs, p, rfl, hR, fun q hq => ?_⟩
  have sq : aq H (L2.upd H q (.lst (iV (bI (ay (bs.drop p)))))) := aq.upd hq
  have h1' := sq _ _ h1
  have hd := SqL.of (K := K) (L2.upd_same (H := H) (a := q) (o := .lst (iV (bI (ay (bs.drop p))))))
  have all := kh (bs.drop p)
  have ni := ln (lo := lo) (p := p) (b := bs.drop p) hh
  have dl := kg (bs.drop p)
  rw [List.length_drop] at dl
  have hle := hR.le
  have bad : ¬ (fo (ay (bs.drop p)) = true /\ lo <= Rol.number (ay (bs.drop p)) /\ Rol.number (ay (bs.drop p)) <= hi) -> Flt CF r (L2.upd H q (.lst (iV (bI (ay (bs.drop p)))))) E p := fun n => by
   rw [if_neg n] at ni
   exact (kN p ni).mono (SB.of sq)
  have good : fo (ay (bs.drop p)) = true /\ lo <= Rol.number (ay (bs.drop p)) /\ Rol.number (ay (bs.drop p)) <= hi -> ∀ H', SB r H H' -> jE K CR H' r t bs (p + (ay (bs.drop p)).length) -> Q (.int (Rol.number (ay (bs.drop p)))) H' := fun y => by
   rw [if_pos y] at ni
   exact kY _ ni
  generalize ay (bs.drop p) = d at *
  refine ⟨_, rfl, q, d, rfl, hd, _, rfl, ?_⟩
  cases ok : fo d with
  | false =>
   rw [ok] at bad
   exact ⟨_, rfl, r, CR, dx, _, _, rfl, h1', T.cl, T.nP, rk _ _, (by show 1 <= 1000; decide), fun z hz => cA (bad (by simp)) z hz⟩
  | true =>
   rw [ok] at bad good
   refine ⟨_, rfl, _, rfl, q, d, rfl, hd, all, _, _, rfl, rfl, _, rfl, ?_⟩
   refine eR (fun c => ?_) (fun c => ?_)
   ·have c' := Dc c
    refine ⟨_, rfl, _, _, rfl, rfl, _, rfl, ?_⟩
    by_cases c2 : (Rol.number d : Int) <= hi
    ·rw [C0 c2]
     refine ⟨_, rfl, r, CR, dx, _, _, rfl, h1', T.cl, T.nP, rk _ _, _, rfl, q, _, rfl, .inl hd, _, _, rfl, rfl, dx, _, h1', by rw [xy]; decide, ?_⟩
     have e1 : gZ "place" (V.int ((p : Int) + ((iV (bI d)).length : Int))) (rf t p) = rf t (p + d.length) := by
      rw [show ((p : Int) + ((iV (bI d)).length : Int)) = ((p + d.length : Nat) : Int) by unfold iV; rw [CP, bt]; omega]
      exact xx t p _
     have nq : q ≠ r := (ah h1 hq).symm
     have sb : SB r H (L2.upd (L2.upd H q (.lst (iV (bI d)))) r (.ins CR dx (gZ "place" (V.int ((p : Int) + ((iV (bI d)).length : Int))) (rf t p)))) := (SB.of sq).trans SB.put
     refine ⟨_, rfl, q, d, rfl, SqL.of (by rw [ag nq, upd_same]), all, good ⟨rfl, by omega, by omega⟩ _ sb (hR.to sb ⟨dx, by rw [upd_same]; exact congrArg (fun z => some (HO.ins CR dx z)) e1⟩ (by omega))⟩
    ·rw [C6 c2]
     exact ⟨_, rfl, r, CR, dx, _, _, rfl, h1', T.cl, T.nP, rk _ _, (by show 1 <= 1000; decide), fun z hz => cA (bad (by omega)) z hz⟩
   ·have c' : ¬ (lo : Int) <= Rol.number d := fun z => c (C0 z)
    exact ⟨_, rfl, _, rfl, r, CR, dx, _, _, rfl, h1', T.cl, T.nP, rk _ _, (by show 1 <= 1000; decide), fun z hz => cA (bad (by omega)) z hz⟩
end
end PH
end
section
namespace PH
open PySem PySem.Spec PyProof.Rows L2 PM
def xl (bs : Rol.Bytes) (r : Addr) (H : Hp) : Nat := match H r with
 | some (.ins _ _ fs) => (match fs.lookup ("place" : Str) with
  | some (.int z) => bs.length - z.toNat
  | _ => 0)
 | _ => 0
theorem kq {bs : Rol.Bytes} {C r t : Addr} {H : Hp} {p : Nat} (h : bD C H r t p) : xl bs r H = bs.length - p := by
 obtain ⟨dx, e⟩ := h
 unfold xl
 rw [e]
 dsimp only
 rw [rk]
 rfl
theorem bD.ne {C r t a : Addr} {H : Hp} {p : Nat} {xs : List V} (h : bD C H r t p) (e : H a = some (.lst xs)) : a ≠ r := by
 obtain ⟨dx, q⟩ := h
 exact wD e q (by intro z; cases z)
section
variable {P : Program} {w : World} {K : Fg} {mg : Str -> Option Value} {base : Heap}
def kE (K : Fg) (CR CF : Addr) : Sp := fun vs H Q E => ∃ (r t : Addr) (bs : Rol.Bytes) (p wd : Nat), vs = [.ref r, .int wd] /\ 1 <= wd /\ wd <= 128 /\ jE K CR H r t bs p /\ (∀ k, gx wd (wd + 1) 0 p (bs.drop p) = .error k -> Flt CF r H E k) /\
 ∀ y, gx wd (wd + 1) 0 p (bs.drop p) = .ok y -> ∀ H' a, SB r H H' -> H a = none -> H' a = some (.lst (iV (y.1.map fun t : Nat => (t : Int)))) -> jE K CR H' r t bs y.2.1 -> Q (.ref a) H'
theorem fO : al ["reader", "width", "tracks", "lowest", "track"] ["reader", "width"] (ae eV) := ⟨rfl, rfl, rfl, by decide +kernel, rfl, by decide +kernel, by decide +kernel⟩
theorem tV {f CR CF : Addr} {fd : FuncData} (F : Fun K "take_tracks" "take_tracks" eV f fd) (T : cx K mg CR) (N : TN mg) (M1 : bV P w K mg base CX0 CR "sees" ["self", "byte"] 2 (pA K CR))
  (M2 : bV P w K mg base (CX1 P w) CR "take" ["self", "byte"] 3 (jS K CR CF)) (M3 : bV P w K mg base (CX1 P w) CR "take_number" ["self", "lowest", "highest"] 3 (dq K CR CF)) : bc P w K mg base (CX1 P w) 4 f fd ["reader", "width"] (kE K CR CF) := by
 obtain ⟨f1, fd1, m1, b1, G1⟩ := M1.ex
 obtain ⟨f2, fd2, m2, b2, G2⟩ := M2.ex
 obtain ⟨f3, fd3, m3, b3, G3⟩ := M3.ex
 obtain ⟨tb, eb⟩ := N.bl
 refine F.okX fO (fun vs H Q E h => ?_) (fun cdv A outer s H vs Q E hr h => ?_)
 ·obtain ⟨_, _, _, _, _, rfl, _⟩ := h
  rfl
 ·obtain ⟨r, t, bs, p, wd, rfl, w1, w2, hR, kN, kY⟩ := h
  have hr2 : bG 2 _ := hr.mono (by decide)
  refine ⟨_, ad (aw (i := 2) fO.nd rfl (Or.inl rfl) (aH ac)) (ad (aw (i := 3) fO.nd rfl (Or.inl rfl) ai)
   (ad (iw tK (iT (tG (pv 0) T.cl m1 G1 hr2 b1 .nil aC (aa (ax (v := .int 32) (by rfl) eb ⟨_, rfl⟩) ac)))
    (ad (bv (cU (pv 0) T.cl m2 G2 hr b2 .nil bC (aa (ax (v := .int 32) (by rfl) eb ⟨_, rfl⟩) ac)))
    (ad (aw (i := 4) fO.nd rfl (Or.inl rfl) (cU (pv 0) T.cl m3 G3 hr b3 .nil bC (aa (pv 3) (aa (aM dH (pv 1) ai) ac))))
    (ad (bv (jb PySem.F.plainAttrs_list PySem.F.slot_list_append PySem.F.type_list_append cy (pv 2) (aa (pv 4) ac)))
    (af (aw (i := 3) fO.nd rfl (Or.inl rfl) (aM bj (pv 4) ai)))))))
   (af (au (pv 2))))), ?_⟩
  refine ⟨De _, fun a ha => ?_⟩
  have s0 : aq H (L2.upd H a (.lst [])) := aq.upd ha
  refine fJ (fun σ H' => ∃ (ts : List Nat) (least f q : Nat) (v4 : Option V), σ = [some (.ref r), some (.int wd), some (.ref a), some (.int least), v4] /\ SB r H H' /\ H' a = some (.lst (iV (ts.map fun t : Nat => (t : Int)))) /\ jE K CR H' r t bs q /\ wd + 1 <= f + least /\ least <= wd /\ ts.length <= least /\ gx wd (wd + 1) 0 p (bs.drop p) = Ai ts (gx wd f least q (bs.drop q))) (fun _ H' => xl bs r H')
   ⟨[], 0, wd + 1, p, none, rfl, SB.of s0, upd_same, hR.same s0, C7 _, De _, C7 _, by rw [vZ]⟩ ?_
  rintro σ H' ⟨ts, least, f, q, v4, rfl, q1, q2, q3, q4, q5, q6, q7⟩
  obtain ⟨dx, h1⟩ := id q3.at_
  obtain ⟨f, rfl⟩ : ∃ g, f = g + 1 := ⟨f - 1, by omega⟩
  refine ⟨_, rfl, r, dx, _, rfl, h1, ig _ _ (by decide +kernel) (by decide +kernel), r, t, bs, q, 32, rfl, q3.at_, q3.txt, q3.le, _, rfl, ?_⟩
  by_cases e : (bI bs)[q]? = some 32
  ·rw [C0 e]
   have e' : bs[q]? = some 32 := (dN (n := 32) (by decide)).mp e
   rw [rJ e'] at q7
   refine ⟨fun σ' H'' => (∃ (ts : List Nat) (least f q : Nat) (v4 : Option V), σ' = [some (.ref r), some (.int wd), some (.ref a), some (.int least), v4] /\ SB r H H'' /\ H'' a = some (.lst (iV (ts.map fun t : Nat => (t : Int)))) /\ jE K CR H'' r t bs q /\ wd + 1 <= f + least /\ least <= wd /\ ts.length <= least /\ gx wd (wd + 1) 0 p (bs.drop p) = Ai ts (gx wd f least q (bs.drop q))) /\ xl bs r H'' < xl bs r H', fun σ' H'' hN => ⟨_, hN.2, rfl, hN.1⟩, ?_⟩
   refine ⟨_, rfl, r, dx, _, rfl, h1, ig _ _ (by decide +kernel) (by decide +kernel), r, t, bs, q, 32, rfl, q3, fun _ H1 sb1 hR1 => ?_, fun ne => absurd e ne⟩
   obtain ⟨dx1, h11⟩ := id hR1.at_
   have nar : a ≠ r := q3.at_.ne q2
   refine ⟨_, rfl, r, dx1, _, rfl, h11, ig _ _ (by decide +kernel) (by decide +kernel), _, rfl, _, rfl, _, _, rfl, rfl, r, t, bs, q + 1, least, wd - 1, ?_, by omega, hR1, fun k ek => ?_, fun x ex H2 sb2 hR2 => ?_⟩
   ·show [V.ref r, V.int (least : Int), V.int ((wd : Int) - 1)] = [V.ref r, V.int (least : Int), V.int ((wd - 1 : Nat) : Int)]
    rw [show ((wd - 1 : Nat) : Int) = (wd : Int) - 1 by omega]
   ·rw [ek] at q7
    exact (kN k q7).mono (q1.trans sb1)
   ·obtain ⟨x1, x2, x3, x4, x5⟩ := jZ (by omega) ex
    have a2 := sb2 _ _ nar (sb1 _ _ nar q2)
    refine ⟨_, rfl, .inl ⟨rfl, _, SqL.of a2⟩, _, rfl, a, _, _, rfl, rfl, a2, by unfold iV; rw [CP, CP, sizeLine_eq]; omega, ?_⟩
    have lst : iV (ts.map fun t : Nat => (t : Int)) ++ [V.int x.1] = iV ((ts ++ [x.1]).map fun t : Nat => (t : Int)) := by
     unfold iV
     rw [Dj, Dj]
     rfl
    have hR3 : bD CR (L2.upd H2 a (.lst (iV (ts.map fun t : Nat => (t : Int)) ++ [V.int x.1]))) r t x.2.1 := by
     obtain ⟨dz, ez⟩ := hR2.at_
     exact ⟨dz, by rw [ag nar.symm]; exact ez⟩
    have sb3 : SB r H (L2.upd H2 a (.lst (iV (ts.map fun t : Nat => (t : Int)) ++ [V.int x.1]))) := fun c o n z => by
     rw [ag (ah z ha)]
     exact sb2 _ _ n (sb1 _ _ n (q1 _ _ n z))
    refine ⟨_, rfl, _, _, rfl, rfl, ⟨ts ++ [x.1], x.1 + 1, f, x.2.1, _, rfl, sb3, by rw [upd_same, lst], hR.to sb3 hR3 hR2.le, by omega, by omega, by rw [CV]; simp; omega, ?_⟩, ?_⟩
    ·rw [q7, ex]
     dsimp only
     rw [x3, tj]
    ·rw [kq hR3, kq q3.at_]
     omega
  ·rw [C6 e]
   have e' : bs[q]? ≠ some 32 := fun z => e ((dN (n := 32) (by decide)).mpr z)
   rw [xm e'] at q7
   refine ⟨_, rfl, kY _ q7 H' a q1 ha ?_ q3⟩
   show H' a = some (.lst (iV ((ts ++ []).map fun t : Nat => (t : Int))))
   rw [Dq]
   exact q2
end
end PH
end
section
namespace PH
open PySem PySem.Spec PyProof.Rows L2 PM
structure gS (P : Program) (w : World) (K : Fg) (mg : Str -> Option Value) (base : Heap) (x : Str) (ps : List Str) (k : Nat) (sp : Sp) : Prop where
 ex : ∃ (f : Addr) (fd : FuncData), mg x = some (.ref f) /\ PySem.W.keepIn K (.ref f) = true /\ ci K fd ps [] /\ bc P w K mg base (CX1 P w) k f fd ps sp
theorem az.sb {r : Addr} {H H' : Hp} {w : Nat} (s : SB r H H') (n : ∀ xs, H r ≠ some (.lst xs)) : ∀ {rs : List Addr} {xs : List Rol.Row}, az H w rs xs -> az H' w rs xs
 | [], [], _ => trivial
 | c :: rs, x :: xs, h => ⟨s _ _ (fun z => n _ (by rw [<- z]; exact h.1)) h.1, az.sb s n h.2⟩
 | [], _ :: _, h => h.elim
 | _ :: _, [], h => h.elim
theorem az.rep {H : Hp} {w : Nat} {a : Addr} {x : Rol.Row} (h : H a = some (.lst (iV (tk w x)))) : ∀ n : Nat, az H w (List.replicate n a) (List.replicate n x)
 | 0 => trivial
 | n + 1 => ⟨h, az.rep h n⟩
theorem bD.no {C r t : Addr} {H : Hp} {p : Nat} (h : bD C H r t p) : ∀ xs, H r ≠ some (.lst xs) := fun xs z => by
 obtain ⟨dx, e⟩ := h
 rw [e] at z
 cases z
theorem xg {xs : List V} {v : V} (h : xs.getLast? = some v) : atI xs (-1) = some v := by
 have ne : xs ≠ [] := fun z => by rw [z] at h; cases h
 have hl : 0 < xs.length := List.length_pos_iff.mpr ne
 rw [List.getLast?_eq_getElem?] at h
 unfold atI ixN
 rw [if_neg (by decide), if_pos (by omega), Option.bind_some, show ((-1 : Int) + (xs.length : Int)).toNat = xs.length - 1 by omega]
 exact h
section
variable {P : Program} {w : World} {K : Fg} {mg : Str -> Option Value} {base : Heap}
def ya (K : Fg) (CR CF : Addr) : Sp := fun vs H Q E => ∃ (r t b : Addr) (bs : Rol.Bytes) (p wd : Nat) (rs : List Addr) (xs : List Rol.Row), vs = [.ref r, .int wd, .ref b] /\ 1 <= wd /\ wd <= 128 /\ jE K CR H r t bs p /\ H b = some (.lst (rs.map V.ref)) /\ az H wd rs xs /\ xs.length <= 256 /\ (∀ x ∈ xs, x < 2 ^ wd) /\
 (∀ k, jG wd xs.length xs.getLast? p (bs.drop p) = .error k -> Flt CF r H E k) /\ ∀ z, jG wd xs.length xs.getLast? p (bs.drop p) = .ok z -> ∀ H' q rs', SB r H H' -> H q = none -> H' q = some (.lst (rs'.map V.ref)) -> (∀ c ∈ rs', H c = none) -> az H' wd rs' (List.replicate z.1 z.2.1) -> jE K CR H' r t bs z.2.2.1 -> Q (.ref q) H'
theorem yg : al ["reader", "width", "rows_before", "count", "tracks"] ["reader", "width", "rows_before"] (ae kS) := ⟨rfl, rfl, rfl, by decide +kernel, rfl, by decide +kernel, by decide +kernel⟩
theorem Az {f CR CF : Addr} {fd : FuncData} (F : Fun K "take_run" "take_run" kS f fd) (T : cx K mg CR) (B : TB mg) (N : TN mg) (TF : nH P w K mg base CF (cI CF))
  (M2 : bV P w K mg base (CX1 P w) CR "take" ["self", "byte"] 3 (jS K CR CF)) (M3 : bV P w K mg base (CX1 P w) CR "take_number" ["self", "lowest", "highest"] 3 (dq K CR CF)) (U : gS P w K mg base "take_tracks" ["reader", "width"] 4 (kE K CR CF)) :
  bc P w K mg base (CX1 P w) 5 f fd ["reader", "width", "rows_before"] (ya K CR CF) := by
 obtain ⟨f2, fd2, m2, b2, G2⟩ := M2.ex
 obtain ⟨f3, fd3, m3, b3, G3⟩ := M3.ex
 obtain ⟨f4, fd4, m4, k4, b4, G4⟩ := U.ex
 obtain ⟨NF, fF, fdF, xF, bF, GF⟩ := TF.ex
 obtain ⟨tr, er⟩ := N.rows
 obtain ⟨tl, el⟩ := N.lf
 refine F.okX yg (fun vs H Q E h => ?_) (fun cdv A outer s H vs Q E hr h => ?_)
 ·obtain ⟨_, _, _, _, _, _, _, _, rfl, _⟩ := h
  rfl
 ·obtain ⟨r, t, b, bs, p, wd, rs, xs, rfl, w1, w2, hR, hb, hX, hx, hlt, kN, kY⟩ := h
  have hr3 : bG 3 _ := hr.mono (by decide)
  have hr2 : bG 2 _ := hr.mono (by decide)
  obtain ⟨dx, h1⟩ := id hR.at_
  refine ⟨_, ad (aw (i := 3) yg.nd rfl (Or.inl rfl) (cU (pv 0) T.cl m3 G3 hr3 b3 .nil bC (aa ai (aa (aM dH (ax (v := .int 256) (by rfl) er ⟨_, rfl⟩) (ak aJ (by rfl) B.len Dd (aa (pv 2) ac))) ac))))
   (ad (aw (i := 4) yg.nd rfl (Or.inl rfl) (lh G4 hr (by rfl) m4 k4 b4 .nil bC (aa (pv 0) (aa (pv 1) ac))))
   (ad (bp (mj (aB jH (ak aJ (by rfl) B.len Dd (aa (pv 2) ac)) ai (aE _)) (iR (aB (Aw hr.units) (aL am (pv 2) (BF zJ ai) (fun _ _ => rfl)) (pv 4) (aE _)))).pt
    (af (kZ rfl rfl xF GF hr2 (by rfl) TF.mgC bF (aa (aI (pv 0) rfl) ac) ip)) aK)
   (ad (bv (cU (pv 0) T.cl m2 G2 hr3 b2 .nil bC (aa (ax (v := .int 10) (by rfl) el ⟨_, rfl⟩) ac)))
   (af (au (aM mB (aH (aa (pv 4) ac)) (pv 3))))))), ?_⟩
  have fl : ((rs.map V.ref).length : Int) = (xs.length : Int) := by rw [CP, hX.length]
  refine ⟨_, rfl, r, dx, _, rfl, h1, ig _ _ (by decide +kernel) (by decide +kernel), _, rfl, b, _, rfl, .inl (SqL.of hb), _, _, rfl, rfl, r, t, bs, p, 1, 256 - xs.length, ?_, by omega, hR, fun k ek => ?_, fun n en H1 sb1 hR1 => ?_⟩
  ·show [V.ref r, V.int 1, V.int (256 - ((rs.map V.ref).length : Int))] = [V.ref r, V.int 1, V.int ((256 - xs.length : Nat) : Int)]
   rw [fl, show ((256 - xs.length : Nat) : Int) = 256 - (xs.length : Int) by omega]
  ·refine kN k ?_
   unfold jG
   rw [ek]
  obtain ⟨n1, n2, n3, n4, n5⟩ := jZ (by omega) en
  have nbr : b ≠ r := hR.at_.ne hb
  refine ⟨_, rfl, _, rfl, r, t, bs, n.2.1, wd, rfl, w1, w2, hR1, fun k ek => ?_, fun y ey H2 a sb2 ha1 ha2 hR2 => ?_⟩
  ·refine (kN k ?_).mono sb1
   unfold jG
   rw [en]
   dsimp only
   rw [n3, ek]
  obtain ⟨y1, y2, y3, y4, y5⟩ := ku w1 w2 _ _ _ y n5 ey
  have ts : (y.1.map fun t : Nat => (t : Int)) = tk wd (aX y.1) := (zL y4 fun t ht => (y5 t ht).2).symm
  rw [ts] at ha2
  have sb12 := sb1.trans sb2
  have hb2 := sb12 _ _ nbr hb
  have hX2 := hX.sb sb12 hR.at_.no
  have run : jG wd xs.length xs.getLast? p (bs.drop p) = if bs[y.2.1]? = some 10 then (if xs.getLast? = some (aX y.1) then .error y.2.1 else .ok (n.1, aX y.1, y.2.1 + 1, bs.drop (y.2.1 + 1))) else .error y.2.1 := by
   unfold jG
   rw [en]
   dsimp only
   rw [n3, ey]
   dsimp only
   rw [y1, j3]
   by_cases c : bs[y.2.1]? = some 10
   ·rw [if_pos c, if_pos c]
   ·rw [if_neg c, if_neg c]
  obtain ⟨dx2, h2⟩ := id hR2.at_
  have rest : xs.getLast? ≠ some (aX y.1) -> B5 (zR (xp CR "take" (jS K CR CF) [] (fun _ => E) (lZ 0) (iD (tC (.int 10)) tNil))) (zO (tOp rRep (Bk (iD (lZ 4) tNil)) (lZ 3))) { nx := fun _ H' => Q .non H', rt := Q } [some (.ref r), some (.int wd), some (.ref b), some (.int n.1), some (.ref a)] H2 := fun ne => by
   refine ⟨_, rfl, r, dx2, _, rfl, h2, ig _ _ (by decide +kernel) (by decide +kernel), r, t, bs, y.2.1, 10, rfl, hR2, fun e H3 sb3 hR3 => ?_, fun e => ?_⟩
   ·have e' : bs[y.2.1]? = some 10 := (dN (n := 10) (by decide)).mp e
    rw [if_pos e', if_neg ne] at run
    have nar : a ≠ r := hR2.at_.ne ha2
    have ha3 := sb3 _ _ nar ha2
    refine ⟨_, rfl, (by show 1 <= sizeLine; decide), fun l hl => ?_⟩
    have s4 := aq.upd (o := .lst [.ref a]) hl
    refine ⟨_, rfl, l, _, _, rfl, rfl, upd_same, by omega, by omega, ?_, fun q hq => ?_⟩
    ·show 1 * ((n.1 : Int).toNat) <= sizeLine
     rw [sizeLine_eq, Int.toNat_natCast]
     omega
    have s5 := aq.upd (o := .lst (List.replicate (n.1 : Int).toNat [V.ref a]).flatten) hq
    have e1 : (List.replicate (n.1 : Int).toNat [V.ref a]).flatten = (List.replicate n.1 a).map V.ref := by
     rw [Int.toNat_natCast, List.map_replicate]
     generalize n.1 = m
     induction m with
     | zero => rfl
     | succ m ih =>
      rw [List.replicate_succ, List.flatten_cons, ih, List.replicate_succ]
      rfl
    have sb45 := ((sb12.trans sb3).trans (SB.of s4)).trans (SB.of s5)
    have fresh : ∀ {c : Addr}, H1 c = none -> H c = none := fun {c} z => by
     cases e : H c with
     | none => rfl
     | some o =>
      by_cases y : c = r
      ·subst y
       obtain ⟨d3, z3⟩ := hR1.at_
       rw [z] at z3
       cases z3
      ·rw [sb1 _ _ y e] at z
       cases z
    refine kY _ run _ q (List.replicate n.1 a) sb45 ?_ (by rw [upd_same, e1]) (fun c hc => ?_) (az.rep (s5 _ _ (s4 _ _ ha3)) n.1) ((hR3.same s4).same s5)
    cases z : H q with
    | none => rfl
    | some o =>
     by_cases c : q = r
     ·subst c
      obtain ⟨d3, z3⟩ := hR3.at_
      have := s4 _ _ z3
      rw [hq] at this
      cases this
     ·have := s4 _ _ (sb3 _ _ c (sb12 _ _ c z))
      rw [hq] at this
      cases this
    ·rw [(List.mem_replicate.mp hc).2]
     exact fresh ha1
   ·have e' : ¬ bs[y.2.1]? = some 10 := fun z => e ((dN (n := 10) (by decide)).mpr z)
    rw [if_neg e'] at run
    exact (kN _ run).mono sb12
  have flt : xs.getLast? = some (aX y.1) -> Flt CF r H2 E y.2.1 := fun e => by
   refine (kN _ ?_).mono sb12
   rw [run, if_pos e]
   split <;> rfl
  refine ⟨_, rfl, b, _, rfl, .inl (SqL.of hb2), _, _, rfl, rfl, _, rfl, ?_⟩
  refine eR (fun c => ?_) (fun c => ?_)
  ·have c' : 0 < xs.length := by
    have := Dc c
    omega
   obtain ⟨x, ex⟩ : ∃ x, xs.getLast? = some x := by
    cases z : xs.getLast? with
    | none =>
     rw [List.getLast?_eq_none_iff] at z
     rw [z] at c'
     cases c'
    | some x => exact ⟨x, rfl⟩
   obtain ⟨c0, ec, eh⟩ := hX2.at_ (i := xs.length - 1) (x := x) (by rw [<- List.getLast?_eq_getElem?]; exact ex)
   have el' : (rs.map V.ref).getLast? = some (.ref c0) := by
    rw [List.getLast?_eq_getElem?, CP, hX.length, C1, ec]
    rfl
   refine ⟨_, rfl, _, rfl, b, _, _, _, rfl, rfl, SqL.of hb2, xg el', _, rfl, c0, a, _, _, rfl, rfl, SqL.of eh, SqL.of ha2, _, rfl, ?_⟩
   have hxl := hlt x (List.mem_of_getLast? ex)
   have hsl := rM (w := wd) y4 fun t ht => (y5 t ht).2
   refine eR (fun c2 => ?_) (fun c2 => ?_)
   ·have c2' := Dc c2
    have e : x = aX y.1 := rK hxl hsl c2'
    exact ⟨_, rfl, r, CR, dx2, _, _, rfl, h2, T.cl, T.nP, rk _ _, (by show 1 <= 1000; decide), fun z hz => cA (flt (by rw [ex, e])) z hz⟩
   ·refine rest fun z => c2 (C0 ?_)
    rw [ex] at z
    rw [C8 z]
  ·have c' : ¬ (0 : Int) < ((rs.map V.ref).length : Int) := fun z => c (C0 z)
   refine rest fun z => ?_
   have : xs = [] := List.eq_nil_of_length_eq_zero (by omega)
   rw [this] at z
   cases z
end
end PH
end
section
namespace PM
open Rol
theorem sZ : ∀ {a b : Bytes} {i : Nat}, (∀ j, j < i -> b[j]? = a[j]?) -> i < a.length -> b[i]? ≠ a[i]? -> a.isPrefixOf b = false /\ mustBe a b = i
 | [], b, i, _, h, _ => by simp at h
 | x :: a, [], 0, _, _, _ => ⟨rfl, rfl⟩
 | x :: a, [], i + 1, h, _, _ => by
  have := h 0 (Nat.succ_pos i)
  simp at this
 | x :: a, y :: b, 0, _, _, h => by
  have ne : ¬ x = y := fun z => h (by rw [z]; rfl)
  refine ⟨?_, ?_⟩
  ·show (x == y && _) = false
   rw [beq_eq_false_iff_ne.mpr ne, Bool.false_and]
  ·unfold mustBe
   rw [List.zip_cons_cons, List.takeWhile_cons]
   have : (x == y) = false := beq_eq_false_iff_ne.mpr ne
   simp [this]
 | x :: a, y :: b, i + 1, h, hl, hn => by
  have e : y = x := by
   have := h 0 (Nat.succ_pos i)
   simpa using this
  subst e
  obtain ⟨h1, h2⟩ := sZ (a := a) (b := b) (i := i) (fun j hj => by simpa using h (j + 1) (Nat.succ_lt_succ hj)) (by simpa using hl) (by simpa using hn)
  refine ⟨?_, ?_⟩
  ·show (y == y && a.isPrefixOf b) = false
   rw [h1, Bool.and_false]
  ·unfold mustBe at h2 ⊢
   rw [List.zip_cons_cons, List.takeWhile_cons]
   simp [h2]
theorem xA : ∀ {a b : Bytes}, (∀ j, j < a.length -> b[j]? = a[j]?) -> a.isPrefixOf b = true
 | [], b, _ => by cases b <;> rfl
 | x :: a, [], h => by
  have := h 0 (by simp)
  simp at this
 | x :: a, y :: b, h => by
  have e : y = x := by
   have := h 0 (by simp)
   simpa using this
  subst e
  have := xA (a := a) (b := b) fun j hj => by simpa using h (j + 1) (by simpa using hj)
  show (y == y && a.isPrefixOf b) = true
  rw [this, beq_self_eq_true]
  rfl
theorem qh : HEAD.length = 6 := by decide +kernel
theorem sU {bs : Bytes} (h : HEAD.isPrefixOf bs = true) : readText bs = match numberIn 1 128 6 (bs.drop 6) with
  | .error k => .error k
  | .ok w => if bs[w.2.1]? = some 10 then (match linesIn w.1 (bs.length - (w.2.1 + 1) + 1) 0 none (w.2.1 + 1) (bs.drop (w.2.1 + 1)) with
    | .error k => .error k
    | .ok l => .ok (⟨w.1, bQ l⟩, l.length)) else .error w.2.1 := by
 unfold readText TRACKS
 rw [h, qh, if_neg (by decide)]
 cases n : numberIn 1 128 6 (bs.drop 6) with
 | error k => rfl
 | ok x =>
  obtain ⟨x1, x2, x3, x4, x5⟩ := jZ (by decide) n
  dsimp only
  rw [x3]
  by_cases c : bs[x.2.1]? = some 10
  ·rw [if_pos c, bO c, <- List.length_drop]
   rfl
  ·rw [if_neg c]
   split
   ·rename_i r z
    exfalso
    apply c
    have : (bs.drop x.2.1)[0]? = some 10 := by rw [z]; rfl
    rw [List.getElem?_drop] at this
    exact this
   ·rfl
theorem tm (l : List (Nat × Row)) (n : Nat) (x : Row) (y : Except Nat (List (Nat × Row))) : Aj (l ++ [(n, x)]) y = Aj l (match y with
  | .error k => .error k
  | .ok r => .ok ((n, x) :: r)) := by
 cases y with
 | error k => rfl
 | ok r =>
  show Except.ok _ = Except.ok _
  rw [Dr]
  rfl
theorem cQ (l : List (Nat × Row)) (n : Nat) (x : Row) : bQ (l ++ [(n, x)]) = bQ l ++ List.replicate n x := by
 unfold bQ
 rw [List.flatMap_append]
 simp
theorem wH (xs : List Row) {n : Nat} (x : Row) (h : 1 <= n) : (xs ++ List.replicate n x).getLast? = some x := by
 obtain ⟨m, rfl⟩ : ∃ m, n = m + 1 := ⟨n - 1, by omega⟩
 rw [List.getLast?_append, List.replicate_succ', List.getLast?_append]
 rfl
end PM
end
section
namespace PH
open PySem PySem.Spec PyProof.Rows L2 PM
theorem zc {x : Str} {g : TG} {tb : TS} {D : L2.Ends} {σ : L2.St} {H : Hp} (Pv : Nat -> L2.St -> Hp -> Prop) (h0 : Pv 0 σ H)
  (hs : ∀ i c σ H, x.cps[i]? = some c -> Pv i σ H -> g (.str ⟨#[c]⟩) σ H fun σ2 H2 => tb { D with nx := Pv (i + 1), ct := Pv (i + 1), bk := D.nx } σ2 H2) (hd : ∀ σ H, Pv x.cps.size σ H -> D.nx σ H) :
  ∃ W : Nat -> Nat -> L2.St -> Hp -> Prop, (∃ m, W 0 m σ H) /\ ∀ i m σ H, W i m σ H ->
   ((Its x).stop i H /\ D.nx σ H) ∨ ((Its x).go i H /\ ∃ N : L2.St -> Hp -> Prop, (∀ σ' H', N σ' H' -> ∃ m', m' < m /\ W (i + 1) m' σ' H') /\ ∀ y H', (Its x).yld i H y H' -> g y σ H' fun σ2 H2 => tb { D with nx := N, ct := N, bk := D.nx } σ2 H2) := by
 refine ⟨fun i m σ H => m = x.cps.size - i /\ i <= x.cps.size /\ Pv i σ H, ⟨x.cps.size, rfl, De _, h0⟩, fun i m σ H hW => ?_⟩
 obtain ⟨rfl, hi, p⟩ := hW
 rcases Nat.lt_or_ge i x.cps.size with lt | ge
 ·refine .inr ⟨lt, Pv (i + 1), fun σ' H' p' => ⟨x.cps.size - (i + 1), by omega, rfl, lt, p'⟩, fun v H' y => ?_⟩
  obtain ⟨rfl, c, ec, rfl⟩ := y
  exact hs i c σ H' ec p
 ·have e : i = x.cps.size := by omega
  subst e
  exact .inl ⟨C7 _, hd σ H p⟩
structure vq (P : Program) (w : World) (K : Fg) (mg : Str -> Option Value) (base : Heap) (C : Addr) : Prop where
 t : cx K mg C
 ex : ∃ (f : Addr) (fd : FuncData), Mk K C f /\ ci K fd ["self", "text"] [] /\ bc P w K mg base CX0 1 f fd ["self", "text"] (md C)
section
variable {P : Program} {w : World} {K : Fg} {mg : Str -> Option Value} {base : Heap}
def nV (K : Fg) (C CF : Addr) : Sp := fun vs H Q E => ∃ (t : Addr) (bs : Rol.Bytes), vs = [.ref t] /\ H t = some (.lst (iV (bI bs))) /\ (∀ k, Rol.readText bs = .error k -> ∀ H' dx, aq H H' -> H' dx = some (.xd [(("place" : Str), .int k)]) -> E (.ref CF) (some dx) H') /\
 ∀ z, Rol.readText bs = .ok z -> ∀ H' a, aq H H' -> nI C H H' a z.1 -> Q (.ref a) H'
theorem gG : al ["text", "reader", "sign", "width", "rows"] ["text"] (ae du) := ⟨rfl, rfl, rfl, by decide +kernel, rfl, by decide +kernel, by decide +kernel⟩
theorem wj {f C CR CF : Addr} {fd : FuncData} (F : Fun K "strip_of_text" "strip_of_text" du f fd) (MS : jC P w K mg base C) (MR : vq P w K mg base CR) (N : TN mg) (B2 : TT2 mg)
  (M1 : bV P w K mg base CX0 CR "at_end" ["self"] 1 (kH K CR)) (M2 : bV P w K mg base (CX1 P w) CR "take" ["self", "byte"] 3 (jS K CR CF)) (M3 : bV P w K mg base (CX1 P w) CR "take_number" ["self", "lowest", "highest"] 3 (dq K CR CF))
  (U : gS P w K mg base "take_run" ["reader", "width", "rows_before"] 5 (ya K CR CF)) : bc P w K mg base (CX1 P w) 6 f fd ["text"] (nV K C CF) := by
 obtain ⟨fS, fdS, mS, bS, GS⟩ := MS.ex
 obtain ⟨fR, fdR, mR, bR, GR⟩ := MR.ex
 obtain ⟨f1, fd1, m1, b1, G1⟩ := M1.ex
 obtain ⟨f2, fd2, m2, b2, G2⟩ := M2.ex
 obtain ⟨f3, fd3, m3, b3, G3⟩ := M3.ex
 obtain ⟨f4, fd4, m4, k4, b4, G4⟩ := U.ex
 obtain ⟨tw, ew⟩ := N.width
 obtain ⟨tl, el⟩ := N.lf
 obtain ⟨tH, eH⟩ := B2.head
 have T := MR.t
 refine F.okX gG (fun vs H Q E h => ?_) (fun cdv A outer s H vs Q E hr h => ?_)
 ·obtain ⟨_, _, rfl, _⟩ := h
  rfl
 ·obtain ⟨t, bs, rfl, hs, kN, kY⟩ := h
  have hr1 : bG 1 _ := hr.mono (by decide)
  have hr2 : bG 2 _ := hr.mono (by decide)
  have hr3 : bG 3 _ := hr.mono (by decide)
  refine ⟨_, ad (aw (i := 1) gG.nd rfl (Or.inl rfl) (fk mR GR hr2 rfl T.mgC bR .nil aC (aa (pv 0) ac)))
   (ad (ca tK rfl (xB (ax (v := .str "strip ") (by rfl) eH ⟨_, rfl⟩)) (aG (i := 2) gG.nd rfl (Or.inl rfl))
    (af (bv (cU (pv 1) T.cl m2 G2 hr3 b2 .nil bC (aa (ak qr (by rfl) B2.ord xN (aa (pv 2) ac)) ac)))))
   (ad (aw (i := 3) gG.nd rfl (Or.inl rfl) (cU (pv 1) T.cl m3 G3 hr3 b3 .nil bC (aa ai (aa (ax (v := .int 128) (by rfl) ew ⟨_, rfl⟩) ac))))
   (ad (bv (cU (pv 1) T.cl m2 G2 hr3 b2 .nil bC (aa (ax (v := .int 10) (by rfl) el ⟨_, rfl⟩) ac)))
   (ad (aw (i := 4) gG.nd rfl (Or.inl rfl) (aH ac))
   (ad (iw tK (g8 (iT (la (pv 1) T.cl m1 G1 hr1 b1 .nil aC)))
    (af (aw (i := 4) gG.nd rfl (Or.inl rfl) (aM jd (pv 4) (lh G4 hr (by rfl) m4 k4 b4 .nil bC (aa (pv 1) (aa (pv 3) (aa (pv 4) ac))))))))
   (af (au (fk mS GS hr2 rfl MS.t.mgC bS .nil aC (aa (pv 3) (aa (pv 4) ac)))))))))), ?_⟩
  refine ⟨_, rfl, fun rd dx nrd ndx nex => ?_⟩
  refine ⟨rd, dx, t, rfl, upd_same, fun H1 hRd keep => ⟨rfl, ?_⟩⟩
  have s1 : aq H H1 := aq.made nrd ndx keep
  have ntr : t ≠ rd := ah hs nrd
  have hR0 : jE K CR H1 rd t bs 0 := ⟨hRd, SqL.of (s1 _ _ hs), ntr, De _⟩
  have flt : ∀ {H2 : Hp} {k : Nat}, aq H H2 -> Rol.readText bs = .error k -> Flt CF rd H2 E k := fun {H2 k} s2 e H3 d3 s3 z => kN k e H3 d3 (SB.same s2 nrd s3) z
  have hc : ∀ {i c : Nat}, (Str.ofString "strip ").cps[i]? = some c -> ∃ d : UInt8, Rol.HEAD[i]? = some d /\ d.toNat = c := fun {i c} e => by
   have e1 : TL.tl (Str.ofString "strip ") = tn Rol.HEAD := by rw [j6]; decide +kernel
   have e2 : (tn Rol.HEAD)[i]? = some c := by
    rw [<- e1]
    simpa using e
   unfold tn at e2
   rw [C1] at e2
   obtain ⟨d, z1, z2⟩ := Option.map_eq_some_iff.mp e2
   exact ⟨d, z1, z2⟩
  have sz : (Str.ofString "strip ").cps.size = 6 := by decide +kernel
  refine ⟨_, rfl, zc (x := "strip ") (fun i σ H' => ∃ v2 : Option V, σ = [some (.ref t), some (.ref rd), v2, none, none] /\ aq H H' /\ jE K CR H' rd t bs i /\ ∀ j, j < i -> bs[j]? = Rol.HEAD[j]?) ⟨none, rfl, s1, hR0, fun j hj => absurd hj (Nat.not_lt_zero j)⟩ ?_ ?_⟩
  ·rintro i c σ H' hci ⟨v2, rfl, q1, q2, q3⟩
   obtain ⟨d, hd, hdc⟩ := hc hci
   have hi : i < Rol.HEAD.length := (CY.mp hd).1
   obtain ⟨dx2, h2⟩ := id q2.at_
   have c256 : c < 256 := by rw [<- hdc]; exact d.toNat_lt
   have dc : UInt8.ofNat c = d := UInt8.toNat_inj.mp (by rw [UInt8.toNat_ofNat', <- hdc]; have := d.toNat_lt; omega)
   refine ⟨_, rfl, rd, dx2, _, rfl, h2, ig _ _ (by decide +kernel) (by decide +kernel), _, rfl, _, rfl, rfl, rd, t, bs, i, (c : Int), rfl, q2, fun e H2 sb hR2 => ?_, fun e => ?_⟩
   ·have e' := (dN c256).mp e
    refine ⟨_, rfl, SB.same q1 nrd sb, hR2, fun j hj => ?_⟩
    by_cases z : j = i
    ·rw [z, e', hd, dc]
    ·exact q3 j (by omega)
   ·have e' : bs[i]? ≠ Rol.HEAD[i]? := fun z => e ((dN c256).mpr (by rw [z, hd, dc]))
    obtain ⟨z1, z2⟩ := sZ q3 hi e'
    refine flt q1 ?_
    unfold Rol.readText
    rw [if_pos z1, z2]
  rintro σ H2 ⟨v2, rfl, q1, q2, q3⟩
  rw [sz] at q2 q3
  have pre := xA (a := Rol.HEAD) (b := bs) fun j hj => q3 j (by rw [qh] at hj; exact hj)
  have rh := sU pre
  obtain ⟨dx2, h2⟩ := id q2.at_
  refine ⟨_, rfl, rd, dx2, _, rfl, h2, ig _ _ (by decide +kernel) (by decide +kernel), rd, t, bs, 6, 1, 128, rfl, by decide, q2, fun k ek => ?_, fun x ex H3 sb3 hR3 => ?_⟩
  ·rw [ek] at rh
   exact flt q1 rh
  obtain ⟨x1, x2, x3, x4, x5⟩ := jZ (by decide) ex
  rw [ex] at rh
  dsimp only at rh
  have s3 := SB.same q1 nrd sb3
  obtain ⟨dx3, h3⟩ := id hR3.at_
  refine ⟨_, rfl, rd, dx3, _, rfl, h3, ig _ _ (by decide +kernel) (by decide +kernel), rd, t, bs, x.2.1, 10, rfl, hR3, fun e H4 sb4 hR4 => ?_, fun e => ?_⟩
  ·have e' : bs[x.2.1]? = some 10 := (dN (n := 10) (by decide)).mp e
   rw [if_pos e'] at rh
   have s4 := SB.same s3 nrd sb4
   have lt := (CY.mp e').1
   refine ⟨De _, fun b hb => ?_⟩
   have s5 := aq.upd (o := .lst []) hb
   refine fJ (fun σ H' => ∃ (b : Addr) (rs : List Addr) (l : List (Nat × Rol.Row)) (f q : Nat), σ = [some (.ref t), some (.ref rd), v2, some (.int x.1), some (.ref b)] /\ aq H H' /\ H' b = some (.lst (rs.map V.ref)) /\ H b = none /\ (∀ c ∈ rs, H c = none) /\ az H' x.1 rs (bQ l) /\ (bQ l).length <= 256 /\ (∀ y ∈ bQ l, y < 2 ^ x.1) /\ jE K CR H' rd t bs q /\ bs.length + 1 <= f + q /\
     Rol.linesIn x.1 (bs.length - (x.2.1 + 1) + 1) 0 none (x.2.1 + 1) (bs.drop (x.2.1 + 1)) = Aj l (Rol.linesIn x.1 f (bQ l).length (bQ l).getLast? q (bs.drop q))) (fun _ H' => xl bs rd H')
    ⟨b, [], [], bs.length - (x.2.1 + 1) + 1, x.2.1 + 1, rfl, s4.trans s5, upd_same, s4.free hb, (fun c hc => by cases hc), trivial, De _, (fun y hy => by cases hy), hR4.same s5, (by omega), by rw [v0]; rfl⟩ ?_
   rintro σ H5 ⟨b, rs, l, f, q, rfl, y1, y2, yb, yr, y3, y4, y5, y6, y7, y8⟩
   obtain ⟨dx5, h5⟩ := id y6.at_
   have hle := y6.le
   obtain ⟨f, rfl⟩ : ∃ g, f = g + 1 := ⟨f - 1, by omega⟩
   refine ⟨_, rfl, rd, dx5, _, rfl, h5, ig _ _ (by decide +kernel) (by decide +kernel), rd, t, bs, q, rfl, y6.at_, y6.txt, _, rfl, ?_⟩
   by_cases c : q = bs.length
   ·rw [C0 c]
    rw [ur (p := q) (Nat.le_of_eq c.symm)] at y8
    have y8' : Rol.linesIn x.1 (bs.length - (x.2.1 + 1) + 1) 0 none (x.2.1 + 1) (bs.drop (x.2.1 + 1)) = .ok l := by
     rw [y8]
     show Except.ok (l ++ []) = _
     rw [Dq]
    rw [y8'] at rh
    refine ⟨_, rfl, _, rfl, ?_⟩
    intro a da na nda nea
    refine ⟨a, da, b, x.1, rfl, upd_same, fun H6 e6 k6 => ⟨rfl, ?_⟩⟩
    have s6 : aq H5 H6 := aq.made na nda k6
    refine kY _ rh H6 a (y1.trans s6) (mD (qD x1 x2 y4 y5) e6 (s6 _ _ y2) (y3.same s6) (y1.free na) yb yr)
   ·rw [C6 c]
    have qlt : q < bs.length := by omega
    rw [uq x1 x2 qlt y4] at y8
    refine ⟨fun σ' H'' => (∃ (b : Addr) (rs : List Addr) (l : List (Nat × Rol.Row)) (f q : Nat), σ' = [some (.ref t), some (.ref rd), v2, some (.int x.1), some (.ref b)] /\ aq H H'' /\ H'' b = some (.lst (rs.map V.ref)) /\ H b = none /\ (∀ c ∈ rs, H c = none) /\ az H'' x.1 rs (bQ l) /\ (bQ l).length <= 256 /\ (∀ y ∈ bQ l, y < 2 ^ x.1) /\ jE K CR H'' rd t bs q /\ bs.length + 1 <= f + q /\
      Rol.linesIn x.1 (bs.length - (x.2.1 + 1) + 1) 0 none (x.2.1 + 1) (bs.drop (x.2.1 + 1)) = Aj l (Rol.linesIn x.1 f (bQ l).length (bQ l).getLast? q (bs.drop q))) /\ xl bs rd H'' < xl bs rd H5, fun σ' H'' hN => ⟨_, hN.2, rfl, hN.1⟩, ?_⟩
    refine ⟨_, rfl, _, rfl, _, rfl, _, rfl, rd, t, b, bs, q, x.1, rs, bQ l, rfl, x1, x2, y6, y2, y3, y4, y5, fun k ek => ?_, fun z ez H6 u rs' sb6 hu hu6 hf6 hX6 hR6 => ?_⟩
    ·rw [ek] at y8
     rw [y8] at rh
     exact flt y1 rh
    ·obtain ⟨z1, z2, z3, z4, z5, z6⟩ := sP x1 x2 hle ez
     have nbr : b ≠ rd := y6.at_.ne y2
     have b6 := sb6 _ _ nbr y2
     have X6 := y3.sb sb6 y6.at_.no
     have l1 := X6.length
     have l2 := hX6.length
     rw [List.length_replicate] at l2
     refine ⟨b, u, _, _, rfl, rfl, b6, hu6, by rw [CP, CP, sizeLine_eq]; omega, fun v hv => ?_⟩
     have s7 := aq.upd (o := .lst (rs.map V.ref ++ rs'.map V.ref)) hv
     have len : (bQ (l ++ [(z.1, z.2.1)])).length = (bQ l).length + z.1 := by rw [cQ, CV, List.length_replicate]
     refine ⟨⟨v, rs ++ rs', l ++ [(z.1, z.2.1)], f, z.2.2.1, rfl, (SB.same y1 nrd sb6).trans s7, by rw [upd_same, Dj], (SB.same y1 nrd sb6).free hv, fun c hc => (Dh.mp hc).elim (yr c) fun z => y1.free (hf6 c z), ?_, by rw [len]; omega, fun y hy => ?_, hR6.same s7, by omega, ?_⟩, ?_⟩
     ·rw [cQ]
      exact (X6.append hX6).same s7
     ·rw [cQ] at hy
      rcases Dh.mp hy with h | h
      ·exact y5 y h
      ·rw [(List.mem_replicate.mp h).2]
       exact z3
     ·rw [y8, ez]
      dsimp only
      rw [tm, len, cQ, wH _ _ z1, z4]
      all_goals rfl
     ·rw [kq (hR6.same s7).at_, kq y6.at_]
      omega
  ·have e' : ¬ bs[x.2.1]? = some 10 := fun z => e ((dN (n := 10) (by decide)).mpr z)
   rw [if_neg e'] at rh
   exact flt s3 rh
end
end PH
end
section
namespace PM
open Rol
theorem sR (p : Nat -> Bool) : ∀ l : List Nat, (l.map fun t => if p t = true then 2 ^ t else 0).foldl (fun a b => a + b) 0 = aX (l.filter p)
 | [] => rfl
 | t :: r => by
  rw [List.map_cons, List.foldl_cons, gk, sR p r, List.filter_cons]
  by_cases c : p t = true
  ·rw [if_pos c, if_pos c]
   show 0 + 2 ^ t + aX (r.filter p) = 2 ^ t + aX (r.filter p)
   rw [Nat.zero_add]
  ·rw [if_neg c, if_neg c]
   simp
theorem pK (w : Nat) (p : Nat -> Bool) : rowOf w p = aX ((List.range w).filter p) := sR p _
theorem jW (w : Nat) (p : Nat -> Bool) : ((List.range w).filter p).Pairwise (· < ·) := List.pairwise_lt_range.sublist List.filter_sublist
theorem fX (w : Nat) (p : Nat -> Bool) (t : Nat) : Nat.testBit (rowOf w p) t = (decide (t < w) && p t) := by
 rw [pK, iE (jW w p)]
 cases e : p t <;> simp [e]
theorem pJ (w : Nat) (p : Nat -> Bool) : rowOf w p < 2 ^ w := by
 rw [pK]
 exact rM (jW w p) fun t ht => List.mem_range.mp (List.mem_filter.mp ht).1
theorem qH {w : Nat} {x : Row} {z : Int} : z ∈ tk w (turned w x) ↔ ((w : Int) - 1 - z) ∈ tk w x := by
 rw [eQ, eQ]
 unfold turned Row.hole
 constructor
 ·rintro ⟨t, rfl, lt, h⟩
  rw [fX, C4] at h
  exact ⟨w - 1 - t, by omega, by omega, h.2⟩
 ·rintro ⟨u, e, lt, h⟩
  refine ⟨w - 1 - u, by omega, by omega, ?_⟩
  rw [fX, C4, C9]
  refine ⟨by omega, ?_⟩
  rw [show w - 1 - (w - 1 - u) = u by omega]
  exact h
theorem um {w : Nat} {b : Int} {x : Row} {z : Int} : z ∈ tk w (moved w b x) ↔ (0 <= z /\ z < w /\ (z - b) ∈ tk w x) := by
 rw [eQ, eQ]
 unfold moved Row.hole
 constructor
 ·rintro ⟨t, rfl, lt, h⟩
  rw [fX] at h
  simp only [C4, C9] at h
  obtain ⟨_, h1, h2, h3⟩ := h
  exact ⟨by omega, by omega, ((t : Int) - b).toNat, by omega, by omega, h3⟩
 ·rintro ⟨z0, zw, u, e, lt, h⟩
  obtain ⟨t, rfl⟩ := Int.eq_ofNat_of_zero_le z0
  refine ⟨t, rfl, by omega, ?_⟩
  rw [fX]
  simp only [C4, C9]
  exact ⟨by omega, by omega, by omega, by rw [show ((t : Int) - b).toNat = u by omega]; exact h⟩
theorem vf {x t : Nat} (h : Nat.testBit x t = false) : x + 2 ^ t = x ||| 2 ^ t := by
 have hm : x % 2 ^ (t + 1) = x % 2 ^ t := by
  apply Nat.eq_of_testBit_eq
  intro i
  rw [Nat.testBit_mod_two_pow, Nat.testBit_mod_two_pow]
  by_cases c : i = t
  ·subst c
   rw [h]
   simp
  ·have : decide (i < t + 1) = decide (i < t) := decide_eq_decide.mpr (by omega)
   rw [this]
 have lt : x % 2 ^ t < 2 ^ t := Nat.mod_lt _ (Nat.two_pow_pos t)
 have split : x = 2 ^ (t + 1) * (x / 2 ^ (t + 1)) + x % 2 ^ t := by
  have := Nat.div_add_mod x (2 ^ (t + 1))
  rw [hm] at this
  exact this.symm
 have low : x % 2 ^ t + 2 ^ t = 2 ^ t ||| x % 2 ^ t := by
  rw [Nat.add_comm]
  have := Nat.two_pow_add_eq_or_of_lt lt 1
  rw [Nat.mul_one] at this
  exact this
 have lt2 : 2 ^ t + x % 2 ^ t < 2 ^ (t + 1) := by
  rw [Nat.pow_succ]
  omega
 have lt3 : x % 2 ^ t < 2 ^ (t + 1) := by omega
 generalize hA : x / 2 ^ (t + 1) = A at split
 generalize hr : x % 2 ^ t = r at *
 have e1 : x = 2 ^ (t + 1) * A ||| r := by rw [<- Nat.two_pow_add_eq_or_of_lt lt3]; exact split
 have e2 : x + 2 ^ t = 2 ^ (t + 1) * A ||| (2 ^ t + r) := by
  rw [<- Nat.two_pow_add_eq_or_of_lt lt2]
  omega
 rw [e2, Nat.add_comm (2 ^ t) r, low, e1, Nat.or_assoc, Nat.or_comm (2 ^ t) r]
end PM
end
section
namespace PH
open PySem PySem.Spec PyProof.Rows L2 PM
def eK (C : Addr) (H : Hp) : List Addr -> List Rol.Strip -> Prop
 | [], [] => True
 | a :: as, s :: ss => aY C H a s /\ eK C H as ss
 | _, _ => False
theorem eK.same {C : Addr} {H H' : Hp} (k : aq H H') : ∀ {as : List Addr} {ss : List Rol.Strip}, eK C H as ss -> eK C H' as ss
 | [], [], _ => trivial
 | a :: as, s :: ss, h => ⟨h.1.same k, eK.same k h.2⟩
 | [], _ :: _, h => h.elim
 | _ :: _, [], h => h.elim
theorem eK.length {C : Addr} {H : Hp} : ∀ {as : List Addr} {ss : List Rol.Strip}, eK C H as ss -> as.length = ss.length
 | [], [], _ => rfl
 | a :: as, s :: ss, h => by rw [CU, CU, h.2.length]
 | [], _ :: _, h => h.elim
 | _ :: _, [], h => h.elim
theorem eK.at_ {C : Addr} {H : Hp} : ∀ {as : List Addr} {ss : List Rol.Strip} {i : Nat} {s : Rol.Strip}, eK C H as ss -> ss[i]? = some s -> ∃ a, as[i]? = some a /\ aY C H a s
 | [], [], i, s, _, e => by simp at e
 | a :: as, u :: ss, 0, s, h, e => by
  have : u = s := by simpa using e
  subst this
  exact ⟨a, rfl, h.1⟩
 | a :: as, u :: ss, i + 1, s, h, e => by
  obtain ⟨q, e1, e2⟩ := eK.at_ h.2 (i := i) (s := s) (by simpa using e)
  exact ⟨q, by simpa using e1, e2⟩
 | [], _ :: _, _, _, h, _ => h.elim
 | _ :: _, [], _, _, h, _ => h.elim
theorem eK.snoc {C : Addr} {H : Hp} {a : Addr} {s : Rol.Strip} (h1 : aY C H a s) : ∀ {as : List Addr} {ss : List Rol.Strip}, eK C H as ss -> eK C H (as ++ [a]) (ss ++ [s])
 | [], [], _ => ⟨h1, trivial⟩
 | _ :: _, _ :: _, h => ⟨h.1, eK.snoc h1 h.2⟩
 | [], _ :: _, h => h.elim
 | _ :: _, [], h => h.elim
structure TM (mg : Str -> Option Value) : Prop where
 strips : ∃ t, mg "MOST_STRIPS" = some (.int 32 t)
 bytes : ∃ t, mg "MOST_BYTES" = some (.int 65536 t)
 slots : ∃ t, mg "MOST_SLOTS" = some (.int 1024 t)
 out : ∃ t, mg "OUT_OF_RANGE" = some (.int (-1) t)
 long : ∃ t, mg "TOO_LONG" = some (.int (-2) t)
 stand : ∃ t, mg "DOES_NOT_FIT" = some (.int (-3) t)
 there : ∃ t, mg "NOT_THERE" = some (.int (-4) t)
 fault : ∃ t, mg "FAULTY" = some (.int (-6) t)
 room : ∃ t, mg "NO_ROOM" = some (.int (-10) t)
structure cg (P : Program) (w : World) (K : Fg) (mg : Str -> Option Value) (base : Heap) (x : Str) (ps : List Str) (k : Nat) (sp : Sp) : Prop where
 ex : ∃ (f : Addr) (fd : FuncData), mg x = some (.ref f) /\ PySem.W.keepIn K (.ref f) = true /\ ci K fd ps [] /\ rj P w K mg base CX0 k f fd ps sp
section
variable {P : Program} {w : World} {K : Fg} {mg : Str -> Option Value} {base : Heap}
def spAns : Sp := fun vs H Q _ => ∃ (z : Int) (a b : Addr) (ns ts : List Int), vs = [.int z, .ref a, .ref b] /\ H a = some (.lst (iV ns)) /\ H b = some (.lst (iV ts)) /\ ns.length + ts.length + 3 <= sizeLine /\ ∀ (H' : Hp) (q : Addr), aq H H' -> H q = none -> H' q = some (.lst (iV (NLines.flat z ns ts))) -> Q (.ref q) H'
theorem Bz : al ["number", "numbers", "text"] ["number", "numbers", "text"] (ae ox) := ⟨rfl, rfl, rfl, by decide +kernel, rfl, by decide +kernel, by decide +kernel⟩
theorem AB {f : Addr} {fd : FuncData} (F : Fun K "answer" "answer" ox f fd) (B : TB mg) : rj P w K mg base CX0 1 f fd ["number", "numbers", "text"] spAns := by
 refine F.okH Bz (fun vs H Q E h => ?_) (fun cdv A outer s H vs Q E hr h => ?_)
 ·obtain ⟨_, _, _, _, _, rfl, _⟩ := h
  rfl
 ·obtain ⟨z, a, b, ns, ts, rfl, ha, hb, hz, k⟩ := h
  refine ⟨_, ad (bp (mj (aB gd (ak aJ (by rfl) B.len Dd (aa (pv 1) ac)) ai (aE _)) (iR (aB gd (ak aJ (by rfl) B.len Dd (aa (pv 2) ac)) ai (aE _)))).pt (af (au (aH (aa (pv 0) ac)))) aK)
   (af (au (aM jd (aM jd (aM jd (aH (aa (pv 0) (aa (ak aJ (by rfl) B.len Dd (aa (pv 1) ac)) ac))) (pv 1)) (aH (aa (ak aJ (by rfl) B.len Dd (aa (pv 2) ac)) ac))) (pv 2)))), ?_⟩
  have l1 : (iV ns).length = ns.length := by unfold iV; rw [CP]
  have l2 : (iV ts).length = ts.length := by unfold iV; rw [CP]
  have long : ¬ (ns = [] /\ ts = []) -> zO (tOp rCat (tOp rCat (tOp rCat (Bk (iD (lZ 0) (iD (tCB (Af K) (iD (lZ 1) tNil)) tNil))) (lZ 1)) (Bk (iD (tCB (Af K) (iD (lZ 2) tNil)) tNil))) (lZ 2)) { nx := fun _ H' => Q .non H', rt := Q } [some (.int z), some (.ref a), some (.ref b)] H := fun ne => by
   refine ⟨_, rfl, _, rfl, a, _, rfl, .inl (SqL.of ha), (by show 2 <= sizeLine; decide), fun p1 h1 => ?_⟩
   have s1 := aq.upd (o := .lst [.int z, .int ((iV ns).length : Int)]) h1
   refine ⟨_, rfl, p1, a, _, _, rfl, rfl, upd_same, s1 _ _ ha, by rw [l1]; show 2 + _ <= _; omega, fun p2 h2 => ?_⟩
   have s2 := aq.upd (o := .lst ([.int z, .int ((iV ns).length : Int)] ++ iV ns)) h2
   refine ⟨_, rfl, b, _, rfl, .inl (SqL.of (s2 _ _ (s1 _ _ hb))), (by show 1 <= sizeLine; decide), fun p3 h3 => ?_⟩
   have s3 := aq.upd (o := .lst [.int ((iV ts).length : Int)]) h3
   refine ⟨p2, p3, _, _, rfl, rfl, s3 _ _ upd_same, upd_same, by rw [CV, l1]; show 2 + _ + 1 <= _; omega, fun p4 h4 => ?_⟩
   have s4 := aq.upd (o := .lst ([.int z, .int ((iV ns).length : Int)] ++ iV ns ++ [.int ((iV ts).length : Int)])) h4
   refine ⟨_, rfl, p4, b, _, _, rfl, rfl, upd_same, s4 _ _ (s3 _ _ (s2 _ _ (s1 _ _ hb))), by rw [CV, CV, l1, l2]; show 2 + _ + 1 + _ <= _; omega, fun q hq => ?_⟩
   have s14 := ((s1.trans s2).trans s3).trans s4
   refine k _ q (s14.trans (aq.upd hq)) (s14.free hq) ?_
   rw [upd_same]
   unfold NLines.flat
   rw [if_neg ne, l1, l2]
   unfold iV
   simp [Dj]
  refine ⟨_, rfl, a, _, rfl, .inl (SqL.of ha), rfl, _, rfl, ?_⟩
  refine eR (fun c => ?_) (fun c => ?_)
  ·have c' : ns.length = 0 := by
    have := V.int.inj (Dc c)
    omega
   refine ⟨_, rfl, b, _, rfl, .inl (SqL.of hb), rfl, _, rfl, ?_⟩
   refine eR (fun c2 => ?_) (fun c2 => ?_)
   ·have c2' : ts.length = 0 := by
     have := V.int.inj (Dc c2)
     omega
    refine ⟨_, rfl, (by show 1 <= sizeLine; decide), fun q hq => ?_⟩
    refine k _ q (aq.upd hq) hq ?_
    rw [upd_same]
    unfold NLines.flat
    rw [if_pos ⟨List.eq_nil_of_length_eq_zero c', List.eq_nil_of_length_eq_zero c2'⟩]
    rfl
   ·exact long fun q => c2 (C0 (congrArg V.int (by rw [l2, q.2]; rfl)))
  ·exact long fun q => c (C0 (congrArg V.int (by rw [l1, q.1]; rfl)))
def spAlone : Sp := fun vs H Q _ => ∃ (z : Int), vs = [.int z] /\ ∀ (H' : Hp) (q : Addr), aq H H' -> H q = none -> H' q = some (.lst (iV [z])) -> Q (.ref q) H'
theorem yk : al ["number"] ["number"] (ae dw) := ⟨rfl, rfl, rfl, by decide +kernel, rfl, by decide +kernel, by decide +kernel⟩
theorem ww {f : Addr} {fd : FuncData} (F : Fun K "number_alone" "number_alone" dw f fd) (U : cg P w K mg base "answer" ["number", "numbers", "text"] 1 spAns) : bc P w K mg base CX0 2 f fd ["number"] spAlone := by
 obtain ⟨fU, fdU, mU, kU, bU, GU⟩ := U.ex
 refine F.ok yk (fun vs H Q E h => ?_) (fun cdv A outer s H vs Q E hr h => ?_)
 ·obtain ⟨_, rfl, _⟩ := h
  rfl
 ·obtain ⟨z, rfl, k⟩ := h
  refine ⟨_, af (au (aj GU.ok hr rfl mU kU bU .nil aC (aa (pv 0) (aa (aH ac) (aa (aH ac) ac))))), ?_⟩
  refine ⟨_, rfl, De _, fun p1 h1 => ⟨De _, fun p2 h2 => ?_⟩⟩
  have s1 := aq.upd (o := .lst []) h1
  have s2 := aq.upd (o := .lst []) h2
  exact ⟨z, p1, p2, [], [], rfl, s2 _ _ upd_same, upd_same, by decide, fun H' q s3 hq e => k H' q ((s1.trans s2).trans s3) ((s1.trans s2).free hq) e⟩
def spCounted : Sp := fun vs H Q _ => ∃ (a : Addr) (ts : List Int), vs = [.ref a] /\ H a = some (.lst (iV ts)) /\ ts.length + 3 <= sizeLine /\ ∀ (H' : Hp) (q : Addr), aq H H' -> H q = none -> H' q = some (.lst (iV (NLines.flat (ts.length : Int) [] ts))) -> Q (.ref q) H'
theorem sK : al ["text"] ["text"] (ae dA) := ⟨rfl, rfl, rfl, by decide +kernel, rfl, by decide +kernel, by decide +kernel⟩
theorem qE {f : Addr} {fd : FuncData} (F : Fun K "counted_text" "counted_text" dA f fd) (B : TB mg) (U : cg P w K mg base "answer" ["number", "numbers", "text"] 1 spAns) : bc P w K mg base CX0 2 f fd ["text"] spCounted := by
 obtain ⟨fU, fdU, mU, kU, bU, GU⟩ := U.ex
 refine F.ok sK (fun vs H Q E h => ?_) (fun cdv A outer s H vs Q E hr h => ?_)
 ·obtain ⟨_, _, rfl, _⟩ := h
  rfl
 ·obtain ⟨a, ts, rfl, ha, hz, k⟩ := h
  refine ⟨_, af (au (aj GU.ok hr (by rfl) mU kU bU .nil aC (aa (ak aJ (by rfl) B.len Dd (aa (pv 0) ac)) (aa (aH ac) (aa (pv 0) ac))))), ?_⟩
  refine ⟨_, rfl, a, _, rfl, .inl (SqL.of ha), De _, fun p1 h1 => ?_⟩
  have s1 := aq.upd (o := .lst []) h1
  have l1 : (iV ts).length = ts.length := by unfold iV; rw [CP]
  refine ⟨_, rfl, (ts.length : Int), p1, a, [], ts, ?_, upd_same, s1 _ _ ha, by show 0 + _ + 3 <= _; omega, fun H' q s3 hq e => k H' q (s1.trans s3) (s1.free hq) e⟩
  rw [l1]
  rfl
end
end PH
end
section
namespace PH
open PySem PySem.Spec PyProof.Rows L2 PM
def cC (C : Addr) (H : Hp) (l : Addr) (S : List Rol.Strip) : Prop := S.length <= 32 /\ ∃ as : List Addr, H l = some (.lst (as.map V.ref)) /\ eK C (drp H l) as S
theorem cZ {l : Addr} {H H' : Hp} (s : SB l H H') : aq (drp H l) (drp H' l) := fun c o e => by
 by_cases z : c = l
 ·rw [z, eF] at e
  cases e
 ·rw [bo z] at e ⊢
  exact s c o z e
theorem cC.same {C l : Addr} {H H' : Hp} {S : List Rol.Strip} (h : cC C H l S) (s : aq H H') : cC C H' l S := by
 obtain ⟨h0, as, h1, h2⟩ := h
 exact ⟨h0, as, s _ _ h1, h2.same (cZ (SB.of s))⟩
theorem cC.is {C l : Addr} {H : Hp} {S : List Rol.Strip} (h : cC C H l S) : H l ≠ none := by
 obtain ⟨_, as, h1, _⟩ := h
 rw [h1]
 exact fun z => by cases z
def dL (x : Rol.Ans) : List Int := NLines.flat x.ret x.nums (x.text.map fun b => (b.toNat : Int))
def Out (C l : Addr) (H : Hp) (r : List Rol.Strip × Rol.Ans) (Q : VK) : Prop := ∀ (H' : Hp) (q : Addr), SB l H H' -> cC C H' l r.1 -> H q = none -> H' q = some (.lst (iV (dL r.2))) -> Q (.ref q) H'
section
variable {P : Program} {w : World} {K : Fg} {mg : Str -> Option Value} {base : Heap}
def gU (C : Addr) : Sp := fun vs H Q _ => ∃ (l a : Addr) (S : List Rol.Strip) (s : Rol.Strip), vs = [.ref l, .ref a] /\ cC C H l S /\ aY C (drp H l) a s /\ Out C l H (Rol.kept S s) Q
theorem z9 : al ["strips", "strip"] ["strips", "strip"] (ae yo) := ⟨rfl, rfl, rfl, by decide +kernel, rfl, by decide +kernel, by decide +kernel⟩
theorem yM {f C : Addr} {fd : FuncData} (F : Fun K "keep" "keep" yo f fd) (B : TB mg) (N : TM mg) (U : ao P w K mg base "number_alone" ["number"] 2 spAlone) : bc P w K mg base CX0 3 f fd ["strips", "strip"] (gU C) := by
 obtain ⟨fU, fdU, mU, kU, bU, GU⟩ := U.ex
 obtain ⟨t1, e1⟩ := N.strips
 obtain ⟨t2, e2⟩ := N.room
 refine F.ok z9 (fun vs H Q E h => ?_) (fun cdv A outer s H vs Q E hr h => ?_)
 ·obtain ⟨_, _, _, _, rfl, _⟩ := h
  rfl
 ·obtain ⟨l, a, S, sp, rfl, hO, hA, k⟩ := h
  obtain ⟨h0, as, h1, h2⟩ := id hO
  have len : ((as.map V.ref).length : Int) = (S.length : Int) := by rw [CP, h2.length]
  refine ⟨_, ad (bp (aB gd (ak aJ (by rfl) B.len Dd (aa (pv 0) ac)) (ax (v := .int 32) (by rfl) e1 ⟨_, rfl⟩) (aE _)) (af (au (aj GU hr rfl mU kU bU .nil aC (aa (ax (v := .int (-10)) (by rfl) e2 ⟨_, rfl⟩) ac)))) aK)
   (ad (bv (jb PySem.F.plainAttrs_list PySem.F.slot_list_append PySem.F.type_list_append cy (pv 0) (aa (pv 1) ac)))
   (af (au (aj GU hr (by rfl) mU kU bU .nil aC (aa (aM dH (ak aJ (by rfl) B.len Dd (aa (pv 0) ac)) ai) ac))))), ?_⟩
  refine ⟨_, rfl, l, _, rfl, .inl (SqL.of h1), rfl, _, rfl, ?_⟩
  refine eR (fun c => ?_) (fun c => ?_)
  ·have c' : S.length = 32 := by
    have := V.int.inj (Dc c)
    omega
   have e : Rol.kept S sp = (S, Rol.says (-10)) := by
    unfold Rol.kept Rol.STRIPS
    rw [if_pos (by omega)]
   rw [e] at k
   exact ⟨-10, rfl, fun H' q s1 hq e => k H' q (SB.of s1) (hO.same s1) hq e⟩
  ·have c' : ¬ S.length = 32 := fun z => c (C0 (congrArg V.int (by rw [len, z]; rfl)))
   have e : Rol.kept S sp = (S ++ [sp], Rol.says (S.length : Int)) := by
    unfold Rol.kept Rol.STRIPS
    rw [if_neg (by omega)]
   rw [e] at k
   refine ⟨_, rfl, .inl ⟨rfl, _, SqL.of h1⟩, _, rfl, l, _, _, rfl, rfl, h1, by rw [sizeLine_eq]; omega, ?_⟩
   refine ⟨_, rfl, l, _, rfl, .inl (SqL.of upd_same), _, _, rfl, rfl, (S.length : Int), ?_, fun H' q s1 hq e => ?_⟩
   ·show [V.int (((as.map V.ref ++ [V.ref a]).length : Int) - 1)] = [V.int (S.length : Int)]
    rw [CV, show (((as.map V.ref).length + [V.ref a].length : Nat) : Int) - 1 = ((as.map V.ref).length : Int) by simp, len]
   ·have sb : SB l H H' := SB.put.trans (SB.of s1)
    have nq : H q = none := by
     by_cases z : q = l
     ·rw [z, upd_same] at hq
      cases hq
     ·rw [ag z] at hq
      exact hq
    refine k H' q sb ⟨by rw [CV]; simp; omega, as ++ [a], ?_, (eK.snoc hA h2).same (cZ sb)⟩ nq e
    rw [s1 _ _ upd_same, Dj]
    rfl
def xr (C : Addr) : Sp := fun vs H Q _ => ∃ (l nb gv : Addr) (S : List Rol.Strip) (bs : Rol.Bytes), vs = [.ref l, .ref nb, .ref gv] /\ cC C H l S /\ H gv = some (.lst (iV (bI bs))) /\ Out C l H (Rol.readIn S bs) Q
theorem sF : al ["strips", "numbers", "given", "strip", "fault"] ["strips", "numbers", "given"] (ae fb) := ⟨rfl, rfl, rfl, by decide +kernel, rfl, by decide +kernel, by decide +kernel⟩
theorem yH {f C CF : Addr} {fd : FuncData} (F : Fun K "answer_read" "answer_read" fb f fd) (B : TB mg) (N : TM mg) (TF : nH P w K mg base CF (cI CF)) (U1 : ao P w K mg base "number_alone" ["number"] 2 spAlone) (U2 : gS P w K mg base "strip_of_text" ["text"] 6 (nV K C CF))
  (U3 : cg P w K mg base "answer" ["number", "numbers", "text"] 1 spAns) (U4 : ao P w K mg base "keep" ["strips", "strip"] 3 (gU C)) : bc P w K mg base CX0 7 f fd ["strips", "numbers", "given"] (xr C) := by
 obtain ⟨f1, fd1, m1, k1, b1, G1⟩ := U1.ex
 obtain ⟨f2, fd2, m2, k2, b2, G2⟩ := U2.ex
 obtain ⟨f3, fd3, m3, k3, b3, G3⟩ := U3.ex
 obtain ⟨f4, fd4, m4, k4, b4, G4⟩ := U4.ex
 obtain ⟨NF, fF, fdF, xF, bF, GF⟩ := TF.ex
 obtain ⟨t1, e1⟩ := N.bytes
 obtain ⟨t2, e2⟩ := N.long
 obtain ⟨t3, e3⟩ := N.fault
 refine F.ok sF (fun vs H Q E h => ?_) (fun cdv A outer s H vs Q E hr h => ?_)
 ·obtain ⟨_, _, _, _, _, rfl, _⟩ := h
  rfl
 ·obtain ⟨l, nb, gv, S, bs, rfl, hO, hG, k⟩ := h
  have hr2 : bG 2 _ := hr.mono (by decide)
  have hr3 : bG 3 _ := hr.mono (by decide)
  have hr1 : jB 1 _ := (hr.mono (show 1 <= 6 by decide)).h
  refine ⟨_, ad (bp (aB jH (ak aJ (by rfl) B.len Dd (aa (pv 2) ac)) (ax (v := .int 65536) (by rfl) e1 ⟨_, rfl⟩) (aE _)) (af (au (aj G1 hr2 rfl m1 k1 b1 .nil aC (aa (ax (v := .int (-2)) (by rfl) e2 ⟨_, rfl⟩) ac)))) aK)
   (ad (Ag (i := 4) (EX := fun σ c d H' => c = .ref CF /\ σ = [some (.ref l), some (.ref nb), some (.ref gv), none, none] /\ ∃ (dx : Addr) (k : Nat), d = some dx /\ aq H H' /\ H' dx = some (.xd [(("place" : Str), .int k)]) /\ Rol.readText bs = .error k) rfl rfl rfl xF (by rfl) TF.mgC sF.nd rfl rfl
     (fun xe pn hT hp => af (aw (i := 3) sF.nd rfl (Or.inl rfl) (lh G2 hr (by rfl) m2 k2 b2 .nil (hT.passes rfl) (aa (pv 2) ac))))
     (fun e => af (au (wa G3 (hr1.mark _) (by rfl) m3 k3 b3 (aa (ax (v := .int (-6)) (by rfl) e3 ⟨_, rfl⟩) (aa (aH (aa (yx xF TF.nP (pv 4)) ac)) (aa (aH ac) ac)))))))
   (af (au (aj G4 hr3 (by rfl) m4 k4 b4 .nil aC (aa (pv 0) (aa (pv 3) ac)))))), ?_⟩
  have fl : ((iV (bI bs)).length : Int) = (bs.length : Int) := by unfold iV; rw [CP, bt]
  refine ⟨_, rfl, gv, _, rfl, .inl (SqL.of hG), _, _, rfl, rfl, _, rfl, ?_⟩
  refine eR (fun c => ?_) (fun c => ?_)
  ·have c' : 65536 < bs.length := by
    have := Dc c
    omega
   have e : Rol.readIn S bs = (S, Rol.says (-2)) := by
    unfold Rol.readIn Rol.TEXT
    rw [if_pos c']
   rw [e] at k
   exact ⟨-2, rfl, fun H' q s1 hq e => k H' q (SB.of s1) (hO.same s1) hq e⟩
  ·have c' : ¬ 65536 < bs.length := fun z => c (C0 (by rw [fl]; omega))
   have e : Rol.readIn S bs = match Rol.readText bs with
     | .error k => (S, Rol.tells (-6) [k])
     | .ok x => Rol.kept S x.1 := by
    unfold Rol.readIn Rol.TEXT
    rw [if_neg c']
    rfl
   refine ⟨?_, fun σ' c d H1 hE => ?_⟩
   ·refine ⟨_, rfl, gv, bs, rfl, hG, fun n en H1 dx s1 e => ⟨rfl, rfl, dx, n, rfl, s1, e, en⟩, fun z ez H1 a s1 hN => ?_⟩
    rw [ez] at e
    rw [e] at k
    exact ⟨_, rfl, _, rfl, l, a, S, z.1, rfl, hO.same s1, hN.2 l hO.is, fun H2 q sb ho hq e => k H2 q ((SB.of s1).trans sb) ho (s1.free hq) e⟩
   ·obtain ⟨rfl, rfl, dx, n, rfl, s1, hx, en⟩ := hE
    refine ⟨rfl, fun x dx' hd hx1 => ?_⟩
    cases hd
    rw [en] at e
    rw [e] at k
    have s2 := aq.upd (o := XcH x CF dx) hx1
    refine ⟨_, rfl, x, dx, _, _, rfl, upd_same, s2 _ _ hx, rfl, (by show 1 <= sizeLine; decide), fun p1 h1 => ⟨De _, fun p2 h2 => ?_⟩⟩
    have s3 := aq.upd (o := .lst [.int (n : Int)]) h1
    have s4 := aq.upd (o := .lst []) h2
    have s14 := ((s1.trans s2).trans s3).trans s4
    exact ⟨-6, p1, p2, [(n : Int)], [], rfl, s4 _ _ upd_same, upd_same, (by show 4 <= sizeLine; decide), fun H2 q s5 hq e => k H2 q (SB.of (s14.trans s5)) (hO.same (s14.trans s5)) (s14.free hq) e⟩
end
end PH
end
section
namespace PH
open PySem PySem.Spec PyProof.Rows L2 PM
def ie (C : Addr) (g : Rol.Strip -> List Int -> Prop) (f : Rol.Strip -> List Int -> Rol.Ans) : Sp := fun vs H Q _ => ∃ (l nb gv : Addr) (S : List Rol.Strip) (i : Nat) (s : Rol.Strip) (xs : List Int), vs = [.ref l, .ref nb, .ref gv] /\ cC C H l S /\ H nb = some (.lst (iV ((i : Int) :: xs))) /\ S[i]? = some s /\ g s xs /\ Out C l H (S, f s xs) Q
theorem cC.one {C l : Addr} {H : Hp} {S : List Rol.Strip} {i : Nat} {s : Rol.Strip} (h : cC C H l S) (e : S[i]? = some s) : ∃ (as : List Addr) (a : Addr), H l = some (.lst (as.map V.ref)) /\ (as.map V.ref)[i]? = some (.ref a) /\ aY C H a s := by
 obtain ⟨_, as, h1, h2⟩ := h
 obtain ⟨a, e1, e2⟩ := h2.at_ e
 exact ⟨as, a, h1, by rw [C1, e1]; rfl, e2.same (lE H l)⟩
theorem xX {s : Rol.Strip} (ok : Rol.Strip.ok s = true) : s.text.length <= 400000 := by
 obtain ⟨w1, w2, w3, w4⟩ := be ok
 have e : s.text.length = (tn s.text).length := by unfold tn; rw [CP]
 rw [e, gB, eC, List.length_flatMap]
 have rl := fW s.rows
 have h2 := l7 (l := (qP s.wide :: (Rol.runs s.rows).map (jJ s.wide)).map fun a => (a ++ [10]).length) (b := 601) fun x hx => by
  obtain ⟨z, hz, rfl⟩ := List.mem_map.mp hx
  rw [CV]
  show z.length + 1 <= 601
  rcases C5.mp hz with c | c
  ·rw [c]
   unfold qP
   rw [CV]
   have := gL (n := s.wide) (by omega)
   show 6 + _ + 1 <= 601
   omega
  ·obtain ⟨pr, hp, rfl⟩ := List.mem_map.mp c
   have := cP hp
   have := jk (p := pr) w2 (by omega)
   rw [TL.len_tl, io] at this
   omega
 rw [CP, CU, CP] at h2
 omega
section
variable {P : Program} {w : World} {K : Fg} {mg : Str -> Option Value} {base : Heap}
theorem yl : al ["strips", "numbers", "given"] ["strips", "numbers", "given"] (ae eZ) := ⟨rfl, rfl, rfl, by decide +kernel, rfl, by decide +kernel, by decide +kernel⟩
theorem wq {f C : Addr} {fd : FuncData} (F : Fun K "answer_text" "answer_text" eZ f fd) (U1 : ao P w K mg base "text_of" ["strip"] 2 (rW C)) (U2 : ao P w K mg base "counted_text" ["text"] 2 spCounted) :
  bc P w K mg base CX0 3 f fd ["strips", "numbers", "given"] (ie C (fun _ _ => True) fun s _ => Rol.writes s.text) := by
 obtain ⟨f1, fd1, m1, k1, b1, G1⟩ := U1.ex
 obtain ⟨f2, fd2, m2, k2, b2, G2⟩ := U2.ex
 refine F.ok yl (fun vs H Q E h => ?_) (fun cdv A outer s H vs Q E hr h => ?_)
 ·obtain ⟨_, _, _, _, _, _, _, rfl, _⟩ := h
  rfl
 ·obtain ⟨l, nb, gv, S, i, sp, xs, rfl, hO, hn, hi, _, k⟩ := h
  obtain ⟨as, a, h1, h2, h3⟩ := hO.one hi
  refine ⟨_, af (au (aj G2 hr (by rfl) m2 k2 b2 .nil aC (aa (aj G1 hr (by rfl) m1 k1 b1 .nil aC (aa (aL am (pv 0) (aL am (pv 1) ai (fun _ _ => rfl)) (fun _ _ => rfl)) ac)) ac))), ?_⟩
  refine ⟨_, rfl, _, rfl, nb, _, _, _, rfl, rfl, SqL.of hn, aQ (j := 0) rfl rfl, l, _, _, _, rfl, rfl, SqL.of h1, aQ (j := i) rfl h2, a, sp, rfl, h3, fun H1 q s1 hq e1 => ?_⟩
  have ev : ((tn sp.text).map fun c : Nat => V.int c) = iV (sp.text.map fun b => (b.toNat : Int)) := by
   unfold tn iV
   rw [List.map_map, List.map_map]
   rfl
  have tl : sp.text.length <= 400000 := by
   obtain ⟨ok, _⟩ := h3
   exact xX ok
  rw [ev] at e1
  refine ⟨q, sp.text.map fun b => (b.toNat : Int), rfl, e1, by rw [CP, sizeLine_eq]; omega, fun H2 u s3 hu e3 => ?_⟩
  have s13 := s1.trans s3
  rw [CP] at e3
  exact k H2 u (SB.of s13) (hO.same s13) (s1.free hu) e3
theorem xu : al ["strips", "numbers", "given", "strip"] ["strips", "numbers", "given"] (ae e8) := ⟨rfl, rfl, rfl, by decide +kernel, rfl, by decide +kernel, by decide +kernel⟩
theorem yE {f C : Addr} {fd : FuncData} (F : Fun K "answer_size" "answer_size" e8 f fd) (T : cn K mg C) (B : TB mg) (U1 : ao P w K mg base "runs_of" ["strip"] 1 (ma C)) (U2 : cg P w K mg base "answer" ["number", "numbers", "text"] 1 spAns) :
  bc P w K mg base CX0 2 f fd ["strips", "numbers", "given"] (ie C (fun _ _ => True) fun s _ => Rol.tells 0 [s.wide, s.rows.length, (Rol.runs s.rows).length]) := by
 obtain ⟨f1, fd1, m1, k1, b1, G1⟩ := U1.ex
 obtain ⟨f2, fd2, m2, k2, b2, G2⟩ := U2.ex
 refine F.ok xu (fun vs H Q E h => ?_) (fun cdv A outer s H vs Q E hr h => ?_)
 ·obtain ⟨_, _, _, _, _, _, _, rfl, _⟩ := h
  rfl
 ·obtain ⟨l, nb, gv, S, i, sp, xs, rfl, hO, hn, hi, _, k⟩ := h
  obtain ⟨as, a, h1, h2, h3⟩ := hO.one hi
  obtain ⟨ok, dx, p, rs, q1, q2, q3⟩ := id h3
  refine ⟨_, ad (aw (i := 3) xu.nd rfl (Or.inl rfl) (aL am (pv 0) (aL am (pv 1) ai (fun _ _ => rfl)) (fun _ _ => rfl)))
   (af (au (aj G2.ok hr (by rfl) m2 k2 b2 .nil aC (aa ai (aa (aH (aa (aI (pv 3) rfl) (aa (ak aJ (by rfl) B.len Dd (aa (aI (pv 3) rfl) ac)) (aa (ak aJ (by rfl) B.len Dd (aa (aj G1 hr (by rfl) m1 k1 b1 .nil aC (aa (pv 3) ac)) ac)) ac)))) (aa (aH ac) ac)))))), ?_⟩
  refine ⟨_, rfl, _, rfl, nb, _, _, _, rfl, rfl, SqL.of hn, aQ (j := 0) rfl rfl, l, _, _, _, rfl, rfl, SqL.of h1, aQ (j := i) rfl h2, ?_⟩
  refine ⟨_, rfl, a, C, dx, _, _, rfl, q1, T.cl, T.nW, sy _ _, _, rfl, a, C, dx, _, _, rfl, q1, T.cl, T.nR, jF _ _, p, _, rfl, .inl (SqL.of q2), _, rfl, a, sp, rfl, h3, fun H1 u ts s1 hu e1 hR => ?_⟩
  refine ⟨u, _, rfl, .inl (SqL.of e1), (by show 3 <= sizeLine; decide), fun p1 hp1 => ⟨De _, fun p2 hp2 => ?_⟩⟩
  have s2 := aq.upd (o := .lst [.int sp.wide, .int ((rs.map V.ref).length : Int), .int ((ts.map V.ref).length : Int)]) hp1
  have s3 := aq.upd (o := .lst []) hp2
  have s13 := (s1.trans s2).trans s3
  refine ⟨0, p1, p2, [(sp.wide : Int), (sp.rows.length : Int), ((Rol.runs sp.rows).length : Int)], [], rfl, ?_, upd_same, (by show 6 <= sizeLine; decide), fun H2 z s4 hz e4 => k H2 z (SB.of (s13.trans s4)) (hO.same (s13.trans s4)) (s13.free hz) e4⟩
  rw [s3 _ _ upd_same, CP, CP, q3.length, hR.length]
  rfl
theorem yh : al ["strips", "numbers", "given", "rows", "tracks"] ["strips", "numbers", "given"] (ae gI) := ⟨rfl, rfl, rfl, by decide +kernel, rfl, by decide +kernel, by decide +kernel⟩
theorem AA {f C : Addr} {fd : FuncData} (F : Fun K "answer_row" "answer_row" gI f fd) (T : cn K mg C) (B : TB mg) (N : TM mg) (U1 : ao P w K mg base "number_alone" ["number"] 2 spAlone) (U2 : cg P w K mg base "answer" ["number", "numbers", "text"] 1 spAns) :
  bc P w K mg base CX0 3 f fd ["strips", "numbers", "given"] (ie C (fun _ xs => ∃ j : Nat, xs = [(j : Int)]) fun s xs => match s.rows[(xs.headD 0).toNat]? with
   | none => Rol.says (-4)
   | some r => Rol.tells ((Rol.Row.tracks s.wide r).length : Int) (Rol.Row.tracks s.wide r)) := by
 obtain ⟨f1, fd1, m1, k1, b1, G1⟩ := U1.ex
 obtain ⟨f2, fd2, m2, k2, b2, G2⟩ := U2.ex
 obtain ⟨t4, e4⟩ := N.there
 refine F.ok yh (fun vs H Q E h => ?_) (fun cdv A outer s H vs Q E hr h => ?_)
 ·obtain ⟨_, _, _, _, _, _, _, rfl, _⟩ := h
  rfl
 ·obtain ⟨l, nb, gv, S, i, sp, xs, rfl, hO, hn, hi, ⟨j, rfl⟩, k⟩ := h
  obtain ⟨as, a, h1, h2, h3⟩ := hO.one hi
  obtain ⟨ok, dx, p, rs, q1, q2, q3⟩ := id h3
  obtain ⟨w1, w2, w3, w4⟩ := be ok
  have hx : ([(j : Int)].headD 0).toNat = j := rfl
  dsimp only at k
  rw [hx] at k
  refine ⟨_, ad (aw (i := 3) yh.nd rfl (Or.inl rfl) (aI (aL am (pv 0) (aL am (pv 1) ai (fun _ _ => rfl)) (fun _ _ => rfl)) rfl))
   (ad (bp (aB tP (aL am (pv 1) ai (fun _ _ => rfl)) (ak aJ (by rfl) B.len Dd (aa (pv 3) ac)) (aE _)) (af (au (aj G1 hr (by rfl) m1 k1 b1 .nil aC (aa (ax (v := .int (-4)) (by rfl) e4 ⟨_, rfl⟩) ac)))) aK)
   (ad (aw (i := 4) yh.nd rfl (Or.inl rfl) (aL am (pv 3) (aL am (pv 1) ai (fun _ _ => rfl)) (fun _ _ => rfl)))
   (af (au (aj G2.ok (hr.mono (by decide)) (by rfl) m2 k2 b2 .nil aC (aa (ak aJ (by rfl) B.len Dd (aa (pv 4) ac)) (aa (pv 4) (aa (aH ac) ac)))))))), ?_⟩
  refine ⟨_, rfl, _, rfl, nb, _, _, _, rfl, rfl, SqL.of hn, aQ (j := 0) rfl rfl, l, _, _, _, rfl, rfl, SqL.of h1, aQ (j := i) rfl h2, a, C, dx, _, _, rfl, q1, T.cl, T.nR, jF _ _, ?_⟩
  refine ⟨_, rfl, nb, _, _, _, rfl, rfl, SqL.of hn, aQ (j := 1) rfl rfl, _, rfl, p, _, rfl, .inl (SqL.of q2), _, _, rfl, rfl, _, rfl, ?_⟩
  refine eR (fun c => ?_) (fun c => ?_)
  ·have c' : sp.rows.length <= j := by
    have := Dc c
    rw [CP, q3.length] at this
    omega
   rw [List.getElem?_eq_none c'] at k
   exact ⟨-4, rfl, fun H' q s1 hq e => k H' q (SB.of s1) (hO.same s1) hq e⟩
  ·have c' : j < sp.rows.length := by
    have : ¬ ((rs.map V.ref).length : Int) <= j := fun z => c (C0 z)
    rw [CP, q3.length] at this
    omega
   have ex : sp.rows[j]? = some (sp.rows[j]) := Dg c'
   generalize sp.rows[j] = x at ex
   rw [ex] at k
   obtain ⟨r, z1, z2⟩ := q3.at_ ex
   refine ⟨_, rfl, _, rfl, nb, _, _, _, rfl, rfl, SqL.of hn, aQ (j := 1) rfl rfl, p, _, _, _, rfl, rfl, SqL.of q2, aQ (j := j) (v := .ref r) rfl (by rw [C1, z1]; rfl), ?_⟩
   refine ⟨_, rfl, r, _, rfl, .inl (SqL.of z2), _, rfl, De _, fun p1 hp1 => ?_⟩
   have s1 := aq.upd (o := .lst []) hp1
   have tl := kt sp.wide x
   refine ⟨((Rol.Row.tracks sp.wide x).length : Int), r, p1, tk sp.wide x, [], ?_, s1 _ _ z2, upd_same, by rw [sizeLine_eq]; show _ + 0 + 3 <= _; omega, fun H2 z s2 hz e2 => k H2 z (SB.of (s1.trans s2)) (hO.same (s1.trans s2)) (s1.free hz) e2⟩
   rw [show (iV (tk sp.wide x)).length = (Rol.Row.tracks sp.wide x).length by unfold iV; rw [CP, jR]]
   rfl
theorem vT : al ["strips", "numbers", "given"] ["strips", "numbers", "given"] (ae dG) := ⟨rfl, rfl, rfl, by decide +kernel, rfl, by decide +kernel, by decide +kernel⟩
theorem ug {f C : Addr} {fd : FuncData} (F : Fun K "answer_holes" "answer_holes" dG f fd) (U1 : ao P w K mg base "number_alone" ["number"] 2 spAlone) (U2 : ao P w K mg base "hole_count" ["strip"] 1 (kF C)) :
  bc P w K mg base CX0 3 f fd ["strips", "numbers", "given"] (ie C (fun _ _ => True) fun s _ => Rol.says (s.holes : Int)) := by
 obtain ⟨f1, fd1, m1, k1, b1, G1⟩ := U1.ex
 obtain ⟨f2, fd2, m2, k2, b2, G2⟩ := U2.ex
 refine F.ok vT (fun vs H Q E h => ?_) (fun cdv A outer s H vs Q E hr h => ?_)
 ·obtain ⟨_, _, _, _, _, _, _, rfl, _⟩ := h
  rfl
 ·obtain ⟨l, nb, gv, S, i, sp, xs, rfl, hO, hn, hi, _, k⟩ := h
  obtain ⟨as, a, h1, h2, h3⟩ := hO.one hi
  refine ⟨_, af (au (aj G1 hr (by rfl) m1 k1 b1 .nil aC (aa (aj G2 (hr.mono (by decide)) (by rfl) m2 k2 b2 .nil aC (aa (aL am (pv 0) (aL am (pv 1) ai (fun _ _ => rfl)) (fun _ _ => rfl)) ac)) ac))), ?_⟩
  refine ⟨_, rfl, _, rfl, nb, _, _, _, rfl, rfl, SqL.of hn, aQ (j := 0) rfl rfl, l, _, _, _, rfl, rfl, SqL.of h1, aQ (j := i) rfl h2, a, sp, rfl, h3, fun H1 s1 => ?_⟩
  exact ⟨_, rfl, fun H2 q s2 hq e => k H2 q (SB.of (s1.trans s2)) (hO.same (s1.trans s2)) (s1.free hq) e⟩
end
end PH
end
section
namespace PH
open PySem PySem.Spec PyProof.Rows L2 PM
section
variable {P : Program} {w : World} {K : Fg} {mg : Str -> Option Value} {base : Heap}
theorem pH : al ["strips", "numbers", "given", "slots"] ["strips", "numbers", "given"] (ae dC) := ⟨rfl, rfl, rfl, by decide +kernel, rfl, by decide +kernel, by decide +kernel⟩
theorem uc {f C : Addr} {fd : FuncData} (F : Fun K "answer_slots" "answer_slots" dC f fd) (B : TB mg) (U1 : ao P w K mg base "slots_of" ["strip"] 1 (nU C)) (U2 : cg P w K mg base "answer" ["number", "numbers", "text"] 1 spAns) :
  bc P w K mg base CX0 2 f fd ["strips", "numbers", "given"] (ie C (fun _ _ => True) fun s _ => Rol.tells (s.slots.length : Int) (s.slots.flatMap Rol.slotRow)) := by
 obtain ⟨f1, fd1, m1, k1, b1, G1⟩ := U1.ex
 obtain ⟨f2, fd2, m2, k2, b2, G2⟩ := U2.ex
 refine F.ok pH (fun vs H Q E h => ?_) (fun cdv A outer s H vs Q E hr h => ?_)
 ·obtain ⟨_, _, _, _, _, _, _, rfl, _⟩ := h
  rfl
 ·obtain ⟨l, nb, gv, S, i, sp, xs, rfl, hO, hn, hi, _, k⟩ := h
  obtain ⟨as, a, h1, h2, h3⟩ := hO.one hi
  obtain ⟨w1, w2, w3, w4⟩ := be h3.1
  refine ⟨_, ad (aw (i := 3) pH.nd rfl (Or.inl rfl) (aj G1 hr (by rfl) m1 k1 b1 .nil aC (aa (aL am (pv 0) (aL am (pv 1) ai (fun _ _ => rfl)) (fun _ _ => rfl)) ac)))
   (af (au (aj G2.ok hr (by rfl) m2 k2 b2 .nil aC (aa (aM fm (ak aJ (by rfl) B.len Dd (aa (pv 3) ac)) ai) (aa (pv 3) (aa (aH ac) ac)))))), ?_⟩
  refine ⟨_, rfl, _, rfl, nb, _, _, _, rfl, rfl, SqL.of hn, aQ (j := 0) rfl rfl, l, _, _, _, rfl, rfl, SqL.of h1, aQ (j := i) rfl h2, a, sp, rfl, h3, fun H1 q s1 e1 => ?_⟩
  have fl : (iV (flat sp.slots)).length = 3 * sp.slots.length := by unfold iV; rw [CP, ck]
  have bnd : sp.slots.length <= 128 * 256 := Nat.le_trans (iG _ _ _ _) (Nat.mul_le_mul w2 w3)
  refine ⟨_, rfl, q, _, rfl, .inl (SqL.of e1), _, _, rfl, rfl, ⟨by decide, by decide⟩, _, rfl, De _, fun p1 hp1 => ?_⟩
  have s2 := aq.upd (o := .lst []) hp1
  refine ⟨(sp.slots.length : Int), q, p1, flat sp.slots, [], ?_, s2 _ _ e1, upd_same, by rw [ck, sizeLine_eq]; show _ + 0 + 3 <= _; omega, fun H2 u s3 hu e3 => ?_⟩
  ·show [V.int (((iV (flat sp.slots)).length : Int) / 3), V.ref q, V.ref p1] = _
   rw [fl, show ((3 * sp.slots.length : Nat) : Int) / 3 = (sp.slots.length : Int) by omega]
  ·have s13 := (s1.trans s2).trans s3
   refine k H2 u (SB.of s13) (hO.same s13) ((s1.trans s2).free hu) ?_
   rw [e3, zd]
   rfl
def sg (C : Addr) : Sp := fun vs H Q _ => ∃ (l nb gv : Addr) (S : List Rol.Strip) (i j : Nat) (s u : Rol.Strip), vs = [.ref l, .ref nb, .ref gv] /\ cC C H l S /\ H nb = some (.lst (iV [(i : Int), (j : Int)])) /\ S[i]? = some s /\ S[j]? = some u /\ Out C l H (S, if s.wide ≠ u.wide then Rol.says (-1) else match Rol.diffFrom s.wide 0 s.rows u.rows with
  | some p => Rol.tells 1 [p.1, p.2]
  | none => Rol.says 0) Q
theorem kP : al ["strips", "numbers", "given", "one", "other", "difference"] ["strips", "numbers", "given"] (ae fh) := ⟨rfl, rfl, rfl, by decide +kernel, rfl, by decide +kernel, by decide +kernel⟩
theorem wy {f C : Addr} {fd : FuncData} (F : Fun K "answer_diff" "answer_diff" fh f fd) (T : cn K mg C) (B : TB mg) (N : TM mg) (U1 : ao P w K mg base "number_alone" ["number"] 2 spAlone) (U2 : cg P w K mg base "answer" ["number", "numbers", "text"] 1 spAns) (U3 : ao P w K mg base "first_difference" ["one", "other"] 2 (sj C)) :
  bc P w K mg base CX0 3 f fd ["strips", "numbers", "given"] (sg C) := by
 obtain ⟨f1, fd1, m1, k1, b1, G1⟩ := U1.ex
 obtain ⟨f2, fd2, m2, k2, b2, G2⟩ := U2.ex
 obtain ⟨f3, fd3, m3, k3, b3, G3⟩ := U3.ex
 obtain ⟨t1, e1⟩ := N.out
 refine F.ok kP (fun vs H Q E h => ?_) (fun cdv A outer s H vs Q E hr h => ?_)
 ·obtain ⟨_, _, _, _, _, _, _, _, rfl, _⟩ := h
  rfl
 ·obtain ⟨l, nb, gv, S, i, j, sp, su, rfl, hO, hn, hi, hj, k⟩ := h
  obtain ⟨as, a, h1, h2, h3⟩ := hO.one hi
  obtain ⟨as', b, h1', h2', h3'⟩ := hO.one hj
  obtain ⟨ok, dx, p, rs, q1, q2, q3⟩ := id h3
  obtain ⟨ok', dx', p', rs', q1', q2', q3'⟩ := id h3'
  refine ⟨_, ad (aw (i := 3) kP.nd rfl (Or.inl rfl) (aL am (pv 0) (aL am (pv 1) ai (fun _ _ => rfl)) (fun _ _ => rfl)))
   (ad (aw (i := 4) kP.nd rfl (Or.inl rfl) (aL am (pv 0) (aL am (pv 1) ai (fun _ _ => rfl)) (fun _ _ => rfl)))
   (ad (bp (aB wb (aI (pv 3) rfl) (aI (pv 4) rfl) (aE _)) (af (au (aj G1 hr (by rfl) m1 k1 b1 .nil aC (aa (ax (v := .int (-1)) (by rfl) e1 ⟨_, rfl⟩) ac)))) aK)
   (ad (aw (i := 5) kP.nd rfl (Or.inl rfl) (aj G3 hr (by rfl) m3 k3 b3 .nil aC (aa (pv 3) (aa (pv 4) ac))))
   (ad (bp (aB gd (ak aJ (by rfl) B.len Dd (aa (pv 5) ac)) ai (aE _)) (af (au (aj G1 hr (by rfl) m1 k1 b1 .nil aC (aa ai ac)))) aK)
   (af (au (aj G2.ok (hr.mono (by decide)) (by rfl) m2 k2 b2 .nil aC (aa ai (aa (pv 5) (aa (aH ac) ac)))))))))), ?_⟩
  refine ⟨_, rfl, _, rfl, nb, _, _, _, rfl, rfl, SqL.of hn, aQ (j := 0) rfl rfl, l, _, _, _, rfl, rfl, SqL.of h1, aQ (j := i) rfl h2, ?_⟩
  refine ⟨_, rfl, _, rfl, nb, _, _, _, rfl, rfl, SqL.of hn, aQ (j := 1) rfl rfl, l, _, _, _, rfl, rfl, SqL.of h1', aQ (j := j) rfl h2', ?_⟩
  refine ⟨_, rfl, a, C, dx, _, _, rfl, q1, T.cl, T.nW, sy _ _, _, rfl, b, C, dx', _, _, rfl, q1', T.cl, T.nW, sy _ _, rfl, _, rfl, ?_⟩
  by_cases c : sp.wide = su.wide
  ·rw [if_neg (fun z => z c)] at k
   have t1 : decide (V.int (sp.wide : Int) = V.int (su.wide : Int)) = true := C0 (by rw [c])
   rw [t1]
   refine ⟨_, rfl, _, rfl, a, b, sp, su, rfl, h3, h3', c, fun H1 q s1 e1 => ?_⟩
   refine ⟨_, rfl, q, _, rfl, .inl (SqL.of e1), rfl, _, rfl, ?_⟩
   unfold o4 at e1
   cases e : Rol.diffFrom sp.wide 0 sp.rows su.rows with
   | none =>
    rw [e] at k e1
    unfold o4
    rw [e]
    exact ⟨0, rfl, fun H2 u s2 hu e2 => k H2 u (SB.of (s1.trans s2)) (hO.same (s1.trans s2)) (s1.free hu) e2⟩
   | some pr =>
    rw [e] at k e1
    unfold o4
    rw [e]
    refine ⟨_, rfl, De _, fun p1 hp1 => ?_⟩
    have s2 := aq.upd (o := .lst []) hp1
    exact ⟨1, q, p1, [(pr.1 : Int), (pr.2 : Int)], [], rfl, s2 _ _ e1, upd_same, (by show 5 <= sizeLine; decide), fun H2 u s3 hu e3 => k H2 u (SB.of ((s1.trans s2).trans s3)) (hO.same ((s1.trans s2).trans s3)) ((s1.trans s2).free hu) e3⟩
  ·rw [if_pos c] at k
   have t1 : decide (V.int (sp.wide : Int) = V.int (su.wide : Int)) = false := C6 fun z => c (by have := V.int.inj z; omega)
   rw [t1]
   exact ⟨-1, rfl, fun H2 u s2 hu e2 => k H2 u (SB.of s2) (hO.same s2) hu e2⟩
def ze (S : List Rol.Strip) (wd n : Nat) (L : List Rol.Slot) : List Rol.Strip × Rol.Ans := if Rol.widthOk wd = false ∨ Rol.ROWS < n ∨ RolA.SLOTS < L.length then (S, Rol.says (-1)) else match Rol.badSlot n wd 0 [] L with
 | some i => (S, Rol.tells (-3) [i])
 | none => Rol.kept S (Rol.fill n wd L)
def r8 (C : Addr) : Sp := fun vs H Q _ => ∃ (l nb gv : Addr) (S : List Rol.Strip) (wd n : Nat) (L : List Rol.Slot), vs = [.ref l, .ref nb, .ref gv] /\ cC C H l S /\ H nb = some (.lst (iV [(wd : Int), (n : Int)])) /\ H gv = some (.lst (iV (flat L))) /\ Out C l H (ze S wd n L) Q
theorem iL : al ["strips", "numbers", "given", "width", "length", "count", "standing"] ["strips", "numbers", "given"] (ae fg) := ⟨rfl, rfl, rfl, by decide +kernel, rfl, by decide +kernel, by decide +kernel⟩
theorem xO {n w : Nat} : ∀ (r : List Rol.Slot) (i : Nat) (l : List Rol.Slot) (k : Nat), Rol.badSlot n w i l r = some k -> k < i + r.length
 | [], i, l, k, h => by
  rw [Rol.badSlot] at h
  cases h
 | a :: r, i, l, k, h => by
  rw [Rol.badSlot] at h
  split at h
  ·have := xO r (i + 1) (a :: l) k h
   rw [CU]
   omega
  ·cases h
   rw [CU]
   omega
theorem wx {f C : Addr} {fd : FuncData} (F : Fun K "answer_fill" "answer_fill" fg f fd) (B : TB mg) (N : TM mg) (N2 : TN mg) (U1 : ao P w K mg base "number_alone" ["number"] 2 spAlone) (U2 : cg P w K mg base "answer" ["number", "numbers", "text"] 1 spAns) (U3 : ao P w K mg base "standing_slots" ["width", "length", "slots"] 2 (nQ K))
  (U4 : ao P w K mg base "strip_of_slots" ["width", "length", "slots"] 3 (r9 K C)) (U5 : ao P w K mg base "keep" ["strips", "strip"] 3 (gU C)) : bc P w K mg base CX0 4 f fd ["strips", "numbers", "given"] (r8 C) := by
 obtain ⟨f1, fd1, m1, k1, b1, G1⟩ := U1.ex
 obtain ⟨f2, fd2, m2, k2, b2, G2⟩ := U2.ex
 obtain ⟨f3, fd3, m3, k3, b3, G3⟩ := U3.ex
 obtain ⟨f4, fd4, m4, k4, b4, G4⟩ := U4.ex
 obtain ⟨f5, fd5, m5, k5, b5, G5⟩ := U5.ex
 obtain ⟨t1, e1⟩ := N.out
 obtain ⟨t2, e2⟩ := N.slots
 obtain ⟨t3, e3⟩ := N.stand
 obtain ⟨t4, e4⟩ := N2.width
 obtain ⟨t5, e5⟩ := N2.rows
 refine F.ok iL (fun vs H Q E h => ?_) (fun cdv A outer s H vs Q E hr h => ?_)
 ·obtain ⟨_, _, _, _, _, _, _, rfl, _⟩ := h
  rfl
 ·obtain ⟨l, nb, gv, S, wd, n, L, rfl, hO, hn, hG, k⟩ := h
  have hr2 : bG 2 _ := hr.mono (by decide)
  have hr1 : bG 1 _ := hr.mono (by decide)
  refine ⟨_, ad (aw (i := 3) iL.nd rfl (Or.inl rfl) (aL am (pv 1) ai (fun _ _ => rfl)))
   (ad (aw (i := 4) iL.nd rfl (Or.inl rfl) (aL am (pv 1) ai (fun _ _ => rfl)))
   (ad (aw (i := 5) iL.nd rfl (Or.inl rfl) (aM fm (ak aJ (by rfl) B.len Dd (aa (pv 2) ac)) ai))
   (ad (bp (oF (g8 (fY jc jc ai (pv 3) (ax (v := .int 128) (by rfl) e4 ⟨_, rfl⟩))) (oF (aB jH (pv 4) (ax (v := .int 256) (by rfl) e5 ⟨_, rfl⟩) (aE _)) (mi (aB jH (pv 5) (ax (v := .int 1024) (by rfl) e2 ⟨_, rfl⟩) (aE _))))).pt
    (af (au (aj G1 hr2 (by rfl) m1 k1 b1 .nil aC (aa (ax (v := .int (-1)) (by rfl) e1 ⟨_, rfl⟩) ac)))) aK)
   (ad (aw (i := 6) iL.nd rfl (Or.inl rfl) (aj G3 hr2 (by rfl) m3 k3 b3 .nil aC (aa (pv 3) (aa (pv 4) (aa (pv 2) ac)))))
   (ad (bp (aB tM (pv 6) (pv 5) (aE _)) (af (au (aj G2.ok hr1 (by rfl) m2 k2 b2 .nil aC (aa (ax (v := .int (-3)) (by rfl) e3 ⟨_, rfl⟩) (aa (aH (aa (pv 6) ac)) (aa (aH ac) ac)))))) aK)
   (af (au (aj G5 hr (by rfl) m5 k5 b5 .nil aC (aa (pv 0) (aa (aj G4 hr (by rfl) m4 k4 b4 .nil aC (aa (pv 3) (aa (pv 4) (aa (pv 2) ac)))) ac)))))))))), ?_⟩
  have fl : ((iV (flat L)).length : Int) = ((3 * L.length : Nat) : Int) := by unfold iV; rw [CP, ck]
  refine ⟨_, rfl, nb, _, _, _, rfl, rfl, SqL.of hn, aQ (j := 0) rfl rfl, ?_⟩
  refine ⟨_, rfl, nb, _, _, _, rfl, rfl, SqL.of hn, aQ (j := 1) rfl rfl, ?_⟩
  refine ⟨_, rfl, gv, _, rfl, .inl (SqL.of hG), _, _, rfl, rfl, ⟨by decide, by decide⟩, ?_⟩
  have cnt : ((iV (flat L)).length : Int) / 3 = (L.length : Int) := by rw [fl]; omega
  have bad : (Rol.widthOk wd = false ∨ Rol.ROWS < n ∨ RolA.SLOTS < L.length) -> ∀ (H' : Hp) (q : Addr), aq H H' -> H q = none -> H' q = some (.lst (iV [-1])) -> Q (.ref q) H' := fun z H' q s1 hq e => by
   unfold ze at k
   rw [if_pos z] at k
   exact k H' q (SB.of s1) (hO.same s1) hq e
  have wk : Rol.widthOk wd = (decide (1 <= wd) && decide (wd <= 128)) := rfl
  refine ⟨_, rfl, _, _, rfl, rfl, _, rfl, ?_⟩
  by_cases c1 : (1 : Int) <= wd
  ·rw [C0 c1]
   refine ⟨_, _, rfl, rfl, _, rfl, ?_⟩
   by_cases c2 : (wd : Int) <= 128
   ·rw [C0 c2]
    refine ⟨_, rfl, _, _, rfl, rfl, _, rfl, ?_⟩
    by_cases c3 : (256 : Int) < n
    ·rw [C0 c3]
     exact ⟨-1, rfl, bad (.inr (.inl (by unfold Rol.ROWS; omega)))⟩
    ·rw [C6 c3]
     refine ⟨_, rfl, _, _, rfl, rfl, _, rfl, ?_⟩
     dsimp only
     rw [cnt]
     by_cases c4 : (1024 : Int) < L.length
     ·rw [C0 c4]
      exact ⟨-1, rfl, bad (.inr (.inr (by unfold RolA.SLOTS; omega)))⟩
     ·rw [C6 c4]
      have ok1 : ¬ (Rol.widthOk wd = false ∨ Rol.ROWS < n ∨ RolA.SLOTS < L.length) := by
       rw [wk, C0 (show 1 <= wd by omega), C0 (show wd <= 128 by omega)]
       unfold Rol.ROWS RolA.SLOTS
       simp
       omega
      unfold ze at k
      rw [if_neg ok1] at k
      refine ⟨_, rfl, _, rfl, _, rfl, gv, L, wd, n, rfl, SqL.of hG, by omega, fun H1 s1 => ?_⟩
      refine ⟨_, rfl, _, rfl, _, _, rfl, rfl, _, rfl, ?_⟩
      cases eb : Rol.badSlot n wd 0 [] L with
      | some m =>
       rw [eb] at k
       have lt := xO L 0 [] m eb
       have st : fL n wd L = m := by
        unfold fL
        rw [eb]
        rfl
       rw [st, C0 (show ((m : Nat) : Int) < (L.length : Int) by omega)]
       refine ⟨_, rfl, (by show 1 <= sizeLine; decide), fun p1 h1 => ⟨De _, fun p2 h2 => ?_⟩⟩
       have s2 := aq.upd (o := .lst [.int (m : Int)]) h1
       have s3 := aq.upd (o := .lst []) h2
       have s13 := (s1.trans s2).trans s3
       exact ⟨-3, p1, p2, [(m : Int)], [], rfl, s3 _ _ upd_same, upd_same, (by show 4 <= sizeLine; decide), fun H2 q s4 hq e => k H2 q (SB.of (s13.trans s4)) (hO.same (s13.trans s4)) (s13.free hq) e⟩
      | none =>
       rw [eb] at k
       have st : fL n wd L = L.length := by
        unfold fL
        rw [eb]
        rfl
       rw [st, C6 (show ¬ ((L.length : Nat) : Int) < (L.length : Int) by omega)]
       refine ⟨_, rfl, _, rfl, _, rfl, _, rfl, gv, L, wd, n, rfl, SqL.of (s1 _ _ hG), by omega, by omega, by omega, by omega, eb, fun H2 p s2 hN => ?_⟩
       exact ⟨l, p, S, Rol.fill n wd L, rfl, (hO.same s1).same s2, hN.2 l (hO.same s1).is, fun H3 q sb ho hq e => k H3 q ((SB.of (s1.trans s2)).trans sb) ho ((s1.trans s2).free hq) e⟩
   ·rw [C6 c2]
    refine ⟨-1, rfl, bad (.inl ?_)⟩
    rw [wk, C6 (show ¬ wd <= 128 by omega), Bool.and_false]
  ·rw [C6 c1]
   refine ⟨_, rfl, -1, rfl, bad (.inl ?_)⟩
   rw [wk, C6 (show ¬ 1 <= wd by omega), Bool.false_and]
end
end PH
end
section
namespace PH
open PySem PySem.Spec PyProof.Rows L2 PM
theorem Bc : bootBuiltins "all" = some (.builtin "all") := by decide +kernel
section
variable {P : Program} {w : World} {K : Fg} {mg : Str -> Option Value} {base : Heap}
def spThere : Sp := fun vs H Q _ => ∃ (l nb : Addr) (ss : List V) (xs : List Int), vs = [.ref l, .ref nb] /\ H l = some (.lst ss) /\ H nb = some (.lst (iV xs)) /\ xs.length <= 1000 /\ ∀ H', aq H H' -> Q (.bl (xs.all fun x => decide (x < (ss.length : Int)))) H'
theorem om : al ["strips", "named", "number"] ["strips", "named"] (ae fV) := ⟨rfl, rfl, rfl, by decide +kernel, rfl, by decide +kernel, by decide +kernel⟩
abbrev yX : Scope := { kind := .function, names := [(".0", .local), ("number", .local), ("len", .globalImplicit), ("strips", .free)], isGenerator := false, isCoroutine := false }
theorem zh : dQ ["strips", "named", "number"] (ae fV) yX [("number", 2)] := ⟨rfl, by decide +kernel, by decide +kernel, by decide +kernel, by decide +kernel⟩
theorem we {f : Addr} {fd : FuncData} (F : Fun K "all_there" "all_there" fV f fd) (B : TB mg) (ba : mg "all" = none) : bc P w K mg base CX0 1 f fd ["strips", "named"] spThere := by
 refine F.ok om (fun vs H Q E h => ?_) (fun cdv A outer s H vs Q E hr h => ?_)
 ·obtain ⟨_, _, _, _, rfl, _⟩ := h
  rfl
 ·obtain ⟨l, nb, ss, xs, rfl, h1, h2, hx, k⟩ := h
  refine ⟨_, af (au (ak (AZ rfl) (by rfl) ba Bc (aa (ja rfl om.nd (bq (pv 1)) zh (fun _ _ _ _ _ => aG (i := 2) om.nd rfl (Or.inl rfl)) (fun _ _ _ _ _ => cu) (fun _ _ _ _ _ => gK tM (pv 2) (ak (aJ : eL _ _ (Af K)) (by rfl) B.len Dd (aa (pv 0) ac)) (aE _))) ac))), ?_⟩
  refine ⟨_, rfl, nb, rfl, ⟨_, SqL.of h2⟩, fun D hD => ?_⟩
  refine cV (K := K) (a := nb) (xs := iV xs) (fun i H' => aq H H' /\ H' D = some (.lst (((xs.take i).map fun x => decide (x < (ss.length : Int))).map V.bl))) ⟨aq.upd hD, upd_same⟩ (fun i H' _ ⟨q, _⟩ => SqL.of (q _ _ h2)) ?_ ?_
  ·rintro i v H' hv ⟨q, hq⟩
   unfold iV at hv
   rw [C1] at hv
   obtain ⟨x, ex, rfl⟩ := Option.map_eq_some_iff.mp hv
   refine ⟨rfl, _, rfl, _, rfl, l, _, rfl, .inl (SqL.of (q _ _ h1)), _, _, rfl, rfl, _, hq, ?_, aD q hD, ?_⟩
   ·rw [CP, CP, Dn]
    rw [sizeLine_eq]
    omega
   ·rw [upd_same, aR (fun x => decide (x < (ss.length : Int))) ex, Dj]
    rfl
  ·rintro H' ⟨q, hq⟩
   rw [show (iV xs).length = xs.length by unfold iV; rw [CP], List.take_length] at hq
   refine ⟨D, xs.map fun x => decide (x < (ss.length : Int)), rfl, SqL.of hq, ?_⟩
   have e : (xs.map fun x => decide (x < (ss.length : Int))).all id = xs.all fun x => decide (x < (ss.length : Int)) := by
    rw [List.all_map]
    rfl
   rw [e]
   exact k H' q
end
end PH
end
section
namespace PM
open Rol
theorem rH (w : Nat) (x : Row) : tk w (turned w x) = (tk w x).reverse.map fun z => (w : Int) - 1 - z := by
 refine ee (gA _ _) ?_ fun z => ?_
 ·rw [List.pairwise_map, List.pairwise_reverse]
  exact (gA w x).imp fun {a b} h => by omega
 ·rw [qH, List.mem_map]
  constructor
  ·exact fun h => ⟨_, List.mem_reverse.mpr h, by omega⟩
  ·rintro ⟨y, hy, rfl⟩
   have : (w : Int) - 1 - (w - 1 - y) = y := by omega
   rw [this]
   exact List.mem_reverse.mp hy
theorem vD (w : Nat) (b : Int) (x : Row) : tk w (moved w b x) = ((tk w x).filter fun z => decide (0 <= z + b) && decide (z + b < w)).map fun z => z + b := by
 refine ee (gA _ _) ?_ fun z => ?_
 ·rw [List.pairwise_map]
  exact ((gA w x).sublist List.filter_sublist).imp fun {a b} h => by omega
 ·rw [um, List.mem_map]
  constructor
  ·rintro ⟨h0, h1, h2⟩
   refine ⟨z - b, List.mem_filter.mpr ⟨h2, ?_⟩, by omega⟩
   rw [C4, C9, C9]
   omega
  ·rintro ⟨y, hy, rfl⟩
   obtain ⟨h1, h2⟩ := List.mem_filter.mp hy
   rw [C4, C9, C9] at h2
   refine ⟨h2.1, h2.2, ?_⟩
   rw [show y + b - b = y by omega]
   exact h1
theorem rC (w : Nat) (x : Row) : turned w x < 2 ^ w := pJ _ _
theorem wE (w : Nat) (b : Int) (x : Row) : moved w b x < 2 ^ w := pJ _ _
theorem ph (x t : Nat) : turn x t = x ^^^ 2 ^ t := by
 unfold turn Row.hole
 by_cases c : Nat.testBit x t = true
 ·rw [if_pos c]
  have hy : Nat.testBit (x ^^^ 2 ^ t) t = false := by
   rw [Nat.testBit_xor, c, Nat.testBit_two_pow_self]
   rfl
  have e := vf hy
  have e2 : (x ^^^ 2 ^ t) ||| 2 ^ t = x := by
   apply Nat.eq_of_testBit_eq
   intro i
   rw [Nat.testBit_or, Nat.testBit_xor, Nat.testBit_two_pow]
   by_cases z : t = i
   ·subst z
    rw [c]
    simp
   ·simp [z]
  have e3 := e.trans e2
  exact Nat.sub_eq_of_eq_add e3.symm
 ·rw [if_neg c]
  have c' : Nat.testBit x t = false := by simpa using c
  rw [vf c']
  apply Nat.eq_of_testBit_eq
  intro i
  rw [Nat.testBit_or, Nat.testBit_xor, Nat.testBit_two_pow]
  by_cases z : t = i
  ·subst z
   rw [c']
   simp
  ·simp [z]
theorem vA (x t i : Nat) : Nat.testBit (turn x t) i = if i = t then !Nat.testBit x t else Nat.testBit x i := by
 rw [ph, Nat.testBit_xor, Nat.testBit_two_pow]
 by_cases z : i = t
 ·subst z
  rw [if_pos rfl]
  simp
 ·rw [if_neg z]
  have : ¬ t = i := fun q => z q.symm
  simp [this]
theorem xV {w x t : Nat} (hx : x < 2 ^ w) (ht : t < w) : turn x t < 2 ^ w := by
 rw [ph]
 exact Nat.xor_lt_two_pow hx (Nat.pow_lt_pow_right (by decide) ht)
def ii (w : Nat) (x : Row) : List Bool := (List.range w).map fun t => Nat.testBit x t
theorem gm (w : Nat) (x : Row) : (ii w x).length = w := by unfold ii; rw [CP, List.length_range]
theorem iz {w t : Nat} (x : Row) (h : t < w) : (ii w x)[t]? = some (Nat.testBit x t) := by
 unfold ii
 rw [C1, List.getElem?_range h]
 rfl
theorem qU (w : Nat) : ii w 0 = List.replicate w false := by
 unfold ii
 apply List.ext_getElem?
 intro i
 rw [C1, List.getElem?_replicate]
 by_cases c : i < w
 ·rw [List.getElem?_range c, if_pos c]
  simp
 ·rw [if_neg c, List.getElem?_eq_none (by rw [List.length_range]; omega)]
  rfl
theorem qV {w t : Nat} (x : Row) (h : t < w) : (ii w x).set t (!Nat.testBit x t) = ii w (turn x t) := by
 apply List.ext_getElem?
 intro i
 by_cases c : i < w
 ·rw [iz _ c, vA, List.getElem?_set, gm]
  by_cases z : i = t
  ·subst z
   rw [if_pos rfl, if_pos h, if_pos rfl]
  ·rw [if_neg (fun q => z q.symm), if_neg z, iz _ c]
 ·rw [List.getElem?_eq_none (by rw [List.length_set, gm]; omega), List.getElem?_eq_none (by rw [gm]; omega)]
theorem pq (w : Nat) (x : Row) : tk w x = ((List.range w).filter fun t => Nat.testBit x t).map fun t : Nat => (t : Int) := rfl
theorem xW (w : Nat) : tk w 0 = [] := by
 rw [pq]
 simp
def cv {α : Type} (r : Except Nat α) : Option Nat := match r with
 | .error k => some k
 | .ok _ => none
theorem js {α β : Type} (f : α -> β) (r : Except Nat α) : cv (r.map f) = cv r := by cases r <;> rfl
theorem qT (w had p : Nat) (c : UInt8) (r : Bytes) : cv (readProg w had p (c :: r)) = if c = 0 then (if r = [] then none else some (p + 1)) else if 128 + w <= c.toNat then some p else if 128 <= c.toNat then cv (readProg w had (p + 1) r) else if 256 < had + c.toNat then some p else cv (readProg w (had + c.toNat) (p + 1) r) := by
 rw [readProg]
 unfold ROWS
 by_cases c0 : c = 0
 ·rw [if_pos c0, if_pos c0]
  by_cases c1 : r = []
  ·rw [if_pos c1, if_pos c1]; rfl
  ·rw [if_neg c1, if_neg c1]; rfl
 ·rw [if_neg c0, if_neg c0]
  by_cases c1 : 128 <= c.toNat
  ·rw [if_pos c1]
   by_cases c2 : w <= c.toNat - 128
   ·rw [if_pos c2, if_pos (by omega)]; rfl
   ·rw [if_neg c2, if_neg (by omega), if_pos c1, js]
  ·rw [if_neg c1, if_neg (show ¬ 128 + w <= c.toNat by omega), if_neg c1]
   by_cases c2 : 256 < had + c.toNat
   ·rw [if_pos c2, if_pos c2]; rfl
   ·rw [if_neg c2, if_neg c2, js]
theorem gq {c : UInt8} : c = 0 ↔ c.toNat = 0 := by
 constructor
 ·intro h
  rw [h]
  rfl
 ·intro h
  exact UInt8.toNat_inj.mp h
theorem mq {w had p : Nat} {c : UInt8} {r : Bytes} {d : List Do} (h : readProg w had p (c :: r) = .ok d) :
  (c.toNat = 0 /\ r = [] /\ d = []) ∨ (128 <= c.toNat /\ c.toNat - 128 < w /\ ∃ d', readProg w had (p + 1) r = .ok d' /\ d = .turn (c.toNat - 128) :: d') ∨
  (1 <= c.toNat /\ c.toNat < 128 /\ had + c.toNat <= 256 /\ ∃ d', readProg w (had + c.toNat) (p + 1) r = .ok d' /\ d = .rows c.toNat :: d') := by
 rw [readProg] at h
 unfold ROWS at h
 have mp : ∀ {e : Except Nat (List Do)} {f : List Do -> List Do}, e.map f = .ok d -> ∃ d', e = .ok d' /\ d = f d' := by
  intro e f z
  cases e with
  | error k => cases z
  | ok y => exact ⟨y, rfl, (Except.ok.inj z).symm⟩
 by_cases c0 : c = 0
 ·rw [if_pos c0] at h
  by_cases c1 : r = []
  ·rw [if_pos c1] at h
   exact .inl ⟨gq.mp c0, c1, (Except.ok.inj h).symm⟩
  ·rw [if_neg c1] at h
   cases h
 ·rw [if_neg c0] at h
  have n0 : c.toNat ≠ 0 := fun z => c0 (gq.mpr z)
  by_cases c1 : 128 <= c.toNat
  ·rw [if_pos c1] at h
   by_cases c2 : w <= c.toNat - 128
   ·rw [if_pos c2] at h
    cases h
   ·rw [if_neg c2] at h
    exact .inr (.inl ⟨c1, by omega, mp h⟩)
  ·rw [if_neg c1] at h
   by_cases c2 : 256 < had + c.toNat
   ·rw [if_pos c2] at h
    cases h
   ·rw [if_neg c2] at h
    exact .inr (.inr ⟨by omega, by omega, by omega, mp h⟩)
theorem pP {w had p : Nat} {d : List Do} (h : readProg w had p [] = .ok d) : False := by
 rw [readProg] at h
 cases h
theorem eU {w : Nat} : ∀ {b : Bytes} {had p : Nat} {d : List Do}, readProg w had p b = .ok d -> (b.filter fun c => decide (128 <= c.toNat)).length = turnsIn d
 | [], _, _, _, h => (pP h).elim
 | c :: r, had, p, d, h => by
  rcases mq h with ⟨c0, rfl, rfl⟩ | ⟨c1, c2, d', h', rfl⟩ | ⟨c1, c2, c3, d', h', rfl⟩
  ·rw [List.filter_cons, if_neg (by rw [C9]; omega)]
   rfl
  ·rw [List.filter_cons, if_pos (by rw [C9]; omega), CU, eU h']
   rfl
  ·rw [List.filter_cons, if_neg (by rw [C9]; omega), eU h']
   rfl
def doI (d : Do) : Int := (d.byte.toNat : Int)
theorem wV {t : Nat} (h : t < 128) : doI (.turn t) = 128 + (t : Int) := by
 unfold doI Do.byte
 show ((UInt8.ofNat (128 + t)).toNat : Int) = _
 rw [UInt8.toNat_ofNat']
 omega
theorem wW {n : Nat} (h : n < 256) : doI (.rows n) = (n : Int) := by
 unfold doI Do.byte
 show ((UInt8.ofNat n).toNat : Int) = _
 rw [UInt8.toNat_ofNat']
 omega
theorem mo (l : List Do) : bI (progBytes l) = l.map doI ++ [0] := by
 unfold bI progBytes
 rw [Dj, List.map_map]
 rfl
theorem jg : ∀ (f n : Nat), n <= f -> (numbersOf f n).map doI = List.replicate (n / 127) 127 ++ (if n % 127 = 0 then [] else [((n % 127 : Nat) : Int)])
 | 0, n, h => by
  have : n = 0 := by omega
  subst this
  rfl
 | f + 1, n, h => by
  rw [numbersOf]
  by_cases c : n = 0
  ·rw [if_pos c]
   subst c
   rfl
  ·rw [if_neg c, List.map_cons, jg f (n - 127) (by omega), wW (by omega)]
   rcases Nat.lt_or_ge n 127 with c1 | c1
   ·have e1 : n / 127 = 0 := by omega
    have e2 : n % 127 = n := by omega
    have e3 : n - 127 = 0 := by omega
    rw [e1, e2, e3, if_neg c, show min 127 n = n by omega]
    rfl
   ·have e1 : n / 127 = (n - 127) / 127 + 1 := by omega
    have e2 : n % 127 = (n - 127) % 127 := by omega
    rw [e1, e2, List.replicate_succ, show min 127 n = 127 by omega]
    rfl
theorem sY (w : Nat) (x : Row) (p : Nat × Row) (r : List (Nat × Row)) (hw : w <= 128) : (progOf w x (p :: r)).map doI = ((unl w x p.2).map fun t : Nat => 128 + (t : Int)) ++ (List.replicate (p.1 / 127) 127 ++ (if p.1 % 127 = 0 then [] else [((p.1 % 127 : Nat) : Int)])) ++ (progOf w p.2 r).map doI := by
 rw [progOf, Dj, Dj, jg p.1 p.1 (C7 _), List.map_map, <- Dr]
 congr 2
 unfold unl
 apply List.map_congr_left
 intro t ht
 have := List.mem_range.mp (List.mem_filter.mp ht).1
 exact wV (by omega)
theorem rB (w : Nat) (x y : Row) : (unl w x y).length <= w := by
 unfold unl
 have := List.length_filter_le (fun t => Row.hole x t != Row.hole y t) (List.range w)
 rw [List.length_range] at this
 exact this
theorem pQ (w : Nat) : ∀ (l : List (Nat × Row)) (x : Row), (∀ p ∈ l, p.1 <= 256) -> (progOf w x l).length <= l.length * (w + 3)
 | [], _, _ => De _
 | p :: r, x, h => by
  have ih := pQ w r p.2 fun q hq => h q (C2 _ hq)
  have hp := h p C3
  rw [progOf, CV, CV, CP, CU, Nat.add_mul]
  have h1 : (numbersOf p.1 p.1).length <= 3 := by
   have e := congrArg List.length (jg p.1 p.1 (C7 _))
   rw [CP, CV, List.length_replicate] at e
   rw [e]
   by_cases z : p.1 % 127 = 0
   ·rw [if_pos z]
    simp
    omega
   ·rw [if_neg z]
    simp
    omega
  have h2 := rB w x p.2
  unfold unl at h2
  omega
theorem AF {l : List Nat} {m : Nat} (hm : m ∈ l) (h : ∀ y ∈ l, y <= m) : l.foldl max 0 = m := by
 have key : ∀ (l : List Nat) (a : Nat), (∀ y ∈ l, y <= m) -> a <= m -> (m ∈ l ∨ a = m) -> l.foldl max a = m := by
  intro l
  induction l with
  | nil =>
   intro a _ _ h3
   rcases h3 with h3 | h3
   ·cases h3
   ·exact h3
  | cons y r ih =>
   intro a h1 h2 h3
   rw [List.foldl_cons]
   have hy := h1 y C3
   refine ih (max a y) (fun z hz => h1 z (C2 _ hz)) (by omega) ?_
   rcases h3 with h3 | h3
   ·rcases C5.mp h3 with q | q
    ·right; omega
    ·left; exact q
   ·right; omega
 exact key l 0 h (De _) (.inl hm)
theorem ml (l : List Row) (x : Row) (t : Nat) : punchedBy (l ++ [x]) t = punchedBy l t + (if Nat.testBit x t = true then 1 else 0) := by
 unfold punchedBy Row.hole
 rw [List.filter_append, CV, List.filter_cons]
 by_cases c : Nat.testBit x t = true
 ·rw [if_pos c, if_pos c]; rfl
 ·rw [if_neg c, if_neg c]; rfl
end PM
end
section
namespace PH
open PySem PySem.Spec PyProof.Rows L2 PM
theorem Bb : bootBuiltins "max" = some (.builtin "max") := by decide +kernel
theorem AI {K : Fg} {a : Addr} {xs : List V} {g : TG} {tt : TT} {te : TE} {vs : List Nat} {σ : L2.St} {H1 : Hp} {D : Addr} {Qd : Hp -> Prop} (Pv : Nat -> Hp -> Prop) (h0 : Pv 0 (L2.upd H1 D (.lst []))) (hl : ∀ i H, i <= xs.length -> Pv i H -> SqL K H a xs)
  (hs : ∀ i x H, i < xs.length -> xs[xs.length - 1 - i]? = some x -> Pv i H -> g x (df σ vs) H fun σ2 H2 => df σ2 vs = df σ vs /\ tt σ2 H2 fun b H3 =>
   if b = true then te σ2 H3 fun y H4 => ∃ acc, H4 D = some (.lst acc) /\ acc.length < sizeLine /\ Pv (i + 1) (L2.upd H4 D (.lst (acc ++ [y]))) else Pv (i + 1) H3) (hd : ∀ H, Pv xs.length H -> Qd H) :
  ∃ W : Nat -> Nat -> Hp -> Prop, (∃ m, W 0 m (L2.upd H1 D (.lst []))) /\ ∀ i m H, W i m H ->
   ((Itv K a xs.length).stop i H /\ Qd H) ∨ ((Itv K a xs.length).go i H /\ ∃ Nx : Hp -> Prop, (∀ H', Nx H' -> ∃ m', m' < m /\ W (i + 1) m' H') /\ ∀ x H', (Itv K a xs.length).yld i H x H' -> g x (df σ vs) H' fun σ2 H2 => df σ2 vs = df σ vs /\ tt σ2 H2 fun b H3 =>
    if b = true then te σ2 H3 fun y H4 => ∃ acc, H4 D = some (.lst acc) /\ acc.length < sizeLine /\ Nx (L2.upd H4 D (.lst (acc ++ [y]))) else Nx H3) := by
 refine ⟨fun i m H => m = xs.length - i /\ i <= xs.length /\ Pv i H, ⟨xs.length, by simp, De _, h0⟩, fun i m H hW => ?_⟩
 obtain ⟨rfl, hi, p⟩ := hW
 have q := hl i H hi p
 rcases Nat.lt_or_ge i xs.length with lt | ge
 ·have e : xs[xs.length - 1 - i]? = some (xs[xs.length - 1 - i]'(by omega)) := Dg _
  refine .inr ⟨⟨lt, xs, _, q, e⟩, Pv (i + 1), fun H' p' => ⟨xs.length - (i + 1), by omega, rfl, lt, p'⟩, fun x H' y => ?_⟩
  obtain ⟨e2, y⟩ := y
  subst e2
  exact hs i x _ lt (y xs q) p
 ·have e : i = xs.length := by omega
  subst e
  exact .inl ⟨C7 _, hd H p⟩
theorem tJ {X : Cx} {e : Expr} {f : Str} {pos : Pos} {ta : TE} (K : Fg) (hK : X.K = K) (he : PE X e ta) (hb : attributeBase e f X.env (eval e X.env) = eval e X.env) : PE X (.Attribute e f pos) (Bl K ta f) := by
 subst hK
 exact aI he hb
abbrev lcF (xs gs fs : List Str) : Scope := { kind := .function, names := (xs.map fun x => (x, .local)) ++ ((gs.map fun x => (x, .globalImplicit)) ++ fs.map fun x => (x, .free)), isGenerator := false, isCoroutine := false }
def c9 (H : Hp) (D : Addr) (w : Nat) (xs : List Rol.Row) (H3 : Hp) : Prop := ∃ rs : List Addr, H3 D = some (.lst (rs.map V.ref)) /\ aq H H3 /\ D ∉ rs /\ (∀ c ∈ rs, H c = none) /\ az H3 w rs xs
theorem c9.start {H : Hp} {D : Addr} {w : Nat} (hD : H D = none) : c9 H D w [] (L2.upd H D (.lst [])) := ⟨[], upd_same, aq.upd hD, (by simp), (fun c hc => by cases hc), trivial⟩
theorem c9.snoc {H H3 H4 : Hp} {D p : Addr} {w : Nat} {xs : List Rol.Row} {x : Rol.Row} (h : c9 H D w xs H3) (hD : H D = none) (hx : xs.length < 1000) (s : aq H3 H4) (hp : H3 p = none) (e : H4 p = some (.lst (iV (tk w x)))) :
  ∃ acc, H4 D = some (.lst acc) /\ acc.length < sizeLine /\ c9 H D w (xs ++ [x]) (L2.upd H4 D (.lst (acc ++ [.ref p]))) := by
 obtain ⟨rs, h1, h2, h3, h4, h5⟩ := h
 have nDp : D ≠ p := ah h1 hp
 refine ⟨_, s _ _ h1, by rw [CP, h5.length, sizeLine_eq]; omega, rs ++ [p], by rw [upd_same, Dj]; rfl, aD (h2.trans s) hD, fun z => ?_, fun c hc => ?_, ?_⟩
 ·rcases Dh.mp z with z | z
  ·exact h3 z
  ·exact nDp (Db.mp z)
 ·rcases Dh.mp hc with z | z
  ·exact h4 c z
  ·rw [Db.mp z]
   exact h2.free hp
 ·refine az.append (az.off h3 (h5.same s)) ⟨?_, trivial⟩
  rw [ag nDp.symm]
  exact e
theorem az.drop {H : Hp} {w : Nat} : ∀ {rs : List Addr} {xs : List Rol.Row} (n : Nat), az H w rs xs -> az H w (rs.drop n) (xs.drop n)
 | [], [], n, _ => by cases n <;> trivial
 | r :: rs, x :: xs, 0, h => h
 | r :: rs, x :: xs, n + 1, h => az.drop n h.2
 | [], _ :: _, _, h => h.elim
 | _ :: _, [], _, h => h.elim
theorem az.take {H : Hp} {w : Nat} : ∀ {rs : List Addr} {xs : List Rol.Row} (n : Nat), az H w rs xs -> az H w (rs.take n) (xs.take n)
 | [], [], n, _ => by cases n <;> trivial
 | r :: rs, x :: xs, 0, h => trivial
 | r :: rs, x :: xs, n + 1, h => ⟨h.1, az.take n h.2⟩
 | [], _ :: _, _, h => h.elim
 | _ :: _, [], _, h => h.elim
theorem bX {α : Type} {l : List α} {i : Nat} {x : α} (h : l[i]? = some x) : l.take (i + 1) = l.take i ++ [x] := by
 rw [List.take_add_one, h]
 rfl
section
variable {P : Program} {w : World} {K : Fg} {mg : Str -> Option Value} {base : Heap}
def spTRow : Sp := fun vs H Q _ => ∃ (a : Addr) (n : Nat) (x : Rol.Row), vs = [.ref a, .int n] /\ H a = some (.lst (iV (tk n x))) /\ n <= 128 /\ ∀ (H' : Hp) (q : Addr), aq H H' -> H q = none -> H' q = some (.lst (iV (tk n (Rol.turned n x)))) -> Q (.ref q) H'
theorem sC : al ["row", "width", "track"] ["row", "width"] (ae dU) := ⟨rfl, rfl, rfl, by decide +kernel, rfl, by decide +kernel, by decide +kernel⟩
theorem Bd : dQ ["row", "width", "track"] (ae dU) (lcF [".0", "track"] [] ["width"]) [("track", 2)] := ⟨rfl, by decide +kernel, by decide +kernel, by decide +kernel, by decide +kernel⟩
theorem yB {f : Addr} {fd : FuncData} (F : Fun K "turned_row" "turned_row" dU f fd) (B : TB mg) : bc P w K mg base CX0 1 f fd ["row", "width"] spTRow := by
 refine F.ok sC (fun vs H Q E h => ?_) (fun cdv A outer s H vs Q E hr h => ?_)
 ·obtain ⟨_, _, _, rfl, _⟩ := h
  rfl
 ·obtain ⟨a, n, x, rfl, ha, hn, k⟩ := h
  refine ⟨_, af (au (ja rfl sC.nd (oJ (by rfl) B.rev (aa (pv 0) ac)) Bd (fun _ _ _ _ _ => aG (i := 2) sC.nd rfl (Or.inl rfl)) (fun _ _ _ _ _ => cu) (fun _ _ _ _ _ => aM dH (aM dH (pv 1) ai) (pv 2)))), ?_⟩
  refine ⟨_, rfl, a, _, rfl, SqL.of ha, fun D hD => ?_⟩
  have il : (iV (tk n x)).length = (tk n x).length := by unfold iV; rw [CP]
  have tl := kt n x
  refine AI (K := K) (a := a) (xs := iV (tk n x)) (fun i H' => aq H H' /\ H' D = some (.lst (iV (((tk n x).reverse.take i).map fun z => (n : Int) - 1 - z)))) ⟨aq.upd hD, upd_same⟩ (fun i H' _ ⟨q, _⟩ => SqL.of (q _ _ ha)) ?_ ?_
  ·rintro i v H' hi hv ⟨q, hq⟩
   rw [il] at hi hv
   unfold iV at hv
   rw [C1] at hv
   obtain ⟨z, ez, rfl⟩ := Option.map_eq_some_iff.mp hv
   have er : (tk n x).reverse[i]? = some z := by
    rw [List.getElem?_reverse hi]
    exact ez
   refine ⟨rfl, _, rfl, _, _, rfl, rfl, _, rfl, _, _, rfl, rfl, _, hq, ?_, aD q hD, ?_⟩
   ·unfold iV
    rw [CP, CP, Dn, sizeLine_eq]
    omega
   ·rw [upd_same, aR (fun z => (n : Int) - 1 - z) er]
    unfold iV
    rw [Dj]
    rfl
  ·rintro H' ⟨q, hq⟩
   rw [il, List.take_of_length_le (by rw [List.length_reverse]; exact C7 _), <- rH] at hq
   exact k H' D q hD hq
def kD (C : Addr) : Sp := fun vs H Q _ => ∃ (a : Addr) (s : Rol.Strip), vs = [.ref a] /\ aY C H a s /\ ∀ (H' : Hp) (q : Addr), aq H H' -> nI C H H' q ⟨s.wide, s.rows.map (Rol.turned s.wide)⟩ -> Q (.ref q) H'
theorem kL : al ["strip", "row"] ["strip"] (ae kR) := ⟨rfl, rfl, rfl, by decide +kernel, rfl, by decide +kernel, by decide +kernel⟩
theorem xa : dQ ["strip", "row"] (ae kR) (lcF [".0", "row"] ["turned_row"] ["strip"]) [("row", 1)] := ⟨rfl, by decide +kernel, by decide +kernel, by decide +kernel, by decide +kernel⟩
theorem tU {f C : Addr} {fd : FuncData} (F : Fun K "turned" "turned" kR f fd) (M : jC P w K mg base C) (U : ao P w K mg base "turned_row" ["row", "width"] 1 spTRow) : bc P w K mg base CX0 3 f fd ["strip"] (kD C) := by
 obtain ⟨fI, fdI, mI, bI, GI⟩ := M.ex
 obtain ⟨fU, fdU, mU, kU, bU, GU⟩ := U.ex
 have T := M.t
 refine F.ok kL (fun vs H Q E h => ?_) (fun cdv A outer s H vs Q E hr h => ?_)
 ·obtain ⟨_, _, rfl, _⟩ := h
  rfl
 ·obtain ⟨a, sp, rfl, hS, k⟩ := h
  obtain ⟨ok, dx, p, rs, h1, h2, h3⟩ := id hS
  obtain ⟨w1, w2, w3, w4⟩ := be ok
  have hr1 : bG 1 _ := hr.mono (by decide)
  refine ⟨_, af (au (fk mI GI hr rfl T.mgC bI .nil aC (aa (aI (pv 0) rfl) (aa (ja rfl kL.nd (bq (aI (pv 0) rfl)) xa (fun _ _ _ _ _ => aG (i := 1) kL.nd rfl (Or.inl rfl)) (fun _ _ _ _ _ => cu) (fun _ _ _ _ _ => aj GU hr1 (by rfl) mU kU bU .nil aC (aa (pv 1) (aa (tJ K rfl (pv 0) rfl) ac)))) ac)))), ?_⟩
  refine ⟨_, rfl, a, C, dx, _, _, rfl, h1, T.cl, T.nW, sy _ _, _, rfl, a, C, dx, _, _, rfl, h1, T.cl, T.nR, jF _ _, p, rfl, ⟨_, SqL.of h2⟩, fun D hD => ?_⟩
  refine cV (K := K) (a := p) (xs := rs.map V.ref) (fun i H' => c9 H D sp.wide ((sp.rows.take i).map (Rol.turned sp.wide)) H') (by rw [List.take_zero]; exact c9.start hD) (fun i H' _ ⟨_, _, q, _⟩ => SqL.of (q _ _ h2)) ?_ ?_
  ·rintro i v H' hv hN
   obtain ⟨r, x, rfl, e1, e2, e3⟩ := h3.item hv
   have q : aq H H' := hN.choose_spec.2.1
   refine ⟨rfl, _, rfl, _, rfl, a, C, dx, _, _, rfl, q _ _ h1, T.cl, T.nW, sy _ _, r, sp.wide, x, rfl, q _ _ e3, w2, fun H4 u s4 hu e4 => ?_⟩
   rw [aR _ e2]
   exact hN.snoc hD (by rw [CP, Dn]; omega) s4 hu e4
  ·rintro H' hN
   rw [CP, h3.length, List.take_length] at hN
   obtain ⟨rs', y1, y2, y3, y4, y5⟩ := hN
   intro x dx' nx ndx nex
   refine ⟨x, dx', D, sp.wide, rfl, upd_same, fun H4 e4 k4 => ⟨rfl, ?_⟩⟩
   have s4 : aq H' H4 := aq.made nx ndx k4
   refine k H4 x (y2.trans s4) (mD (qD w1 w2 (by rw [CP]; exact w3) fun z hz => ?_) e4 (s4 _ _ y1) (y5.same s4) (y2.free nx) hD y4)
   obtain ⟨z', _, rfl⟩ := List.mem_map.mp hz
   exact rC _ _
def spMRow : Sp := fun vs H Q _ => ∃ (a : Addr) (n : Nat) (b : Int) (x : Rol.Row), vs = [.ref a, .int b, .int n] /\ H a = some (.lst (iV (tk n x))) /\ n <= 128 /\ ∀ (H' : Hp) (q : Addr), aq H H' -> H q = none -> H' q = some (.lst (iV (tk n (Rol.moved n b x)))) -> Q (.ref q) H'
theorem sI : al ["row", "by", "width", "track"] ["row", "by", "width"] (ae fT) := ⟨rfl, rfl, rfl, by decide +kernel, rfl, by decide +kernel, by decide +kernel⟩
theorem Bf : dQ ["row", "by", "width", "track"] (ae fT) (lcF [".0", "track"] [] ["by", "width"]) [("track", 3)] := ⟨rfl, by decide +kernel, by decide +kernel, by decide +kernel, by decide +kernel⟩
theorem yK {f : Addr} {fd : FuncData} (F : Fun K "moved_row" "moved_row" fT f fd) : bc P w K mg base CX0 1 f fd ["row", "by", "width"] spMRow := by
 refine F.ok sI (fun vs H Q E h => ?_) (fun cdv A outer s H vs Q E hr h => ?_)
 ·obtain ⟨_, _, _, _, rfl, _⟩ := h
  rfl
 ·obtain ⟨a, n, b, x, rfl, ha, hn, k⟩ := h
  refine ⟨_, af (au (ja rfl sI.nd (bq (pv 0)) Bf (fun _ _ _ _ _ => aG (i := 3) sI.nd rfl (Or.inl rfl)) (fun _ _ _ _ _ => oG (fY jc tM ai (aM bj (pv 3) (pv 1)) (pv 2))) (fun _ _ _ _ _ => aM bj (pv 3) (pv 1)))), ?_⟩
  refine ⟨_, rfl, a, rfl, ⟨_, SqL.of ha⟩, fun D hD => ?_⟩
  have il : (iV (tk n x)).length = (tk n x).length := by unfold iV; rw [CP]
  have tl := kt n x
  refine cV (K := K) (a := a) (xs := iV (tk n x)) (fun i H' => aq H H' /\ H' D = some (.lst (iV ((((tk n x).take i).filter fun z => decide (0 <= z + b) && decide (z + b < n)).map fun z => z + b)))) ⟨aq.upd hD, upd_same⟩ (fun i H' _ ⟨q, _⟩ => SqL.of (q _ _ ha)) ?_ ?_
  ·rintro i v H' hv ⟨q, hq⟩
   unfold iV at hv
   rw [C1] at hv
   obtain ⟨z, ez, rfl⟩ := Option.map_eq_some_iff.mp hv
   have no : ¬ (0 <= z + b /\ z + b < n) -> aq H H' /\ H' D = some (.lst (iV ((((tk n x).take (i + 1)).filter fun z => decide (0 <= z + b) && decide (z + b < n)).map fun z => z + b))) := fun c => by
    refine ⟨q, ?_⟩
    rw [bX ez, List.filter_append, List.filter_cons, if_neg (by rw [C4, C9, C9]; exact c), List.filter_nil, Dq]
    exact hq
   refine ⟨rfl, _, rfl, _, rfl, _, _, rfl, rfl, _, _, rfl, rfl, _, rfl, ?_⟩
   by_cases c1 : 0 <= z + b
   ·rw [C0 c1]
    refine ⟨_, rfl, _, _, rfl, rfl, _, rfl, ?_⟩
    by_cases c2 : z + b < n
    ·rw [C0 c2]
     refine ⟨_, rfl, _, rfl, _, _, rfl, rfl, _, hq, ?_, aD q hD, ?_⟩
     ·unfold iV
      have := List.length_filter_le (fun z => decide (0 <= z + b) && decide (z + b < n)) ((tk n x).take i)
      rw [Dn] at this
      rw [CP, CP, sizeLine_eq]
      omega
     ·rw [upd_same, bX ez, List.filter_append, List.filter_cons, if_pos (by rw [C0 c1, C0 c2]; rfl), List.filter_nil]
      unfold iV
      rw [Dj, Dj]
      rfl
    ·rw [C6 c2]
     exact no fun h => c2 h.2
   ·rw [C6 c1]
    exact ⟨_, rfl, no fun h => c1 h.1⟩
  ·rintro H' ⟨q, hq⟩
   rw [il, List.take_length, <- vD] at hq
   exact k H' D q hD hq
def nY (C : Addr) : Sp := fun vs H Q _ => ∃ (a : Addr) (s : Rol.Strip) (b : Int), vs = [.ref a, .int b] /\ aY C H a s /\ ∀ (H' : Hp) (q : Addr), aq H H' -> nI C H H' q ⟨s.wide, s.rows.map (Rol.moved s.wide b)⟩ -> Q (.ref q) H'
theorem oo : al ["strip", "by", "row"] ["strip", "by"] (ae pI) := ⟨rfl, rfl, rfl, by decide +kernel, rfl, by decide +kernel, by decide +kernel⟩
theorem zk : dQ ["strip", "by", "row"] (ae pI) (lcF [".0", "row"] ["moved_row"] ["by", "strip"]) [("row", 2)] := ⟨rfl, by decide +kernel, by decide +kernel, by decide +kernel, by decide +kernel⟩
theorem wm {f C : Addr} {fd : FuncData} (F : Fun K "moved" "moved" pI f fd) (M : jC P w K mg base C) (U : ao P w K mg base "moved_row" ["row", "by", "width"] 1 spMRow) : bc P w K mg base CX0 3 f fd ["strip", "by"] (nY C) := by
 obtain ⟨fI, fdI, mI, bI, GI⟩ := M.ex
 obtain ⟨fU, fdU, mU, kU, bU, GU⟩ := U.ex
 have T := M.t
 refine F.ok oo (fun vs H Q E h => ?_) (fun cdv A outer s H vs Q E hr h => ?_)
 ·obtain ⟨_, _, _, rfl, _⟩ := h
  rfl
 ·obtain ⟨a, sp, b, rfl, hS, k⟩ := h
  obtain ⟨ok, dx, p, rs, h1, h2, h3⟩ := id hS
  obtain ⟨w1, w2, w3, w4⟩ := be ok
  have hr1 : bG 1 _ := hr.mono (by decide)
  refine ⟨_, af (au (fk mI GI hr rfl T.mgC bI .nil aC (aa (aI (pv 0) rfl) (aa (ja rfl oo.nd (bq (aI (pv 0) rfl)) zk (fun _ _ _ _ _ => aG (i := 2) oo.nd rfl (Or.inl rfl)) (fun _ _ _ _ _ => cu) (fun _ _ _ _ _ => aj GU hr1 (by rfl) mU kU bU .nil aC (aa (pv 2) (aa (pv 1) (aa (tJ K rfl (pv 0) rfl) ac))))) ac)))), ?_⟩
  refine ⟨_, rfl, a, C, dx, _, _, rfl, h1, T.cl, T.nW, sy _ _, _, rfl, a, C, dx, _, _, rfl, h1, T.cl, T.nR, jF _ _, p, rfl, ⟨_, SqL.of h2⟩, fun D hD => ?_⟩
  refine cV (K := K) (a := p) (xs := rs.map V.ref) (fun i H' => c9 H D sp.wide ((sp.rows.take i).map (Rol.moved sp.wide b)) H') (by rw [List.take_zero]; exact c9.start hD) (fun i H' _ ⟨_, _, q, _⟩ => SqL.of (q _ _ h2)) ?_ ?_
  ·rintro i v H' hv hN
   obtain ⟨r, x, rfl, e1, e2, e3⟩ := h3.item hv
   have q : aq H H' := hN.choose_spec.2.1
   refine ⟨rfl, _, rfl, _, rfl, _, rfl, a, C, dx, _, _, rfl, q _ _ h1, T.cl, T.nW, sy _ _, r, sp.wide, b, x, rfl, q _ _ e3, w2, fun H4 u s4 hu e4 => ?_⟩
   rw [aR _ e2]
   exact hN.snoc hD (by rw [CP, Dn]; omega) s4 hu e4
  ·rintro H' hN
   rw [CP, h3.length, List.take_length] at hN
   obtain ⟨rs', y1, y2, y3, y4, y5⟩ := hN
   intro x dx' nx ndx nex
   refine ⟨x, dx', D, sp.wide, rfl, upd_same, fun H4 e4 k4 => ⟨rfl, ?_⟩⟩
   have s4 : aq H' H4 := aq.made nx ndx k4
   refine k H4 x (y2.trans s4) (mD (qD w1 w2 (by rw [CP]; exact w3) fun z hz => ?_) e4 (s4 _ _ y1) (y5.same s4) (y2.free nx) hD y4)
   obtain ⟨z', _, rfl⟩ := List.mem_map.mp hz
   exact wE _ _ _
def rY (C : Addr) : Sp := fun vs H Q _ => ∃ (l a : Addr) (s : Rol.Strip) (i n : Nat), vs = [.ref a, .int i, .int n] /\ H l ≠ none /\ aY C (drp H l) a s /\ i + n <= s.rows.length /\ ∀ (H' : Hp) (q : Addr), aq H H' -> H q = none -> aY C (drp H' l) q ⟨s.wide, (s.rows.drop i).take n⟩ -> Q (.ref q) H'
theorem z8 : al ["strip", "first", "count"] ["strip", "first", "count"] (ae yn) := ⟨rfl, rfl, rfl, by decide +kernel, rfl, by decide +kernel, by decide +kernel⟩
theorem yJ {f C : Addr} {fd : FuncData} (F : Fun K "part" "part" yn f fd) (M : jC P w K mg base C) : bc P w K mg base CX0 3 f fd ["strip", "first", "count"] (rY C) := by
 obtain ⟨fI, fdI, mI, bI, GI⟩ := M.ex
 have T := M.t
 refine F.ok z8 (fun vs H Q E h => ?_) (fun cdv A outer s H vs Q E hr h => ?_)
 ·obtain ⟨_, _, _, _, _, rfl, _⟩ := h
  rfl
 ·obtain ⟨l, a, sp, i, n, rfl, hl, hS, hin, k⟩ := h
  obtain ⟨ok, dx, p, rs, g1, g2, g3⟩ := id hS
  have sub := lE H l
  have h1 := sub _ _ g1
  have h2 := sub _ _ g2
  obtain ⟨w1, w2, w3, w4⟩ := be ok
  refine ⟨_, af (au (fk mI GI hr rfl T.mgC bI .nil aC (aa (aI (pv 0) rfl) (aa (fZ iI (aI (pv 0) rfl) (cT (pv 1)) (cT (aM bj (pv 1) (pv 2)))) ac)))), ?_⟩
  refine ⟨_, rfl, a, C, dx, _, _, rfl, h1, T.cl, T.nW, sy _ _, _, rfl, a, C, dx, _, _, rfl, h1, T.cl, T.nR, jF _ _, _, rfl, _, rfl, _, rfl, _, rfl, _, _, rfl, rfl, _, rfl, p, _, rfl, SqL.of h2, fun D hD => ?_⟩
  have ec : o8 (rs.map V.ref) (some (i : Int)) (some ((i : Int) + n)) = ((rs.drop i).take n).map V.ref := by
   unfold o8
   rw [show ((i : Int) + n) = ((i + n : Nat) : Int) by omega, HT.sIx_nat, HT.sIx_nat]
   have l1 : (rs.map V.ref).length = sp.rows.length := by rw [CP, g3.length]
   rw [l1, Nat.min_eq_left (show i <= sp.rows.length by omega), Nat.min_eq_left hin, show i + n - i = n by omega, <- List.map_drop, <- List.map_take]
  intro x dx' nx ndx nex
  refine ⟨x, dx', D, sp.wide, rfl, upd_same, fun H4 e4 k4 => ⟨rfl, ?_⟩⟩
  have sD := aq.upd (o := .lst (o8 (rs.map V.ref) (some (i : Int)) (some ((i : Int) + n)))) hD
  have s4 : aq _ H4 := aq.made nx ndx k4
  have nDl : D ≠ l := fun z => hl (by rw [<- z]; exact hD)
  have nxl : x ≠ l := fun z => hl (by rw [<- z]; exact sD.free nx)
  refine k H4 x (sD.trans s4) (sD.free nx) ⟨qD w1 w2 (by rw [Dn, List.length_drop]; omega) fun z hz => w4 z (List.mem_of_mem_drop (List.mem_of_mem_take hz)), dx', D, (rs.drop i).take n, by rw [bo nxl]; exact e4, ?_, ?_⟩
  ·rw [bo nDl, s4 _ _ upd_same, ec]
  ·exact ((g3.drop i).take n).same (cZ (SB.of (sD.trans s4)))
def rn (n : Nat) (g : Nat -> Nat) : List Int := (List.range n).map fun t => ((g t : Nat) : Int)
theorem eG (n : Nat) (g : Nat -> Nat) : (rn n g).length = n := by unfold rn; rw [CP, List.length_range]
theorem lG {n t : Nat} (g : Nat -> Nat) (h : t < n) : (rn n g)[t]? = some ((g t : Nat) : Int) := by
 unfold rn
 rw [C1, List.getElem?_range h]
 rfl
theorem w6 {n t : Nat} (g : Nat -> Nat) (h : t < n) : (rn n g).set t (((g t : Nat) : Int) + 1) = rn n fun u => if u = t then g u + 1 else g u := by
 apply List.ext_getElem?
 intro i
 by_cases c : i < n
 ·rw [lG _ c, List.getElem?_set, eG]
  by_cases z : t = i
  ·subst z
   rw [if_pos rfl, if_pos h, if_pos rfl]
   rfl
  ·rw [if_neg z, if_neg (fun q => z q.symm), lG _ c]
 ·rw [List.getElem?_eq_none (by rw [List.length_set, eG]; omega), List.getElem?_eq_none (by rw [eG]; omega)]
def rZ (C : Addr) : Sp := fun vs H Q _ => ∃ (a : Addr) (s : Rol.Strip), vs = [.ref a] /\ aY C H a s /\ ∀ H' : Hp, aq H H' -> Q (.int ((((List.range s.wide).map (Rol.punchedBy s.rows)).foldl max 0 : Nat) : Int)) H'
theorem pG : al ["strip", "counts", "row", "track"] ["strip"] (ae cN) := ⟨rfl, rfl, rfl, by decide +kernel, rfl, by decide +kernel, by decide +kernel⟩
theorem yL {f C : Addr} {fd : FuncData} (F : Fun K "most_in_a_track" "most_in_a_track" cN f fd) (T : cn K mg C) (B : TB mg) : bc P w K mg base CX0 1 f fd ["strip"] (rZ C) := by
 refine F.ok pG (fun vs H Q E h => ?_) (fun cdv A outer s H vs Q E hr h => ?_)
 ·obtain ⟨_, _, rfl, _⟩ := h
  rfl
 ·obtain ⟨a, sp, rfl, ⟨ok, dx, p, rs, h1, h2, h3⟩, k⟩ := h
  obtain ⟨w1, w2, w3, w4⟩ := be ok
  refine ⟨_, ad (aw (i := 1) pG.nd rfl (Or.inl rfl) (aM mB (aH (aa ai ac)) (aI (pv 0) rfl)))
   (ad (ca PassesOwn.never rfl (bq (aI (pv 0) rfl)) (aG (i := 2) pG.nd rfl (Or.inl rfl))
    (af (ca PassesOwn.never rfl (bq (pv 2)) (aG (i := 3) pG.nd rfl (Or.inl rfl))
     (af (sW (pv 1) (pv 3) mN ai fz kJ)))))
   (af (au (ak (AY rfl) (by rfl) B.max Bb (aa (pv 1) ac))))), ?_⟩
  refine ⟨(by show 1 <= sizeLine; decide), fun z hz => ?_⟩
  have sz := aq.upd (o := .lst [.int 0]) hz
  refine ⟨_, rfl, a, C, dx, _, _, rfl, sz _ _ h1, T.cl, T.nW, sy _ _, z, _, _, rfl, rfl, upd_same, by omega, by omega, by rw [Int.toNat_natCast, sizeLine_eq]; show 1 * _ <= _; omega, fun q hq => ?_⟩
  have s0 := sz.trans (aq.upd (o := .lst (List.replicate (sp.wide : Int).toNat [V.int 0]).flatten) hq)
  have hq0 : H q = none := sz.free hq
  have e0 : (List.replicate (sp.wide : Int).toNat [V.int 0]).flatten = iV (rn sp.wide fun t => Rol.punchedBy (sp.rows.take 0) t) := by
   rw [Int.toNat_natCast]
   have : ∀ n : Nat, (List.replicate n [V.int 0]).flatten = iV (List.replicate n 0) := fun n => by
    induction n with
    | zero => rfl
    | succ n ih =>
     rw [List.replicate_succ, List.flatten_cons, ih, List.replicate_succ]
     rfl
   rw [this]
   congr 1
   apply List.ext_getElem?
   intro i
   rw [List.getElem?_replicate]
   by_cases c : i < sp.wide
   ·rw [if_pos c, lG _ c]
    rfl
   ·rw [if_neg c, List.getElem?_eq_none (by rw [eG]; omega)]
  refine ⟨_, rfl, a, C, dx, _, _, rfl, s0 _ _ h1, T.cl, T.nR, jF _ _, p, rfl, ⟨_, SqL.of (s0 _ _ h2)⟩, ?_⟩
  refine cY (K := K) (a := p) (xs := rs.map V.ref) (fun i σ H' => ∃ (v2 v3 : Option V), σ = [some (.ref a), some (.ref q), v2, v3] /\ aq H H' /\ H' q = some (.lst (iV (rn sp.wide fun t => Rol.punchedBy (sp.rows.take i) t))))
   ⟨none, none, rfl, s0, by rw [upd_same, e0]⟩ (fun i σ H' _ ⟨_, _, _, q1, _⟩ => SqL.of (q1 _ _ h2)) ?_ ?_
  ·rintro i v σ H' hv ⟨v2, v3, rfl, q1, q2⟩
   obtain ⟨r, x, rfl, e1, e2, e3⟩ := h3.item hv
   refine ⟨_, rfl, r, rfl, ⟨_, SqL.of (q1 _ _ e3)⟩, cY (K := K) (a := r) (xs := iV (tk sp.wide x)) (fun m σ H3 => ∃ v3 : Option V, σ = [some (.ref a), some (.ref q), some (.ref r), v3] /\ aq H H3 /\ H3 q = some (.lst (iV (rn sp.wide fun t => Rol.punchedBy (sp.rows.take i) t + if t ∈ (Rol.Row.tracks sp.wide x).take m then 1 else 0))))
    ⟨v3, rfl, q1, by rw [q2]; rfl⟩ (fun m σ H3 _ ⟨_, _, y1, _⟩ => SqL.of (y1 _ _ e3)) ?_ ?_⟩
   ·rintro m y σ H3 hy ⟨v3, rfl, y1, y2⟩
    obtain ⟨t, ht, rfl⟩ : ∃ t : Nat, (Rol.Row.tracks sp.wide x)[m]? = some t /\ y = .int t := by
     unfold iV tk at hy
     rw [C1, C1] at hy
     cases z : (Rol.Row.tracks sp.wide x)[m]? with
     | none =>
      rw [z] at hy
      cases hy
     | some t =>
      rw [z] at hy
      exact ⟨t, rfl, (C8 hy).symm⟩
    have tw := (aN.mp (List.mem_of_getElem? ht)).1
    have nt : t ∉ (Rol.Row.tracks sp.wide x).take m := fun z => by
     have nd : ((Rol.Row.tracks sp.wide x).take (m + 1)).Pairwise (· < ·) := (cH sp.wide x).sublist (List.take_sublist _ _)
     rw [bX ht] at nd
     exact absurd ((List.pairwise_append.mp nd).2.2 t z t (Db.mpr rfl)) (Nat.lt_irrefl t)
    refine ⟨_, rfl, _, rfl, q, _, t, .int (((Rol.punchedBy (sp.rows.take i) t + if t ∈ (Rol.Row.tracks sp.wide x).take m then 1 else 0 : Nat)) : Int), rfl, rfl, SqL.of y2, by unfold iV; rw [C1, lG _ tw]; rfl, _, _, rfl, rfl, q, _, _, t, rfl, rfl, y2, uB (by unfold iV; rw [CP, eG]; exact tw), ?_⟩
    refine ⟨_, rfl, aD y1 hq0, ?_⟩
    rw [upd_same]
    unfold iV
    rw [<- List.map_set, w6 _ tw]
    congr 2
    congr 1
    congr 1
    funext u
    rw [bX ht]
    by_cases c : u = t
    ·subst c
     rw [if_pos rfl, if_neg nt, if_pos (Dh.mpr (.inr (Db.mpr rfl)))]
    ·rw [if_neg c]
     congr 1
     by_cases c2 : u ∈ (Rol.Row.tracks sp.wide x).take m
     ·rw [if_pos c2, if_pos (Dh.mpr (.inl c2))]
     ·rw [if_neg c2, if_neg (fun z => (Dh.mp z).elim c2 fun z => c (Db.mp z))]
   ·rintro σ H3 ⟨v3, rfl, y1, y2⟩
    refine ⟨_, _, rfl, y1, ?_⟩
    rw [y2]
    congr 2
    unfold rn iV
    rw [List.map_map, List.map_map]
    apply List.map_congr_left
    intro t ht
    have tw := List.mem_range.mp ht
    show V.int (((Rol.punchedBy (sp.rows.take i) t + if t ∈ (Rol.Row.tracks sp.wide x).take (iV (tk sp.wide x)).length then 1 else 0 : Nat)) : Int) = V.int ((Rol.punchedBy (sp.rows.take (i + 1)) t : Nat) : Int)
    rw [bX e2, ml, show (iV (tk sp.wide x)).length = (Rol.Row.tracks sp.wide x).length by unfold iV; rw [CP, jR], List.take_length]
    by_cases c : Nat.testBit x t = true
    ·rw [if_pos (aN.mpr ⟨tw, c⟩), if_pos c]
    ·rw [if_neg (fun z => c (aN.mp z).2), if_neg c]
  ·rintro σ H' ⟨v2, v3, rfl, q1, q2⟩
   rw [CP, h3.length, List.take_length] at q2
   refine ⟨_, rfl, q, _, rfl, SqL.of q2, by rw [eG]; omega, fun m hm hy => ?_⟩
   unfold rn at hm
   obtain ⟨t, ht, rfl⟩ := List.mem_map.mp hm
   have e : (((List.range sp.wide).map (Rol.punchedBy sp.rows)).foldl max 0) = Rol.punchedBy sp.rows t := AF (List.mem_map.mpr ⟨t, ht, rfl⟩) fun y hy' => by
    obtain ⟨u, hu, rfl⟩ := List.mem_map.mp hy'
    have h9 : ((Rol.punchedBy sp.rows u : Nat) : Int) <= ((Rol.punchedBy sp.rows t : Nat) : Int) := hy _ (by unfold rn; exact List.mem_map.mpr ⟨u, hu, rfl⟩)
    omega
   have h10 := k H' q1
   rw [e] at h10
   exact h10
end
end PH
end
section
namespace PH
open PySem PySem.Spec PyProof.Rows L2 PM
structure TP (mg : Str -> Option Value) : Prop where
 zero : ∃ t, mg "END" = some (.int 0 t)
 most : ∃ t, mg "MOST_AT_ONCE" = some (.int 127 t)
 turn : ∃ t, mg "FIRST_TURN" = some (.int 128 t)
theorem lC (v : V) (n : Nat) : (List.replicate n [v]).flatten = List.replicate n v := by
 induction n with
 | zero => rfl
 | succ n ih =>
  rw [List.replicate_succ, List.flatten_cons, ih, List.replicate_succ]
  rfl
def wB (n : Nat) : List Int := List.replicate (n / 127) 127 ++ (if n % 127 = 0 then [] else [((n % 127 : Nat) : Int)])
theorem wA {n : Nat} (h : n <= 256) : (wB n).length <= 3 := by
 unfold wB
 rw [CV, List.length_replicate]
 split
 ·simp
  omega
 ·simp
  omega
section
variable {P : Program} {w : World} {K : Fg} {mg : Str -> Option Value} {base : Heap}
def spBytes : Sp := fun vs H Q _ => ∃ n : Nat, vs = [.int n] /\ n <= 256 /\ ∀ (H' : Hp) (q : Addr), aq H H' -> H q = none -> H' q = some (.lst (iV (wB n))) -> Q (.ref q) H'
theorem ou : al ["count", "rest", "whole"] ["count"] (ae dB) := ⟨rfl, rfl, rfl, by decide +kernel, rfl, by decide +kernel, by decide +kernel⟩
theorem wo {f : Addr} {fd : FuncData} (F : Fun K "bytes_of_rows" "bytes_of_rows" dB f fd) (N : TP mg) : bc P w K mg base CX0 1 f fd ["count"] spBytes := by
 obtain ⟨t1, e1⟩ := N.most
 refine F.ok ou (fun vs H Q E h => ?_) (fun cdv A outer s H vs Q E hr h => ?_)
 ·obtain ⟨_, rfl, _⟩ := h
  rfl
 ·obtain ⟨n, rfl, hn, k⟩ := h
  refine ⟨_, ad (aw (i := 1) ou.nd rfl (Or.inl rfl) (aM Au (pv 0) (ax (v := .int 127) (by rfl) e1 ⟨_, rfl⟩)))
   (ad (aw (i := 2) ou.nd rfl (Or.inl rfl) (aM mB (aH (aa (ax (v := .int 127) (by rfl) e1 ⟨_, rfl⟩) ac)) (aM fm (pv 0) (ax (v := .int 127) (by rfl) e1 ⟨_, rfl⟩))))
   (af (au (pU (aB gd (pv 1) ai (aE _)) (pv 2) (aM jd (pv 2) (aH (aa (pv 1) ac))))))), ?_⟩
  have d1 : (n : Int) % 127 = ((n % 127 : Nat) : Int) := by omega
  have d2 : (n : Int) / 127 = ((n / 127 : Nat) : Int) := by omega
  refine ⟨_, rfl, _, _, rfl, rfl, (by show (0 : Int) < 127; decide), ?_⟩
  refine ⟨(by show 1 <= sizeLine; decide), fun z hz => ?_⟩
  have sz := aq.upd (o := .lst [.int 127]) hz
  refine ⟨_, rfl, _, _, rfl, rfl, ⟨by decide, by decide⟩, z, _, _, rfl, rfl, upd_same, by omega, by omega, by rw [d2, Int.toNat_natCast, sizeLine_eq]; show 1 * _ <= _; omega, fun q hq => ?_⟩
  have sq := aq.upd (o := .lst (List.replicate ((n : Int) / 127).toNat [V.int 127]).flatten) hq
  have e0 : (List.replicate ((n : Int) / 127).toNat [V.int 127]).flatten = iV (List.replicate (n / 127) 127) := by
   rw [d2, Int.toNat_natCast, lC]
   unfold iV
   rw [List.map_replicate]
  refine ⟨_, rfl, rfl, _, rfl, ?_⟩
  refine eR (fun c => ?_) (fun c => ?_)
  ·have c' : n % 127 = 0 := by
    have := V.int.inj (Dc c)
    omega
   refine ⟨_, rfl, k _ q (sz.trans sq) (sz.free hq) ?_⟩
   rw [upd_same, e0]
   unfold wB
   rw [if_pos c', Dq]
  ·have c' : ¬ n % 127 = 0 := fun z => c (C0 (congrArg V.int (by omega)))
   refine ⟨_, rfl, _, rfl, (by show 1 <= sizeLine; decide), fun u hu => ?_⟩
   have su := aq.upd (o := .lst [.int ((n : Int) % 127)]) hu
   refine ⟨q, u, _, _, rfl, rfl, su _ _ upd_same, upd_same, ?_, fun v hv => ?_⟩
   ·rw [e0]
    unfold iV
    rw [CP, List.length_replicate, sizeLine_eq]
    show _ + 1 <= _
    omega
   ·refine k _ v (((sz.trans sq).trans su).trans (aq.upd hv)) (sz.free (sq.free (su.free hv))) ?_
    rw [upd_same, e0]
    show some (HO.lst (iV (List.replicate (n / 127) 127) ++ [V.int ((n : Int) % 127)])) = _
    rw [d1]
    unfold wB iV
    rw [if_neg c', Dj]
    rfl
def spTurns : Sp := fun vs H Q _ => ∃ (a : Addr) (bs : Rol.Bytes), vs = [.ref a] /\ H a = some (.lst (iV (bI bs))) /\ bs.length <= 70000 /\ ∀ H' : Hp, aq H H' -> Q (.int ((bs.filter fun c => decide (128 <= c.toNat)).length : Nat)) H'
theorem oj : al ["program", "byte"] ["program"] (ae dW) := ⟨rfl, rfl, rfl, by decide +kernel, rfl, by decide +kernel, by decide +kernel⟩
theorem zg : dQ ["program", "byte"] (ae dW) (lcS [".0", "byte"] ["FIRST_TURN"]) [("byte", 1)] := ⟨rfl, by decide +kernel, by decide +kernel, by decide +kernel, by decide +kernel⟩
theorem wc {f : Addr} {fd : FuncData} (F : Fun K "turn_count" "turn_count" dW f fd) (N : TP mg) (B : TB mg) : bc P w K mg base CX0 1 f fd ["program"] spTurns := by
 obtain ⟨t1, e1⟩ := N.turn
 refine F.ok oj (fun vs H Q E h => ?_) (fun cdv A outer s H vs Q E hr h => ?_)
 ·obtain ⟨_, _, rfl, _⟩ := h
  rfl
 ·obtain ⟨a, bs, rfl, ha, hb, k⟩ := h
  refine ⟨_, af (au (ak aJ (by rfl) B.len Dd (aa (ja rfl oj.nd (bq (pv 0)) zg (fun _ _ _ _ _ => aG (i := 1) oj.nd rfl (Or.inl rfl)) (fun _ _ _ _ _ => oG (aB tP (pv 1) (ax (v := .int 128) (by rfl) e1 ⟨_, rfl⟩) (aE _))) (fun _ _ _ _ _ => pv 1)) ac))), ?_⟩
  refine ⟨_, rfl, a, rfl, ⟨_, SqL.of ha⟩, fun D hD => ?_⟩
  have il : (iV (bI bs)).length = bs.length := by unfold iV; rw [CP, bt]
  refine cV (K := K) (a := a) (xs := iV (bI bs)) (fun i H' => aq H H' /\ H' D = some (.lst (iV (bI ((bs.take i).filter fun c => decide (128 <= c.toNat)))))) ⟨aq.upd hD, upd_same⟩ (fun i H' _ ⟨q, _⟩ => SqL.of (q _ _ ha)) ?_ ?_
  ·rintro i v H' hv ⟨q, hq⟩
   unfold iV bI at hv
   rw [C1, C1] at hv
   cases ez : bs[i]? with
   | none =>
    rw [ez] at hv
    cases hv
   | some z =>
    rw [ez] at hv
    obtain rfl : V.int (z.toNat : Int) = v := C8 hv
    refine ⟨rfl, _, rfl, _, _, rfl, rfl, _, rfl, ?_⟩
    refine eR (fun c => ?_) (fun c => ?_)
    ·have c' : 128 <= z.toNat := by
      have := Dc c
      omega
     refine ⟨_, rfl, _, hq, ?_, aD q hD, ?_⟩
     ·unfold iV
      have := List.length_filter_le (fun c : UInt8 => decide (128 <= c.toNat)) (bs.take i)
      rw [Dn] at this
      rw [CP, bt, sizeLine_eq]
      omega
     ·rw [upd_same, bX ez, List.filter_append, List.filter_cons, if_pos (C0 c'), List.filter_nil]
      unfold iV bI
      rw [Dj, Dj]
      rfl
    ·have c' : ¬ 128 <= z.toNat := fun y => c (C0 (by omega))
     refine ⟨q, ?_⟩
     rw [bX ez, List.filter_append, List.filter_cons, if_neg (by rw [C9]; exact c'), List.filter_nil, Dq]
     exact hq
  ·rintro H' ⟨q, hq⟩
   rw [il, List.take_length] at hq
   refine ⟨D, _, rfl, .inl (SqL.of hq), ?_⟩
   rw [show (iV (bI (bs.filter fun c => decide (128 <= c.toNat)))).length = (bs.filter fun c => decide (128 <= c.toNat)).length by unfold iV; rw [CP, bt]]
   exact k H' q
def AR : Option Nat -> V
 | none => .non
 | some k => .int (k : Int)
def spFaultP : Sp := fun vs H Q _ => ∃ (a : Addr) (bs : Rol.Bytes) (n : Nat), vs = [.int n, .ref a] /\ H a = some (.lst (iV (bI bs))) /\ ∀ H' : Hp, aq H H' -> Q (AR (cv (Rol.progIn n bs))) H'
theorem fP : al ["width", "program", "rows", "place", "byte"] ["width", "program"] (ae cM) := ⟨rfl, rfl, rfl, by decide +kernel, rfl, by decide +kernel, by decide +kernel⟩
theorem tZ {f : Addr} {fd : FuncData} (F : Fun K "program_fault" "program_fault" cM f fd) (N : TP mg) (N2 : TN mg) (B : TB mg) : bc P w K mg base CX0 1 f fd ["width", "program"] spFaultP := by
 obtain ⟨t0, e0⟩ := N.zero
 obtain ⟨t1, e1⟩ := N.most
 obtain ⟨t2, e2⟩ := N.turn
 obtain ⟨t3, e3⟩ := N2.rows
 refine F.ok fP (fun vs H Q E h => ?_) (fun cdv A outer s H vs Q E hr h => ?_)
 ·obtain ⟨_, _, _, rfl, _⟩ := h
  rfl
 ·obtain ⟨a, bs, n, rfl, ha, k⟩ := h
  refine ⟨_, ad (aw (i := 2) fP.nd rfl (Or.inl rfl) ai)
   (ad (ca PassesOwn.never rfl (oK (by rfl) B.enum (aa (pv 1) ac)) (mw rfl (bP (aG (i := 3) fP.nd rfl (Or.inl rfl)) (bP (aG (i := 4) fP.nd rfl (Or.inl rfl)) iZ)))
    (ad (bp (aB gd (pv 4) (ax (v := .int 0) (by rfl) e0 ⟨_, rfl⟩) (aE _)) (af (au (pU (aB gd (aM bj (pv 3) ai) (ak aJ (by rfl) B.len Dd (aa (pv 1) ac)) (aE _)) pT (aM bj (pv 3) ai)))) aK)
    (ad (bp (aB tP (pv 4) (aM bj (ax (v := .int 128) (by rfl) e2 ⟨_, rfl⟩) (pv 0)) (aE _)) (af (au (pv 3))) aK)
    (ad (bp (aB jc (pv 4) (ax (v := .int 127) (by rfl) e1 ⟨_, rfl⟩) (aE _)) (af (sX (i := 2) fP.nd rfl (Or.inl rfl) (pv 4) fz)) aK)
    (af (bp (aB jH (pv 2) (ax (v := .int 256) (by rfl) e3 ⟨_, rfl⟩) (aE _)) (af (au (pv 3))) aK))))))
   (af (au (ak aJ (by rfl) B.len Dd (aa (pv 1) ac))))), ?_⟩
  have il : (iV (bI bs)).length = bs.length := by unfold iV; rw [CP, bt]
  refine ⟨_, rfl, a, _, rfl, SqL.of ha, ?_⟩
  refine lB (K := K) (a := a) (xs := iV (bI bs)) (fun i σ H' => ∃ (v3 v4 : Option V) (had : Nat), σ = [some (.int n), some (.ref a), some (.int had), v3, v4] /\ aq H H' /\ had <= 256 /\ cv (Rol.progIn n bs) = cv (Rol.readProg n had i (bs.drop i)))
   ⟨none, none, 0, rfl, aq.refl H, by decide, rfl⟩ (fun i σ H' _ ⟨_, _, _, _, q1, _⟩ => SqL.of (q1 _ _ ha)) ?_ ?_
  ·rintro i v σ H' T1 hv ⟨v3, v4, had, rfl, q1, q2, q3⟩ hT
   unfold iV bI at hv
   rw [C1, C1] at hv
   cases ez : bs[i]? with
   | none =>
    rw [ez] at hv
    cases hv
   | some z =>
    rw [ez] at hv
    obtain rfl : V.int (z.toNat : Int) = v := C8 hv
    have lt : i < bs.length := (CY.mp ez).1
    rw [bO ez, qT] at q3
    have s2 : aq H' (L2.upd H' T1 (.tup [.int (i : Nat), .int (z.toNat : Int)])) := aq.upd hT
    have s3 := q1.trans s2
    have nil_iff : bs.drop (i + 1) = [] ↔ i + 1 = bs.length := by
     rw [List.drop_eq_nil_iff]
     omega
    refine ⟨T1, _, rfl, SqT.of upd_same, rfl, _, _, rfl, _, _, rfl, rfl, ?_⟩
    refine ⟨_, rfl, rfl, _, rfl, ?_⟩
    refine eR (fun c => ?_) (fun c => ?_)
    ·have c' : z.toNat = 0 := by
      have := V.int.inj (Dc c)
      omega
     rw [if_pos (gq.mpr c')] at q3
     refine ⟨_, rfl, _, _, rfl, rfl, _, rfl, a, _, rfl, .inl (SqL.of (s3 _ _ ha)), rfl, _, rfl, ?_⟩
     refine eR (fun c2 => ?_) (fun c2 => ?_)
     ·have c2' : i + 1 = bs.length := by
       have := V.int.inj (Dc c2)
       rw [il] at this
       omega
      rw [if_pos (nil_iff.mpr c2')] at q3
      rw [q3] at k
      exact k _ s3
     ·have c2' : ¬ i + 1 = bs.length := fun y => c2 (C0 (congrArg V.int (by rw [il]; omega)))
      rw [if_neg (fun y => c2' (nil_iff.mp y))] at q3
      rw [q3] at k
      exact ⟨_, rfl, _, _, rfl, rfl, k _ s3⟩
    ·have c' : ¬ z = 0 := fun y => c (C0 (congrArg V.int (by rw [gq.mp y]; rfl)))
     rw [if_neg c'] at q3
     refine ⟨_, rfl, _, rfl, _, _, rfl, rfl, _, _, rfl, rfl, _, rfl, ?_⟩
     refine eR (fun c2 => ?_) (fun c2 => ?_)
     ·have c2' : 128 + n <= z.toNat := by
       have := Dc c2
       omega
      rw [if_pos c2'] at q3
      rw [q3] at k
      exact ⟨_, rfl, k _ s3⟩
     ·have c2' : ¬ 128 + n <= z.toNat := fun y => c2 (C0 (by omega))
      rw [if_neg c2'] at q3
      refine ⟨_, rfl, _, _, rfl, rfl, _, rfl, ?_⟩
      refine eR (fun c3 => ?_) (fun c3 => ?_)
      ·have c3' : ¬ 128 <= z.toNat := by
        have := Dc c3
        omega
       rw [if_neg c3'] at q3
       refine ⟨_, rfl, _, rfl, _, _, rfl, rfl, ?_⟩
       refine ⟨_, rfl, _, _, rfl, rfl, _, rfl, ?_⟩
       refine eR (fun c4 => ?_) (fun c4 => ?_)
       ·have c4' : 256 < had + z.toNat := by
         have := Dc c4
         omega
        rw [if_pos c4'] at q3
        rw [q3] at k
        exact ⟨_, rfl, k _ s3⟩
       ·have c4' : ¬ 256 < had + z.toNat := fun y => c4 (C0 (by omega))
        rw [if_neg c4'] at q3
        exact ⟨_, _, had + z.toNat, rfl, s3, by omega, q3⟩
      ·have c3' : 128 <= z.toNat := Nat.le_of_not_lt fun y => c3 (C0 (by omega))
       rw [if_pos c3'] at q3
       refine ⟨_, rfl, _, _, rfl, rfl, _, rfl, ?_⟩
       rw [C6 (show ¬ (256 : Int) < (had : Int) by omega)]
       exact ⟨_, _, had, rfl, s3, q2, q3⟩
  ·rintro σ H' ⟨v3, v4, had, rfl, q1, q2, q3⟩
   rw [il, List.drop_length, Rol.readProg] at q3
   refine ⟨_, rfl, a, _, rfl, .inl (SqL.of (q1 _ _ ha)), ?_⟩
   rw [il]
   rw [q3] at k
   exact k _ q1
end
end PH
end
section
namespace PH
open PySem PySem.Spec PyProof.Rows L2 PM
section
variable {P : Program} {w : World} {K : Fg} {mg : Str -> Option Value} {base : Heap}
def fN (C : Addr) : Sp := fun vs H Q _ => ∃ (a : Addr) (bs : Rol.Bytes) (n : Nat) (d : List Rol.Do), vs = [.int n, .ref a] /\ H a = some (.lst (iV (bI bs))) /\ 1 <= n /\ n <= 128 /\ Rol.progIn n bs = .ok d /\ ∀ (H' : Hp) (q : Addr), aq H H' -> nI C H H' q ⟨n, Rol.made d⟩ -> Q (.ref q) H'
theorem dS : al ["width", "program", "down", "rows", "byte", "tracks", "track"] ["width", "program"] (ae bB) := ⟨rfl, rfl, rfl, by decide +kernel, rfl, by decide +kernel, by decide +kernel⟩
theorem xb : dQ ["width", "program", "down", "rows", "byte", "tracks", "track"] (ae bB) (lcF [".0", "track"] [] ["down"]) [("track", 6)] := ⟨rfl, by decide +kernel, by decide +kernel, by decide +kernel, by decide +kernel⟩
structure Pun (H H' : Hp) (n : Nat) (bs : Rol.Bytes) (d : List Rol.Do) (dn rw : Addr) (i : Nat) (x : Rol.Row) (xs : List Rol.Row) (rs : List Addr) : Prop where
 sm : aq H H'
 dnAt : H' dn = some (.lst ((ii n x).map V.bl))
 rwAt : H' rw = some (.lst (rs.map V.ref))
 lt : x < 2 ^ n
 rows : az H' n rs xs
 le : xs.length <= 256
 all : ∀ y ∈ xs, y < 2 ^ n
 new : ∀ c ∈ rs, H c = none /\ c ≠ dn /\ c ≠ rw
 left : (i = bs.length /\ Rol.made d = xs) ∨ ∃ d', Rol.readProg n xs.length i (bs.drop i) = .ok d' /\ Rol.made d = xs ++ Rol.madeFrom x d'
theorem tW {f C : Addr} {fd : FuncData} (F : Fun K "strip_of_program" "strip_of_program" bB f fd) (M : jC P w K mg base C) (N : TP mg) (B : TB mg) : bc P w K mg base CX0 3 f fd ["width", "program"] (fN C) := by
 obtain ⟨fI, fdI, mI, bnd, GI⟩ := M.ex
 have T := M.t
 obtain ⟨t0, e0⟩ := N.zero
 obtain ⟨t2, e2⟩ := N.turn
 refine F.ok dS (fun vs H Q E h => ?_) (fun cdv A outer s H vs Q E hr h => ?_)
 ·obtain ⟨_, _, _, _, rfl, _⟩ := h
  rfl
 ·obtain ⟨a, bs, n, d, rfl, ha, w1, w2, hd, k⟩ := h
  refine ⟨_, ad (aw (i := 2) dS.nd rfl (Or.inr rfl) (aM mB (aH (aa An ac)) (pv 0)))
   (ad (aw (i := 3) dS.nd rfl (Or.inl rfl) (aH ac))
   (ad (ca PassesOwn.never rfl (bq (pv 1)) (aG (i := 4) dS.nd rfl (Or.inl rfl))
    (af (bp (aB tP (pv 4) (ax (v := .int 128) (by rfl) e2 ⟨_, rfl⟩) (aE _))
     (af (Ah (xD (aL am (pv 2) (aM dH (pv 4) (ax (v := .int 128) (by rfl) e2 ⟨_, rfl⟩)) (fun _ _ => rfl))) (Al (pv 2) (aM dH (pv 4) (ax (v := .int 128) (by rfl) e2 ⟨_, rfl⟩)) kJ)))
     (af (bp (aB wb (pv 4) (ax (v := .int 0) (by rfl) e0 ⟨_, rfl⟩) (aE _))
          (ad (pN (i := 5) rfl dS.nd rfl rfl rfl (iY rfl B.range (aa (pv 0) ac)) xb (fun _ _ _ _ _ => aG (i := 6) dS.nd rfl (Or.inl rfl)) (fun _ _ _ _ _ => oG (iT (aL (am : IxR _ (B8 K)) (pv 2) (pv 6) (fun _ _ => rfl)))) (fun _ _ _ _ _ => pv 6))
          (af (bv (jb PySem.F.plainAttrs_list PySem.F.slot_list_extend PySem.F.type_list_extend dI (pv 3) (aa (aM mB (aH (aa (pv 5) ac)) (pv 4)) ac)))))
          aK)))))
   (af (au (fk mI GI hr rfl T.mgC bnd .nil aC (aa (pv 0) (aa (pv 3) ac))))))), ?_⟩
  refine ⟨(by show 1 <= sizeLine; decide), fun z hz => ?_⟩
  have sz := aq.upd (o := .lst [.bl false]) hz
  refine ⟨_, rfl, z, _, _, rfl, rfl, upd_same, by omega, by omega, by rw [Int.toNat_natCast, sizeLine_eq]; show 1 * _ <= _; omega, fun dn hdn => ?_⟩
  have s0 := aq.upd (o := .lst (List.replicate (n : Int).toNat [V.bl false]).flatten) hdn
  refine ⟨De _, fun rw_ hrw => ?_⟩
  have s1 := aq.upd (o := .lst []) hrw
  have s01 := (sz.trans s0).trans s1
  have fdn : H dn = none := sz.free hdn
  have frw : H rw_ = none := sz.free (s0.free hrw)
  have ndr : dn ≠ rw_ := ah upd_same hrw
  have il : (iV (bI bs)).length = bs.length := by unfold iV; rw [CP, bt]
  have e1 : (List.replicate (n : Int).toNat [V.bl false]).flatten = (ii n 0).map V.bl := by
   rw [Int.toNat_natCast, lC, qU, List.map_replicate]
  refine ⟨_, rfl, a, rfl, ⟨_, SqL.of (s01 _ _ ha)⟩, ?_⟩
  refine cY (K := K) (a := a) (xs := iV (bI bs)) (fun i σ H' => ∃ (v4 v5 : Option V) (x : Rol.Row) (xs : List Rol.Row) (rs : List Addr), σ = [some (.int n), some (.ref a), some (.ref dn), some (.ref rw_), v4, v5, none] /\ Pun H H' n bs d dn rw_ i x xs rs)
   ⟨none, none, 0, [], [], rfl, ⟨s01, by rw [s1 _ _ upd_same, e1], upd_same, Nat.two_pow_pos n, trivial, De _, (fun y hy => by cases hy), (fun c hc => by cases hc), .inr ⟨d, hd, rfl⟩⟩⟩ (fun i σ H' _ ⟨_, _, _, _, _, _, p⟩ => SqL.of (p.sm _ _ ha)) ?_ ?_
  ·rintro i v σ H' hv ⟨v4, v5, x, xs, rs, rfl, p⟩
   unfold iV bI at hv
   rw [C1, C1] at hv
   cases ez : bs[i]? with
   | none =>
    rw [ez] at hv
    cases hv
   | some z =>
    rw [ez] at hv
    obtain rfl : V.int (z.toNat : Int) = v := C8 hv
    have lt : i < bs.length := (CY.mp ez).1
    rcases p.left with ⟨l1, _⟩ | ⟨d', l1, l2⟩
    ·omega
    rw [bO ez] at l1
    refine ⟨_, rfl, _, _, rfl, rfl, _, rfl, ?_⟩
    rcases mq l1 with ⟨c0, r0, rfl⟩ | ⟨c1, c2, d2, l3, rfl⟩ | ⟨c1, c2, c3, d2, l3, rfl⟩
    ·rw [C6 (show ¬ (128 : Int) <= (z.toNat : Int) by omega)]
     refine ⟨_, rfl, rfl, _, rfl, ?_⟩
     rw [C0 (show V.int (z.toNat : Int) = V.int 0 by rw [c0]; rfl)]
     have end1 : i + 1 = bs.length := by
      rw [List.drop_eq_nil_iff] at r0
      omega
     refine ⟨_, _, x, xs, rs, rfl, ⟨p.sm, p.dnAt, p.rwAt, p.lt, p.rows, p.le, p.all, p.new, .inl ⟨end1, ?_⟩⟩⟩
     rw [l2]
     show xs ++ [] = xs
     rw [Dq]
    ·rw [C0 (show (128 : Int) <= (z.toNat : Int) by omega)]
     have at1 : ((ii n x).map V.bl)[z.toNat - 128]? = some (.bl (Nat.testBit x (z.toNat - 128))) := by rw [C1, iz _ c2]; rfl
     refine ⟨_, rfl, _, rfl, _, _, rfl, rfl, dn, _, _, _, rfl, rfl, SqL.of p.dnAt, aQ (j := z.toNat - 128) (by omega) at1, _, rfl, ?_⟩
     refine ⟨_, rfl, _, rfl, _, _, rfl, rfl, dn, _, _, z.toNat - 128, rfl, rfl, p.dnAt, ?_, ?_⟩
     ·rw [show (z.toNat : Int) - 128 = ((z.toNat - 128 : Nat) : Int) by omega]
      exact uB (by rw [CP, gm]; exact c2)
     ·have nr : dn ∉ rs := fun y => (p.new dn y).2.1 rfl
      refine ⟨_, _, Rol.turn x (z.toNat - 128), xs, rs, rfl, ⟨aD p.sm fdn, ?_, by rw [ag ndr.symm]; exact p.rwAt, xV p.lt c2, p.rows.off nr, p.le, p.all, p.new, .inr ⟨d2, l3, l2⟩⟩⟩
      rw [upd_same, <- qV x c2, List.map_set]
    ·rw [C6 (show ¬ (128 : Int) <= (z.toNat : Int) by omega)]
     refine ⟨_, rfl, rfl, _, rfl, ?_⟩
     rw [C6 (show ¬ V.int (z.toNat : Int) = V.int 0 from fun y => by have := V.int.inj y; omega)]
     refine ⟨_, rfl, _, rfl, by omega, by omega, fun D hD => ?_⟩
     have fD : H D = none := p.sm.free hD
     refine pY (lo := 0) (n := n) (fun j H3 => aq H' H3 /\ H3 D = some (.lst (iV (((List.range j).filter fun t => Nat.testBit x t).map fun t : Nat => (t : Int))))) ⟨aq.upd hD, upd_same⟩ ?_ ?_
     ·rintro j H3 hj ⟨y1, y2⟩
      have atj : ((ii n x).map V.bl)[j]? = some (.bl (Nat.testBit x j)) := by rw [C1, iz _ hj]; rfl
      refine ⟨rfl, _, rfl, _, rfl, dn, _, _, _, rfl, rfl, SqL.of (y1 _ _ p.dnAt), aQ (j := j) (by omega) atj, _, rfl, ?_⟩
      cases eb : Nat.testBit x j with
      | true =>
       refine ⟨_, rfl, _, y2, ?_, aD y1 hD, ?_⟩
       ·unfold iV
        have := List.length_filter_le (fun t => Nat.testBit x t) (List.range j)
        rw [List.length_range] at this
        rw [CP, CP, sizeLine_eq]
        omega
       ·rw [upd_same, List.range_succ, List.filter_append, List.filter_cons, if_pos eb, List.filter_nil]
        unfold iV
        rw [Dj, Dj, Int.zero_add]
        rfl
      | false =>
       refine ⟨y1, ?_⟩
       rw [List.range_succ, List.filter_append, List.filter_cons, if_neg (by rw [eb]; decide), List.filter_nil, Dq]
       exact y2
     rintro H3 ⟨y1, y2⟩
     rw [<- pq] at y2
     have rw3 := y1 _ _ p.rwAt
     refine ⟨_, rfl, .inl ⟨rfl, _, SqL.of rw3⟩, _, rfl, (by show 1 <= sizeLine; decide), fun u hu => ?_⟩
     have su := aq.upd (o := .lst [.ref D]) hu
     refine ⟨_, rfl, u, _, _, rfl, rfl, upd_same, by omega, by omega, by rw [Int.toNat_natCast, sizeLine_eq]; show 1 * _ <= _; omega, fun q hq => ?_⟩
     have sq := aq.upd (o := .lst (List.replicate (z.toNat : Int).toNat [V.ref D]).flatten) hq
     have e3 : (List.replicate (z.toNat : Int).toNat [V.ref D]).flatten = (List.replicate z.toNat D).map V.ref := by
      rw [Int.toNat_natCast, lC, List.map_replicate]
     have s3 := (y1.trans su).trans sq
     have X3 := p.rows.same s3
     have rl := X3.length
     refine ⟨rw_, q, _, _, rfl, rfl, sq _ _ (su _ _ rw3), upd_same, by rw [e3, CP, CP, List.length_replicate, sizeLine_eq]; omega, ?_⟩
     have nDr : D ≠ rw_ := fun y => by rw [y, p.rwAt] at hD; cases hD
     have nDd : D ≠ dn := fun y => by rw [y, p.dnAt] at hD; cases hD
     have hD3 := sq _ _ (su _ _ y2)
     have nr : rw_ ∉ rs := fun y => (p.new rw_ y).2.2 rfl
     refine ⟨_, _, x, xs ++ List.replicate z.toNat x, rs ++ List.replicate z.toNat D, rfl, ⟨aD (p.sm.trans s3) frw, by rw [ag ndr]; exact s3 _ _ p.dnAt, by rw [upd_same, e3, Dj], p.lt, ?_, by rw [CV, List.length_replicate]; omega, fun y hy => ?_, fun c hc => ?_, .inr ⟨d2, ?_, ?_⟩⟩⟩
     ·refine (X3.append (az.rep hD3 z.toNat)).off fun y => ?_
      rcases Dh.mp y with y | y
      ·exact nr y
      ·exact nDr (List.mem_replicate.mp y).2.symm
     ·rcases Dh.mp hy with y' | y'
      ·exact p.all y y'
      ·rw [(List.mem_replicate.mp y').2]
       exact p.lt
     ·rcases Dh.mp hc with y | y
      ·exact p.new c y
      ·rw [(List.mem_replicate.mp y).2]
       exact ⟨fD, nDd, nDr⟩
     ·rw [CV, List.length_replicate]
      exact l3
     ·rw [l2, Dr]
      rfl
  ·rintro σ H' ⟨v4, v5, x, xs, rs, rfl, p⟩
   rw [il] at p
   have em : Rol.made d = xs := by
    rcases p.left with ⟨_, z⟩ | ⟨d', z, _⟩
    ·exact z
    ·rw [List.drop_length] at z
     exact (pP z).elim
   refine ⟨_, rfl, _, rfl, ?_⟩
   intro y dy ny ndy ney
   refine ⟨y, dy, rw_, n, rfl, upd_same, fun H4 e4 k4 => ⟨rfl, ?_⟩⟩
   have s4 : aq H' H4 := aq.made ny ndy k4
   rw [em] at k
   exact k H4 y (p.sm.trans s4) (mD (qD w1 w2 p.le p.all) e4 (s4 _ _ p.rwAt) (p.rows.same s4) (p.sm.free ny) frw fun c hc => (p.new c hc).1)
def pB (C : Addr) : Sp := fun vs H Q _ => ∃ (a : Addr) (s : Rol.Strip), vs = [.ref a] /\ aY C H a s /\ ∀ (H' : Hp) (q : Addr), aq H H' -> H q = none -> H' q = some (.lst (iV (bI (Rol.progBytes (Rol.compile s))))) -> Q (.ref q) H'
theorem gX : al ["strip", "program", "before", "count", "tracks", "track"] ["strip"] (ae dX) := ⟨rfl, rfl, rfl, by decide +kernel, rfl, by decide +kernel, by decide +kernel⟩
theorem Be : dQ ["strip", "program", "before", "count", "tracks", "track"] (ae dX) (lcS [".0", "track"] ["FIRST_TURN"]) [("track", 5)] := ⟨rfl, by decide +kernel, by decide +kernel, by decide +kernel, by decide +kernel⟩
theorem lF {s : Rol.Strip} (ok : Rol.Strip.ok s = true) : (Rol.compile s).length <= 256 * 131 := by
 obtain ⟨w1, w2, w3, w4⟩ := be ok
 have h1 := pQ s.wide (Rol.runs s.rows) 0 fun p hp => by have := cP hp; omega
 have h2 := fW s.rows
 exact Nat.le_trans h1 (Nat.mul_le_mul (by omega) (by omega))
theorem yI {f C : Addr} {fd : FuncData} (F : Fun K "program_of" "program_of" dX f fd) (N : TP mg) (U1 : ao P w K mg base "runs_of" ["strip"] 1 (ma C)) (U2 : ao P w K mg base "unlike_tracks" ["one", "other"] 1 (ir C)) (U3 : ao P w K mg base "bytes_of_rows" ["count"] 1 spBytes) : bc P w K mg base CX0 2 f fd ["strip"] (pB C) := by
 obtain ⟨f1, fd1, m1, k1, b1, G1⟩ := U1.ex
 obtain ⟨f2, fd2, m2, k2, b2, G2⟩ := U2.ex
 obtain ⟨f3, fd3, m3, k3, b3, G3⟩ := U3.ex
 obtain ⟨t0, e0⟩ := N.zero
 obtain ⟨t2, e2⟩ := N.turn
 refine F.ok gX (fun vs H Q E h => ?_) (fun cdv A outer s H vs Q E hr h => ?_)
 ·obtain ⟨_, _, rfl, _⟩ := h
  rfl
 ·obtain ⟨a, sp, rfl, hS, k⟩ := h
  have ok := hS.1
  obtain ⟨w1, w2, w3, w4⟩ := be ok
  refine ⟨_, ad (aw (i := 1) gX.nd rfl (Or.inl rfl) (aH ac))
   (ad (aw (i := 2) gX.nd rfl (Or.inl rfl) (aH ac))
   (ad (ca PassesOwn.never rfl (bq (aj G1.hid hr rfl m1 k1 b1 .nil aC (aa (pv 0) ac))) (mw rfl (bP (aG (i := 3) gX.nd rfl (Or.inl rfl)) (bP (aG (i := 4) gX.nd rfl (Or.inl rfl)) iZ)))
    (ad (bv (jb PySem.F.plainAttrs_list PySem.F.slot_list_extend PySem.F.type_list_extend dI (pv 1) (aa (ja rfl gX.nd (bq (aj G2 hr (by rfl) m2 k2 b2 .nil aC (aa (pv 2) (aa (pv 4) ac)))) Be (fun _ _ _ _ _ => aG (i := 5) gX.nd rfl (Or.inl rfl)) (fun _ _ _ _ _ => cu) (fun _ _ _ _ _ => aM bj (ax (v := .int 128) (by rfl) e2 ⟨_, rfl⟩) (pv 5))) ac)))
    (ad (bv (jb PySem.F.plainAttrs_list PySem.F.slot_list_extend PySem.F.type_list_extend dI (pv 1) (aa (aj G3 hr (by rfl) m3 k3 b3 .nil aC (aa (pv 3) ac)) ac)))
    (af (aw (i := 2) gX.nd rfl (Or.inl rfl) (pv 4))))))
   (af (au (aM jd (pv 1) (aH (aa (ax (v := .int 0) (by rfl) e0 ⟨_, rfl⟩) ac))))))), ?_⟩
  refine ⟨De _, fun pr hpr => ?_⟩
  have s0 := aq.upd (o := .lst []) hpr
  refine ⟨De _, fun b0 hb0 => ?_⟩
  have s1 := aq.upd (o := .lst []) hb0
  have s01 := s0.trans s1
  have npb : pr ≠ b0 := ah upd_same hb0
  have g0 : (L2.upd (L2.upd H pr (.lst [])) b0 (.lst [])) pr = some (.lst []) := s1 _ _ upd_same
  have sd : aq H (drp (L2.upd (L2.upd H pr (.lst [])) b0 (.lst [])) pr) := fun c o e => by
   rw [bo (ah e hpr)]
   exact s01 c o e
  refine ⟨_, rfl, pr, [], g0, a, sp, rfl, hS.same sd, fun H1 u ts q1 q2 q3 hR q4 => ?_⟩
  have nup : u ≠ pr := ah q3 q4
  have sH1 : aq H (L2.upd H1 pr (.lst [])) := aD (sd.trans q1) hpr
  have cl := lF ok
  unfold Rol.compile at cl
  refine ⟨u, rfl, ⟨_, SqL.of (by rw [ag nup]; exact q3)⟩, ?_⟩
  refine cY (K := K) (a := u) (xs := ts.map V.ref) (fun i σ H' => ∃ (v3 v4 : Option V) (b : Addr) (x : Rol.Row) (out : List Int), σ = [some (.ref a), some (.ref pr), some (.ref b), v3, v4, none] /\ aq H H' /\ (∀ c o, c ≠ pr -> H1 c = some o -> H' c = some o) /\ b ≠ pr /\ H1 b = some (.lst (iV (tk sp.wide x))) /\ H' pr = some (.lst (iV out)) /\ out ++ (Rol.progOf sp.wide x ((Rol.runs sp.rows).drop i)).map doI = (Rol.progOf sp.wide 0 (Rol.runs sp.rows)).map doI)
   ⟨none, none, b0, 0, [], rfl, sH1, (fun c o n e => by rw [ag n]; exact e), npb.symm, ?_, upd_same, rfl⟩ (fun i σ H' _ ⟨_, _, _, _, _, _, _, z, _⟩ => SqL.of (z _ _ nup q3)) ?_ ?_
  ·rw [xW]
   exact q1 _ _ (by rw [bo npb.symm]; exact upd_same)
  ·rintro i v σ H' hv ⟨v3, v4, b, x, out, rfl, y1, y2, y3, y4, y5, y6⟩
   obtain ⟨pp, t, r, hpp, rfl, ht, hrr⟩ := hR.item hv
   have nrp : r ≠ pr := fun z => by
    rw [z, eF] at hrr
    cases hrr
   have ntp : t ≠ pr := ah ht q4
   have hr1 := q1 _ _ hrr
   have bnd := cP (List.mem_of_getElem? hpp)
   have ht' := y2 _ _ ntp ht
   have hr' := y2 _ _ nrp hr1
   have hb' := y2 _ _ y3 y4
   rw [bO hpp, sY _ _ _ _ w2] at y6
   have ul := rB sp.wide x pp.2
   have nl := wA (n := pp.1) (by omega)
   have tot : out.length + (unl sp.wide x pp.2).length + (wB pp.1).length <= 256 * 131 := by
    have e := congrArg List.length y6
    rw [CV, CV, CV, CP, CP, CP] at e
    unfold wB
    omega
   refine ⟨t, _, rfl, SqT.of ht', rfl, _, _, rfl, _, _, rfl, rfl, ?_⟩
   refine ⟨_, rfl, .inl ⟨rfl, _, SqL.of y5⟩, _, rfl, _, rfl, b, r, sp.wide, x, pp.2, rfl, w2, hb', hr', fun H2 q s2 e2' => ?_⟩
   refine ⟨q, rfl, ⟨_, SqL.of e2'⟩, fun D hD => ?_⟩
   have ll : (iV ((unl sp.wide x pp.2).map fun t : Nat => (t : Int))).length = (unl sp.wide x pp.2).length := by unfold iV; rw [CP, CP]
   refine cV (K := K) (a := q) (xs := iV ((unl sp.wide x pp.2).map fun t : Nat => (t : Int))) (fun j H3 => aq H2 H3 /\ H3 D = some (.lst (iV (((unl sp.wide x pp.2).take j).map fun t : Nat => 128 + (t : Int))))) ⟨aq.upd hD, upd_same⟩ (fun j H3 _ ⟨z, _⟩ => SqL.of (z _ _ e2')) ?_ ?_
   ·rintro j y H3 hy ⟨z1, z2⟩
    unfold iV at hy
    rw [C1, C1] at hy
    cases et : (unl sp.wide x pp.2)[j]? with
    | none =>
     rw [et] at hy
     cases hy
    | some t' =>
     rw [et] at hy
     obtain rfl : V.int (t' : Int) = y := C8 hy
     refine ⟨rfl, _, rfl, _, _, rfl, rfl, _, z2, ?_, aD z1 hD, ?_⟩
     ·unfold iV
      rw [CP, CP, Dn, sizeLine_eq]
      omega
     ·rw [upd_same, aR (fun t : Nat => 128 + (t : Int)) et]
      unfold iV
      rw [Dj]
      rfl
   ·rintro H3 ⟨z1, z2⟩
    rw [ll, List.take_length] at z2
    have s23 := s2.trans z1
    refine ⟨pr, D, _, _, rfl, rfl, s23 _ _ y5, z2, ?_, ?_⟩
    ·unfold iV
     rw [CP, CP, CP, sizeLine_eq]
     omega
    have s3 : aq H _ := aD (o := .lst (iV out ++ iV ((unl sp.wide x pp.2).map fun t : Nat => 128 + (t : Int)))) (y1.trans s23) hpr
    refine ⟨_, rfl, .inl ⟨rfl, _, SqL.of upd_same⟩, _, rfl, pp.1, rfl, by omega, fun H4 q5 s4 hq5 e5 => ?_⟩
    refine ⟨pr, q5, _, _, rfl, rfl, s4 _ _ upd_same, e5, ?_, ?_⟩
    ·rw [CV]
     unfold iV
     rw [CP, CP, CP, CP, sizeLine_eq]
     omega
    ·refine ⟨_, rfl, _, _, r, pp.2, out ++ ((unl sp.wide x pp.2).map fun t : Nat => 128 + (t : Int)) ++ wB pp.1, rfl, aD (s3.trans s4) hpr, fun c o n e => ?_, nrp, hr1, ?_, ?_⟩
     ·rw [ag n]
      exact s4 _ _ (by rw [ag n]; exact s23 _ _ (y2 c o n e))
     ·rw [upd_same]
      unfold iV
      rw [Dj, Dj]
     ·rw [<- y6]
      unfold wB
      simp only [Dr]
  ·rintro σ H' ⟨v3, v4, b, x, out, rfl, y1, y2, y3, y4, y5, y6⟩
   rw [CP, hR.length, List.drop_length] at y6
   have eo : out = (Rol.progOf sp.wide 0 (Rol.runs sp.rows)).map doI := by
    rw [<- y6]
    show out = out ++ []
    rw [Dq]
   subst eo
   refine ⟨_, rfl, (by show 1 <= sizeLine; decide), fun z hz => ?_⟩
   have sz := aq.upd (o := .lst [.int 0]) hz
   refine ⟨pr, z, _, _, rfl, rfl, sz _ _ y5, upd_same, ?_, fun q hq => ?_⟩
   ·unfold iV
    rw [CP, CP, sizeLine_eq]
    show _ + 1 <= _
    omega
   ·refine k _ q ((y1.trans sz).trans (aq.upd hq)) (y1.free (sz.free hq)) ?_
    rw [upd_same, mo]
    unfold Rol.compile iV
    rw [Dj]
    rfl
end
end PH
end
section
namespace PM
open Rol
theorem yw (s : RolANeutral.State) : ∀ cs : List RolANeutral.Call, RolANeutral.play s cs = PyFlat.played RolANeutral.step s cs := by
 intro cs
 induction cs generalizing s with
 | nil => rfl
 | cons c r ih =>
  show _ :: RolANeutral.play _ r = _ :: PyFlat.played _ _ r
  rw [ih]
theorem uP (l : List (List Int)) (n : Nat) : l.foldl (fun (n : Nat) (a : List Int) => n + RolANeutral.sizeOf a) n = n + (l.map RolANeutral.sizeOf).sum := by
 induction l generalizing n with
 | nil => rfl
 | cons a r ih => rw [List.foldl_cons, ih, List.map_cons, List.sum_cons]; omega
theorem vC (l : List (List Int)) : (PyFlat.told l).length <= (l.map RolANeutral.sizeOf).sum + 3 * l.length := by
 induction l with
 | nil => exact De _
 | cons a r ih =>
  have e : PyFlat.told (a :: r) = ((a.length : Int) :: a) ++ PyFlat.told r := rfl
  rw [e, CV, CU, List.map_cons, List.sum_cons, CU]
  have : a.length <= RolANeutral.sizeOf a + 2 := by
   unfold RolANeutral.sizeOf
   split <;> omega
  omega
def eM : List (Int × Nat × Nat × Nat) := [(1, 0, 0, 1), (2, 1, 0, 0), (3, 1, 0, 0), (4, 1, 1, 0), (5, 1, 0, 0), (6, 1, 0, 0), (7, 0, 2, 1), (8, 2, 0, 0), (9, 1, 0, 0), (10, 1, 1, 0), (11, 1, 2, 0), (12, 1, 0, 0), (13, 0, 1, 1), (14, 0, 1, 1), (15, 0, 1, 1)]
inductive cE : Int -> List Int -> List Int -> RolA.Call -> Prop
 | read (b : Bytes) : cE 1 [] (bI b) (.read b)
 | text (s : Nat) : cE 2 [(s : Int)] [] (.text s)
 | size (s : Nat) : cE 3 [(s : Int)] [] (.size s)
 | row (s i : Nat) : cE 4 [(s : Int), (i : Int)] [] (.row s i)
 | holes (s : Nat) : cE 5 [(s : Int)] [] (.holes s)
 | slots (s : Nat) : cE 6 [(s : Int)] [] (.slots s)
 | fill (w n : Nat) (L : List Slot) : cE 7 [(w : Int), (n : Int)] (flat L) (.fill w n L)
 | diff (s u : Nat) : cE 8 [(s : Int), (u : Int)] [] (.diff s u)
 | turned (s : Nat) : cE 9 [(s : Int)] [] (.turned s)
 | moved (s : Nat) (b : Int) : cE 10 [(s : Int), b] [] (.moved s b)
 | part (s i k : Nat) : cE 11 [(s : Int), (i : Int), (k : Int)] [] (.part s i k)
 | program (s : Nat) : cE 12 [(s : Int)] [] (.program s)
 | punch (w : Nat) (b : Bytes) : cE 13 [(w : Int)] (bI b) (.punch w b)
 | busy (w : Nat) (b : Bytes) : cE 14 [(w : Int)] (bI b) (.busy w b)
 | short (w : Nat) (b : Bytes) : cE 15 [(w : Int)] (bI b) (.short w b)
theorem w9 {l : List Int} (h : ∀ z ∈ l, 0 <= z /\ z <= 255) : bI (NLines.bytesOf l) = l := by
 induction l with
 | nil => rfl
 | cons z r ih =>
  have hz := h z C3
  show ((UInt8.ofNat z.toNat).toNat : Int) :: bI (NLines.bytesOf r) = _
  rw [ih fun y hy => h y (C2 _ hy), UInt8.toNat_ofNat']
  congr 1
  omega
theorem j0 {l : List Int} (h : RolANeutral.long l 66000 0 255 = true) : bI (NLines.bytesOf l) = l := by
 unfold RolANeutral.long at h
 simp only [C4, C9, List.all_eq_true] at h
 exact w9 h.2
theorem eP {z : Int} (h : RolANeutral.whole32 z = true) : ((RolANeutral.nat z : Nat) : Int) = z := by
 unfold RolANeutral.whole32 at h
 unfold RolANeutral.nat
 simp only [C4, C9] at h
 omega
theorem iW : ∀ (f : Nat) (l : List Int), l.length <= f -> l.length % 3 = 0 -> (∀ z ∈ l, 0 <= z) -> flat ((NLines.pieces 3 f l).map fun (r : List Int) => (⟨RolANeutral.nat (r.getD 0 0), RolANeutral.nat (r.getD 1 0), RolANeutral.nat (r.getD 2 0)⟩ : Slot)) = l
 | 0, l, h1, _, _ => by
  have : l = [] := List.eq_nil_of_length_eq_zero (by omega)
  subst this
  rfl
 | f + 1, l, h1, h2, h3 => by
  rw [NLines.pieces]
  match l, h1, h2, h3 with
  | [], _, _, _ => rfl
  | [a], _, h2, _ => exact absurd h2 (by simp)
  | [a, b], _, h2, _ => exact absurd h2 (by simp)
  | a :: b :: c :: r, h1, h2, h3 =>
   rw [if_neg (by simp), List.map_cons]
   have ih := iW f r (by simp at h1; omega) (by simp at h2; omega) fun z hz => h3 z (by simp [hz])
   show [(((RolANeutral.nat a : Nat)) : Int), ((RolANeutral.nat b : Nat) : Int), ((RolANeutral.nat c : Nat) : Int)] ++ flat ((NLines.pieces 3 f r).map _) = _
   rw [ih]
   have ha := h3 a (by simp)
   have hb := h3 b (by simp)
   have hc := h3 c (by simp)
   unfold RolANeutral.nat
   rw [Int.toNat_of_nonneg ha, Int.toNat_of_nonneg hb, Int.toNat_of_nonneg hc]
   rfl
theorem jA {p : Int} {r t : List Int} {n : Nat} {c : List (List Int)} (hs : PyWqazbq.shape p = some (n, 0)) (h : PyFlat.call PyWqazbq.shape (p :: r) = some (c, t)) : n <= r.length /\ c = [p :: r.take n] /\ t = r.drop n := by
 rw [PyFlat.call] at h
 simp only [hs] at h
 by_cases c1 : r.length < n
 ·rw [if_pos c1] at h
  cases h
 ·rw [if_neg c1] at h
  rw [PyFlat.rows] at h
  cases h
  exact ⟨by omega, rfl, rfl⟩
theorem km {p : Int} {r t : List Int} {n : Nat} {c : List (List Int)} (hs : PyWqazbq.shape p = some (n, 1)) (h : PyFlat.call PyWqazbq.shape (p :: r) = some (c, t)) :
  ∃ m : Nat, r[n]? = some (m : Int) /\ n + 1 + m <= r.length /\ c = [p :: r.take n, (r.drop (n + 1)).take m] /\ t = r.drop (n + 1 + m) := by
 rw [PyFlat.call] at h
 simp only [hs] at h
 by_cases c1 : r.length < n
 ·rw [if_pos c1] at h
  cases h
 ·rw [if_neg c1] at h
  rw [PyFlat.rows] at h
  cases e : r.drop n with
  | nil =>
   rw [e, PyFlat.row] at h
   cases h
  | cons z q =>
   rw [e, PyFlat.row] at h
   by_cases c2 : 0 <= z /\ z.toNat <= q.length
   ·rw [if_pos c2] at h
    dsimp only at h
    rw [PyFlat.rows] at h
    cases h
    have hz : r[n]? = some z := by
     have : (r.drop n)[0]? = some z := by rw [e]; rfl
     rw [List.getElem?_drop] at this
     exact this
    have hq : q = r.drop (n + 1) := by
     have : (r.drop n).drop 1 = q := by rw [e]; rfl
     rw [List.drop_drop] at this
     exact this.symm
    have hl : q.length = r.length - (n + 1) := by rw [hq, List.length_drop]
    have hn : n < r.length := (CY.mp hz).1
    refine ⟨z.toNat, by rw [hz, Int.toNat_of_nonneg c2.1], by omega, by rw [hq], by rw [hq, List.drop_drop]⟩
   ·rw [if_neg c2] at h
    cases h
structure Dec (p : Int) (r t : List Int) (c : List (List Int)) (a b k : Nat) (gs : List Int) (x : RolA.Call) : Prop where
 sh : eM.lookup p = some (a, b, k)
 le : a + b <= r.length
 fits : cE p (r.take (a + b)) gs x
 call : RolANeutral.callOf c = some x
 row : (k = 0 /\ gs = [] /\ t = r.drop (a + b)) ∨ (k = 1 /\ ∃ m : Nat, r[a + b]? = some (m : Int) /\ a + b + 1 + m <= r.length /\ gs = (r.drop (a + b + 1)).take m /\ t = r.drop (a + b + 1 + m))
theorem vE {r : List Int} (h : 1 <= r.length) : ∃ x q, r = x :: q /\ r.take 1 = [x] := by
 match r, h with
 | x :: q, _ => exact ⟨x, q, rfl, rfl⟩
theorem rL {r : List Int} (h : 2 <= r.length) : ∃ x y q, r = x :: y :: q /\ r.take 2 = [x, y] := by
 match r, h with
 | x :: y :: q, _ => exact ⟨x, y, q, rfl, rfl⟩
 | [x], h => simp at h
theorem zM {r : List Int} (h : 3 <= r.length) : ∃ x y z q, r = x :: y :: z :: q /\ r.take 3 = [x, y, z] := by
 match r, h with
 | x :: y :: z :: q, _ => exact ⟨x, y, z, q, rfl, rfl⟩
 | [x], h => simp at h
 | [x, y], h => simp at h
theorem iJ {p : Int} {n k : Nat} (h : PyWqazbq.shape p = some (n, k)) : p = 1 ∨ p = 2 ∨ p = 3 ∨ p = 4 ∨ p = 5 ∨ p = 6 ∨ p = 7 ∨ p = 8 ∨ p = 9 ∨ p = 10 ∨ p = 11 ∨ p = 12 ∨ p = 13 ∨ p = 14 ∨ p = 15 := by
 refine Decidable.byContradiction fun hc => ?_
 simp only [not_or] at hc
 obtain ⟨h1, h2, h3, h4, h5, h6, h7, h8, h9, h10, h11, h12, h13, h14, h15⟩ := hc
 unfold PyWqazbq.shape at h
 rw [if_neg h1, if_neg h2, if_neg h3, if_neg h4, if_neg h5, if_neg h6, if_neg h7, if_neg h8, if_neg h9, if_neg h10, if_neg h11, if_neg h12, if_neg h13, if_neg h14, if_neg h15] at h
 cases h
theorem w8 {p : Int} {r t : List Int} {c : List (List Int)} (h : PyFlat.call PyWqazbq.shape (p :: r) = some (c, t)) (ha : RolANeutral.asked1 c = true) : ∃ a b k gs x, Dec p r t c a b k gs x := by
 have hs : ∃ n k, PyWqazbq.shape p = some (n, k) := by
  rw [PyFlat.call] at h
  cases e : PyWqazbq.shape p with
  | none => simp only [e] at h; cases h
  | some y => exact ⟨y.1, y.2, rfl⟩
 obtain ⟨n, k, hs⟩ := hs
 have one : ∀ {q : Int} {f : Nat -> RolA.Call}, PyWqazbq.shape q = some (1, 0) -> p = q -> eM.lookup q = some (1, 0, 0) -> (∀ s : Int, RolANeutral.asked1 [[q, s]] = RolANeutral.whole32 s) -> (∀ s : Int, RolANeutral.callOf [[q, s]] = some (f (RolANeutral.nat s))) -> (∀ s : Nat, cE q [(s : Int)] [] (f s)) -> ∃ a b k gs x, Dec p r t c a b k gs x := by
  intro q f e1 e2 e3 e4 e5 e6
  subst e2
  obtain ⟨h1, rfl, rfl⟩ := jA e1 h
  obtain ⟨x, y, rfl, e7⟩ := vE h1
  rw [e7] at ha ⊢
  rw [e4] at ha
  refine ⟨1, 0, 0, [], _, e3, h1, ?_, e5 x, .inl ⟨rfl, rfl, rfl⟩⟩
  show cE p ((x :: y).take 1) [] _
  rw [e7, show [x] = [((RolANeutral.nat x : Nat) : Int)] by rw [eP ha]]
  exact e6 _
 have byt : ∀ {q : Int} {f : Nat -> Bytes -> RolA.Call}, PyWqazbq.shape q = some (1, 1) -> p = q -> eM.lookup q = some (0, 1, 1) -> (∀ (s : Int) (l : List Int), RolANeutral.asked1 [[q, s], l] = (RolANeutral.whole32 s && RolANeutral.long l 66000 0 255)) -> (∀ (s : Int) (l : List Int), RolANeutral.callOf [[q, s], l] = some (f (RolANeutral.nat s) (NLines.bytesOf l))) -> (∀ (s : Nat) (b : Bytes), cE q [(s : Int)] (bI b) (f s b)) -> ∃ a b k gs x, Dec p r t c a b k gs x := by
  intro q f e1 e2 e3 e4 e5 e6
  subst e2
  obtain ⟨m, h1, h2, rfl, rfl⟩ := km e1 h
  obtain ⟨x, y, rfl, e7⟩ := vE (r := r) (by omega)
  rw [e7] at ha ⊢
  rw [e4, C4] at ha
  refine ⟨0, 1, 1, _, _, e3, by omega, ?_, e5 x _, .inr ⟨rfl, m, h1, h2, rfl, rfl⟩⟩
  show cE p ((x :: y).take 1) _ _
  rw [e7, show [x] = [((RolANeutral.nat x : Nat) : Int)] by rw [eP ha.1]]
  have := e6 (RolANeutral.nat x) (NLines.bytesOf (((x :: y).drop (1 + 1)).take m))
  rw [j0 ha.2] at this
  exact this
 have two : ∀ {q : Int} {a b : Nat} {f : Nat -> Nat -> RolA.Call}, PyWqazbq.shape q = some (2, 0) -> p = q -> a + b = 2 -> eM.lookup q = some (a, b, 0) -> (∀ s u : Int, RolANeutral.asked1 [[q, s, u]] = (RolANeutral.whole32 s && RolANeutral.whole32 u)) -> (∀ s u : Int, RolANeutral.callOf [[q, s, u]] = some (f (RolANeutral.nat s) (RolANeutral.nat u))) -> (∀ s u : Nat, cE q [(s : Int), (u : Int)] [] (f s u)) -> ∃ a b k gs x, Dec p r t c a b k gs x := by
  intro q a b f e1 e2 e0 e3 e4 e5 e6
  subst e2
  obtain ⟨h1, rfl, rfl⟩ := jA e1 h
  obtain ⟨x, z, y, rfl, e7⟩ := rL h1
  rw [e7] at ha ⊢
  rw [e4, C4] at ha
  refine ⟨a, b, 0, [], _, e3, by omega, ?_, e5 x z, .inl ⟨rfl, rfl, by rw [e0]⟩⟩
  rw [e0, e7, show [x, z] = [((RolANeutral.nat x : Nat) : Int), ((RolANeutral.nat z : Nat) : Int)] by rw [eP ha.1, eP ha.2]]
  exact e6 _ _
 rcases iJ hs with e | e | e | e | e | e | e | e | e | e | e | e | e | e | e
 ·subst e
  obtain ⟨m, h1, h2, rfl, rfl⟩ := km (n := 0) rfl h
  have ha' : RolANeutral.long ((r.drop (0 + 1)).take m) 66000 0 255 = true := ha
  refine ⟨0, 0, 1, _, _, rfl, by omega, ?_, rfl, .inr ⟨rfl, m, h1, h2, rfl, rfl⟩⟩
  have := cE.read (NLines.bytesOf ((r.drop (0 + 1)).take m))
  rw [j0 ha'] at this
  exact this
 ·exact one (f := fun s => .text s) rfl e rfl (fun _ => rfl) (fun _ => rfl) cE.text
 ·exact one (f := fun s => .size s) rfl e rfl (fun _ => rfl) (fun _ => rfl) cE.size
 ·exact two (a := 1) (b := 1) (f := fun s i => .row s i) rfl e rfl rfl (fun _ _ => rfl) (fun _ _ => rfl) cE.row
 ·exact one (f := fun s => .holes s) rfl e rfl (fun _ => rfl) (fun _ => rfl) cE.holes
 ·exact one (f := fun s => .slots s) rfl e rfl (fun _ => rfl) (fun _ => rfl) cE.slots
 ·subst e
  obtain ⟨m, h1, h2, rfl, rfl⟩ := km (n := 2) rfl h
  obtain ⟨x, z, y, rfl, e7⟩ := rL (r := r) (by omega)
  rw [e7] at ha ⊢
  have ha' : (RolANeutral.whole32 x && RolANeutral.whole32 z && (((x :: z :: y).drop (2 + 1)).take m).all RolANeutral.whole32 && decide ((((x :: z :: y).drop (2 + 1)).take m).length % 3 = 0)) = true := ha
  simp only [C4, List.all_eq_true] at ha'
  obtain ⟨⟨⟨a1, a2⟩, a3⟩, a4⟩ := ha'
  refine ⟨0, 2, 1, _, _, rfl, by omega, ?_, rfl, .inr ⟨rfl, m, h1, h2, rfl, rfl⟩⟩
  show cE 7 ((x :: z :: y).take 2) _ _
  rw [e7, show [x, z] = [((RolANeutral.nat x : Nat) : Int), ((RolANeutral.nat z : Nat) : Int)] by rw [eP a1, eP a2]]
  have ef := iW _ _ (C7 _) (Dc a4) fun w hw => by
   have := a3 w hw
   unfold RolANeutral.whole32 at this
   simp only [C4, C9] at this
   exact this.1
  have := cE.fill (RolANeutral.nat x) (RolANeutral.nat z) ((NLines.inPieces 3 (((x :: z :: y).drop (2 + 1)).take m)).map fun (r : List Int) => (⟨RolANeutral.nat (r.getD 0 0), RolANeutral.nat (r.getD 1 0), RolANeutral.nat (r.getD 2 0)⟩ : Slot))
  unfold NLines.inPieces at this
  rw [ef] at this
  exact this
 ·exact two (a := 2) (b := 0) (f := fun s i => .diff s i) rfl e rfl rfl (fun _ _ => rfl) (fun _ _ => rfl) cE.diff
 ·exact one (f := fun s => .turned s) rfl e rfl (fun _ => rfl) (fun _ => rfl) cE.turned
 ·subst e
  obtain ⟨h1, rfl, rfl⟩ := jA (n := 2) rfl h
  obtain ⟨x, z, y, rfl, e7⟩ := rL h1
  rw [e7] at ha ⊢
  have ha' : (RolANeutral.whole32 x && decide (-2147483648 <= z) && decide (z <= 2147483647)) = true := ha
  simp only [C4] at ha'
  refine ⟨1, 1, 0, [], _, rfl, by omega, ?_, rfl, .inl ⟨rfl, rfl, rfl⟩⟩
  show cE 10 ((x :: z :: y).take 2) _ _
  rw [e7, show [x, z] = [((RolANeutral.nat x : Nat) : Int), z] by rw [eP ha'.1.1]]
  exact cE.moved _ _
 ·subst e
  obtain ⟨h1, rfl, rfl⟩ := jA (n := 3) rfl h
  obtain ⟨x, z, u, y, rfl, e7⟩ := zM h1
  rw [e7] at ha ⊢
  have ha' : (RolANeutral.whole32 x && RolANeutral.whole32 z && RolANeutral.whole32 u) = true := ha
  simp only [C4] at ha'
  refine ⟨1, 2, 0, [], _, rfl, by omega, ?_, rfl, .inl ⟨rfl, rfl, rfl⟩⟩
  show cE 11 ((x :: z :: u :: y).take 3) _ _
  rw [e7, show [x, z, u] = [((RolANeutral.nat x : Nat) : Int), ((RolANeutral.nat z : Nat) : Int), ((RolANeutral.nat u : Nat) : Int)] by rw [eP ha'.1.1, eP ha'.1.2, eP ha'.2]]
  exact cE.part _ _ _
 ·exact one (f := fun s => .program s) rfl e rfl (fun _ => rfl) (fun _ => rfl) cE.program
 ·exact byt (f := fun s b => .punch s b) rfl e rfl (fun _ _ => rfl) (fun _ _ => rfl) cE.punch
 ·exact byt (f := fun s b => .busy s b) rfl e rfl (fun _ _ => rfl) (fun _ _ => rfl) cE.busy
 ·exact byt (f := fun s b => .short s b) rfl e rfl (fun _ _ => rfl) (fun _ _ => rfl) cE.short
theorem kj {f : Nat} {p : Int} {r : List Int} {cs : List (List (List Int))} (h : PyFlat.calls PyWqazbq.shape f (p :: r) = some cs) : ∃ g c t cs', f = g + 1 /\ PyFlat.call PyWqazbq.shape (p :: r) = some (c, t) /\ PyFlat.calls PyWqazbq.shape g t = some cs' /\ cs = c :: cs' := by
 cases f with
 | zero => cases h
 | succ g =>
  rw [PyFlat.calls] at h
  cases e1 : PyFlat.call PyWqazbq.shape (p :: r) with
  | none => rw [e1] at h; cases h
  | some y =>
   obtain ⟨c, t⟩ := y
   rw [e1] at h
   dsimp only at h
   cases e2 : PyFlat.calls PyWqazbq.shape g t with
   | none => rw [e2] at h; cases h
   | some cs' =>
    rw [e2] at h
    cases h
    exact ⟨g, c, t, cs', rfl, rfl, e2, rfl⟩
theorem ng {f : Nat} {cs : List (List (List Int))} (h : PyFlat.calls PyWqazbq.shape f [] = some cs) : cs = [] := by
 rw [PyFlat.calls] at h
 cases h
 rfl
theorem qY {p : Int} {r t : List Int} {c : List (List Int)} (h : PyFlat.call PyWqazbq.shape (p :: r) = some (c, t)) : PyWqazbq.whole c = c := by
 have hs : ∃ n k, PyWqazbq.shape p = some (n, k) := by
  rw [PyFlat.call] at h
  cases e : PyWqazbq.shape p with
  | none => simp only [e] at h; cases h
  | some y => exact ⟨y.1, y.2, rfl⟩
 obtain ⟨n, k, hs⟩ := hs
 have one : ∀ {q : Int}, PyWqazbq.shape q = some (1, 0) -> p = q -> (∀ s : Int, PyWqazbq.whole [[q, s]] = [[q, s]]) -> PyWqazbq.whole c = c := by
  intro q e1 e2 e3
  subst e2
  obtain ⟨h1, rfl, rfl⟩ := jA e1 h
  obtain ⟨x, y, rfl, e7⟩ := vE h1
  rw [e7]
  exact e3 x
 have two : ∀ {q : Int}, PyWqazbq.shape q = some (2, 0) -> p = q -> (∀ s u : Int, PyWqazbq.whole [[q, s, u]] = [[q, s, u]]) -> PyWqazbq.whole c = c := by
  intro q e1 e2 e3
  subst e2
  obtain ⟨h1, rfl, rfl⟩ := jA e1 h
  obtain ⟨x, z, y, rfl, e7⟩ := rL h1
  rw [e7]
  exact e3 x z
 have byt : ∀ {q : Int}, PyWqazbq.shape q = some (1, 1) -> p = q -> (∀ (s : Int) (l : List Int), PyWqazbq.whole [[q, s], l] = [[q, s], l]) -> PyWqazbq.whole c = c := by
  intro q e1 e2 e3
  subst e2
  obtain ⟨m, h1, h2, rfl, rfl⟩ := km e1 h
  obtain ⟨x, y, rfl, e7⟩ := vE (r := r) (by omega)
  rw [e7]
  exact e3 x _
 rcases iJ hs with e | e | e | e | e | e | e | e | e | e | e | e | e | e | e
 ·subst e
  obtain ⟨m, h1, h2, rfl, rfl⟩ := km (n := 0) rfl h
  rfl
 ·exact one rfl e fun _ => rfl
 ·exact one rfl e fun _ => rfl
 ·exact two rfl e fun _ _ => rfl
 ·exact one rfl e fun _ => rfl
 ·exact one rfl e fun _ => rfl
 ·subst e
  obtain ⟨m, h1, h2, rfl, rfl⟩ := km (n := 2) rfl h
  obtain ⟨x, z, y, rfl, e7⟩ := rL (r := r) (by omega)
  rw [e7]
  rfl
 ·exact two rfl e fun _ _ => rfl
 ·exact one rfl e fun _ => rfl
 ·exact two rfl e fun _ _ => rfl
 ·subst e
  obtain ⟨h1, rfl, rfl⟩ := jA (n := 3) rfl h
  obtain ⟨x, z, u, y, rfl, e7⟩ := zM h1
  rw [e7]
  rfl
 ·exact one rfl e fun _ => rfl
 ·exact byt rfl e fun _ _ => rfl
 ·exact byt rfl e fun _ _ => rfl
 ·exact byt rfl e fun _ _ => rfl
theorem jz : ∀ {f : Nat} {l : List Int} {cs : List (List (List Int))}, PyFlat.calls PyWqazbq.shape f l = some cs -> cs.map PyWqazbq.whole = cs
 | f, [], cs, h => by
  have := ng h
  subst this
  rfl
 | 0, _ :: _, cs, h => by cases h
 | f + 1, p :: r, cs, h => by
  obtain ⟨g, c, t, cs', e, h1, h2, rfl⟩ := kj h
  cases e
  rw [List.map_cons, qY h1, jz h2]
theorem rF (a : List Int) (l : List (List Int)) : PyFlat.told (a :: l) = ((a.length : Int) :: a) ++ PyFlat.told l := rfl
theorem vj {l : List Int} (h : PyWqazbq.answers_asked l = true) : ∃ cs, PyFlat.calls PyWqazbq.shape l.length l = some cs /\ (∀ c ∈ cs, RolANeutral.asked1 c = true) /\ PyWqazbq.answers l = PyFlat.told (PyFlat.played RolANeutral.step RolANeutral.start cs) /\ (PyWqazbq.answers l).length <= 1001200 := by
 unfold PyWqazbq.answers_asked PyWqazbq.calls at h
 cases e : PyFlat.calls PyWqazbq.shape l.length l with
 | none => rw [e] at h; cases h
 | some cs =>
  rw [e] at h
  dsimp only at h
  have e2 : cs.map PyWqazbq.whole = cs := jz e
  rw [e2, C4] at h
  obtain ⟨h1, h2⟩ := h
  unfold RolANeutral.asked at h2
  simp only [C4, C9] at h2
  obtain ⟨⟨⟨h3, h4⟩, h5⟩, h6⟩ := h2
  have e3 : PyWqazbq.answers l = PyFlat.told (PyFlat.played RolANeutral.step RolANeutral.start cs) := by
   unfold PyWqazbq.answers PyWqazbq.calls
   rw [e]
   dsimp only
   rw [e2]
  refine ⟨cs, rfl, fun c hc => List.all_eq_true.mp h3 c hc, e3, ?_⟩
  rw [e3]
  have h7 := vC (PyFlat.played RolANeutral.step RolANeutral.start cs)
  rw [uP, yw] at h6
  have h8 : (PyFlat.played RolANeutral.step RolANeutral.start cs).length = cs.length := by
   have : ∀ (cs : List RolANeutral.Call) (s : RolANeutral.State), (PyFlat.played RolANeutral.step s cs).length = cs.length := by
    intro cs
    induction cs with
    | nil => intro s; rfl
    | cons c r ih => intro s; show _ + 1 = _ + 1; rw [ih]
   exact this _ _
  omega
end PM
end
section
namespace PH
open PySem PySem.Spec PyProof.Rows L2 PM
theorem Out.mono {C l : Addr} {H H1 : Hp} {r : List Rol.Strip × Rol.Ans} {Q : VK} (k : Out C l H r Q) (s : aq H H1) : Out C l H1 r Q := fun H' q sb ho hq e => k H' q ((SB.of s).trans sb) ho (s.free hq) e
section
variable {P : Program} {w : World} {K : Fg} {mg : Str -> Option Value} {base : Heap}
def l9 (C : Addr) : Sp := fun vs H Q _ => ∃ (l nb gv : Addr) (S : List Rol.Strip) (i : Nat) (s : Rol.Strip), vs = [.ref l, .ref nb, .ref gv] /\ cC C H l S /\ H nb = some (.lst (iV [(i : Int)])) /\ S[i]? = some s /\ Out C l H (Rol.kept S ⟨s.wide, s.rows.map (Rol.turned s.wide)⟩) Q
theorem sL : al ["strips", "numbers", "given"] ["strips", "numbers", "given"] (ae cO) := ⟨rfl, rfl, rfl, by decide +kernel, rfl, by decide +kernel, by decide +kernel⟩
theorem qF {f C : Addr} {fd : FuncData} (F : Fun K "answer_turned" "answer_turned" cO f fd) (U1 : ao P w K mg base "turned" ["strip"] 3 (kD C)) (U2 : ao P w K mg base "keep" ["strips", "strip"] 3 (gU C)) : bc P w K mg base CX0 4 f fd ["strips", "numbers", "given"] (l9 C) := by
 obtain ⟨f1, fd1, m1, k1, b1, G1⟩ := U1.ex
 obtain ⟨f2, fd2, m2, k2, b2, G2⟩ := U2.ex
 refine F.ok sL (fun vs H Q E h => ?_) (fun cdv A outer s H vs Q E hr h => ?_)
 ·obtain ⟨_, _, _, _, _, _, rfl, _⟩ := h
  rfl
 ·obtain ⟨l, nb, gv, S, i, sp, rfl, hO, hn, hi, k⟩ := h
  obtain ⟨as, a, h1, h2, h3⟩ := hO.one hi
  refine ⟨_, af (au (aj G2 hr (by rfl) m2 k2 b2 .nil aC (aa (pv 0) (aa (aj G1 hr (by rfl) m1 k1 b1 .nil aC (aa (aL am (pv 0) (aL am (pv 1) ai (fun _ _ => rfl)) (fun _ _ => rfl)) ac)) ac)))), ?_⟩
  refine ⟨_, rfl, _, rfl, _, rfl, nb, _, _, _, rfl, rfl, SqL.of hn, aQ (j := 0) rfl rfl, l, _, _, _, rfl, rfl, SqL.of h1, aQ (j := i) rfl h2, a, sp, rfl, h3, fun H1 q s1 hN => ?_⟩
  exact ⟨l, q, S, _, rfl, hO.same s1, hN.2 l hO.is, k.mono s1⟩
def pC (C : Addr) : Sp := fun vs H Q _ => ∃ (l nb gv : Addr) (S : List Rol.Strip) (i : Nat) (b : Int) (s : Rol.Strip), vs = [.ref l, .ref nb, .ref gv] /\ cC C H l S /\ H nb = some (.lst (iV [(i : Int), b])) /\ S[i]? = some s /\ Out C l H (Rol.kept S ⟨s.wide, s.rows.map (Rol.moved s.wide b)⟩) Q
theorem vS : al ["strips", "numbers", "given"] ["strips", "numbers", "given"] (ae dF) := ⟨rfl, rfl, rfl, by decide +kernel, rfl, by decide +kernel, by decide +kernel⟩
theorem uf {f C : Addr} {fd : FuncData} (F : Fun K "answer_moved" "answer_moved" dF f fd) (U1 : ao P w K mg base "moved" ["strip", "by"] 3 (nY C)) (U2 : ao P w K mg base "keep" ["strips", "strip"] 3 (gU C)) : bc P w K mg base CX0 4 f fd ["strips", "numbers", "given"] (pC C) := by
 obtain ⟨f1, fd1, m1, k1, b1, G1⟩ := U1.ex
 obtain ⟨f2, fd2, m2, k2, b2, G2⟩ := U2.ex
 refine F.ok vS (fun vs H Q E h => ?_) (fun cdv A outer s H vs Q E hr h => ?_)
 ·obtain ⟨_, _, _, _, _, _, _, rfl, _⟩ := h
  rfl
 ·obtain ⟨l, nb, gv, S, i, b, sp, rfl, hO, hn, hi, k⟩ := h
  obtain ⟨as, a, h1, h2, h3⟩ := hO.one hi
  refine ⟨_, af (au (aj G2 hr (by rfl) m2 k2 b2 .nil aC (aa (pv 0) (aa (aj G1 hr (by rfl) m1 k1 b1 .nil aC (aa (aL am (pv 0) (aL am (pv 1) ai (fun _ _ => rfl)) (fun _ _ => rfl)) (aa (aL am (pv 1) ai (fun _ _ => rfl)) ac))) ac)))), ?_⟩
  refine ⟨_, rfl, _, rfl, _, rfl, nb, _, _, _, rfl, rfl, SqL.of hn, aQ (j := 0) rfl rfl, l, _, _, _, rfl, rfl, SqL.of h1, aQ (j := i) rfl h2, _, rfl, nb, _, _, _, rfl, rfl, SqL.of hn, aQ (j := 1) rfl rfl, a, sp, b, rfl, h3, fun H1 q s1 hN => ?_⟩
  exact ⟨l, q, S, _, rfl, hO.same s1, hN.2 l hO.is, k.mono s1⟩
def yy (S : List Rol.Strip) (s : Rol.Strip) (i n : Nat) : List Rol.Strip × Rol.Ans := if s.rows.length < i + n then (S, Rol.says (-3)) else Rol.kept S ⟨s.wide, (s.rows.drop i).take n⟩
def rX (C : Addr) : Sp := fun vs H Q _ => ∃ (l nb gv : Addr) (S : List Rol.Strip) (j i n : Nat) (s : Rol.Strip), vs = [.ref l, .ref nb, .ref gv] /\ cC C H l S /\ H nb = some (.lst (iV [(j : Int), (i : Int), (n : Int)])) /\ S[j]? = some s /\ Out C l H (yy S s i n) Q
theorem kO : al ["strips", "numbers", "given", "strip", "first", "count"] ["strips", "numbers", "given"] (ae fc) := ⟨rfl, rfl, rfl, by decide +kernel, rfl, by decide +kernel, by decide +kernel⟩
theorem wu {f C : Addr} {fd : FuncData} (F : Fun K "answer_part" "answer_part" fc f fd) (T : cn K mg C) (B : TB mg) (N : TM mg) (U0 : ao P w K mg base "number_alone" ["number"] 2 spAlone) (U1 : ao P w K mg base "part" ["strip", "first", "count"] 3 (rY C)) (U2 : ao P w K mg base "keep" ["strips", "strip"] 3 (gU C)) : bc P w K mg base CX0 4 f fd ["strips", "numbers", "given"] (rX C) := by
 obtain ⟨f0, fd0, m0, k0, b0, G0⟩ := U0.ex
 obtain ⟨f1, fd1, m1, k1, b1, G1⟩ := U1.ex
 obtain ⟨f2, fd2, m2, k2, b2, G2⟩ := U2.ex
 obtain ⟨t3, e3⟩ := N.stand
 refine F.ok kO (fun vs H Q E h => ?_) (fun cdv A outer s H vs Q E hr h => ?_)
 ·obtain ⟨_, _, _, _, _, _, _, _, rfl, _⟩ := h
  rfl
 ·obtain ⟨l, nb, gv, S, j, i, n, sp, rfl, hO, hn, hi, k⟩ := h
  obtain ⟨hlen, as, hl, hst⟩ := id hO
  obtain ⟨a, ea, hSt⟩ := hst.at_ hi
  have h2 : (as.map V.ref)[j]? = some (.ref a) := by rw [C1, ea]; rfl
  obtain ⟨ok, dx, p, rs, q1, q2, q3⟩ := hSt.same (lE H l)
  have hr2 : bG 2 _ := hr.mono (by decide)
  refine ⟨_, ad (aw (i := 3) kO.nd rfl (Or.inl rfl) (aL am (pv 0) (aL am (pv 1) ai (fun _ _ => rfl)) (fun _ _ => rfl)))
   (ad (aw (i := 4) kO.nd rfl (Or.inl rfl) (aL am (pv 1) ai (fun _ _ => rfl)))
   (ad (aw (i := 5) kO.nd rfl (Or.inl rfl) (aL am (pv 1) ai (fun _ _ => rfl)))
   (ad (bp (aB jH (aM bj (pv 4) (pv 5)) (ak aJ (by rfl) B.len Dd (aa (aI (pv 3) rfl) ac)) (aE _)) (af (au (aj G0 hr2 (by rfl) m0 k0 b0 .nil aC (aa (ax (v := .int (-3)) (by rfl) e3 ⟨_, rfl⟩) ac)))) aK)
   (af (au (aj G2 hr (by rfl) m2 k2 b2 .nil aC (aa (pv 0) (aa (aj G1 hr (by rfl) m1 k1 b1 .nil aC (aa (pv 3) (aa (pv 4) (aa (pv 5) ac)))) ac)))))))), ?_⟩
  refine ⟨_, rfl, _, rfl, nb, _, _, _, rfl, rfl, SqL.of hn, aQ (j := 0) rfl rfl, l, _, _, _, rfl, rfl, SqL.of hl, aQ (j := j) rfl h2, ?_⟩
  refine ⟨_, rfl, nb, _, _, _, rfl, rfl, SqL.of hn, aQ (j := 1) rfl rfl, ?_⟩
  refine ⟨_, rfl, nb, _, _, _, rfl, rfl, SqL.of hn, aQ (j := 2) rfl rfl, ?_⟩
  refine ⟨_, rfl, _, rfl, _, _, rfl, rfl, _, rfl, a, C, dx, _, _, rfl, q1, T.cl, T.nR, jF _ _, p, _, rfl, .inl (SqL.of q2), _, _, rfl, rfl, _, rfl, ?_⟩
  have len : ((rs.map V.ref).length : Int) = (sp.rows.length : Int) := by rw [CP, q3.length]
  refine eR (fun c => ?_) (fun c => ?_)
  ·have c' : sp.rows.length < i + n := by
    have := Dc c
    omega
   unfold yy at k
   rw [if_pos c'] at k
   exact ⟨-3, rfl, fun H' q s1 hq e => k H' q (SB.of s1) (hO.same s1) hq e⟩
  ·have c' : ¬ sp.rows.length < i + n := fun z => c (C0 (by omega))
   unfold yy at k
   rw [if_neg c'] at k
   refine ⟨_, rfl, _, rfl, _, rfl, _, rfl, l, a, sp, i, n, rfl, hO.is, hSt, by omega, fun H1 q s1 hq hN => ?_⟩
   exact ⟨l, q, S, _, rfl, hO.same s1, hN, k.mono s1⟩
theorem ym : al ["strips", "numbers", "given"] ["strips", "numbers", "given"] (ae cr) := ⟨rfl, rfl, rfl, by decide +kernel, rfl, by decide +kernel, by decide +kernel⟩
theorem vg (l : List Rol.Do) : (bI (Rol.progBytes l)).length = l.length + 1 := by
 rw [mo, CV, CP]
 rfl
theorem jr (b : Rol.Bytes) : dL (Rol.writes b) = NLines.flat ((bI b).length : Int) [] (bI b) := by
 unfold dL Rol.writes
 rw [bt]
 rfl
theorem wr {f C : Addr} {fd : FuncData} (F : Fun K "answer_program" "answer_program" cr f fd) (U1 : ao P w K mg base "program_of" ["strip"] 2 (pB C)) (U2 : ao P w K mg base "counted_text" ["text"] 2 spCounted) :
  bc P w K mg base CX0 3 f fd ["strips", "numbers", "given"] (ie C (fun _ _ => True) fun s _ => Rol.writes (Rol.progBytes (Rol.compile s))) := by
 obtain ⟨f1, fd1, m1, k1, b1, G1⟩ := U1.ex
 obtain ⟨f2, fd2, m2, k2, b2, G2⟩ := U2.ex
 refine F.ok ym (fun vs H Q E h => ?_) (fun cdv A outer s H vs Q E hr h => ?_)
 ·obtain ⟨_, _, _, _, _, _, _, rfl, _⟩ := h
  rfl
 ·obtain ⟨l, nb, gv, S, i, sp, xs, rfl, hO, hn, hi, _, k⟩ := h
  obtain ⟨as, a, h1, h2, h3⟩ := hO.one hi
  refine ⟨_, af (au (aj G2 hr (by rfl) m2 k2 b2 .nil aC (aa (aj G1 hr (by rfl) m1 k1 b1 .nil aC (aa (aL am (pv 0) (aL am (pv 1) ai (fun _ _ => rfl)) (fun _ _ => rfl)) ac)) ac))), ?_⟩
  refine ⟨_, rfl, _, rfl, nb, _, _, _, rfl, rfl, SqL.of hn, aQ (j := 0) rfl rfl, l, _, _, _, rfl, rfl, SqL.of h1, aQ (j := i) rfl h2, a, sp, rfl, h3, fun H1 q s1 hq e1 => ?_⟩
  have cl := lF h3.1
  refine ⟨q, _, rfl, e1, by rw [vg, sizeLine_eq]; omega, fun H2 u s3 hu e3 => ?_⟩
  have s13 := s1.trans s3
  exact k H2 u (SB.of s13) (hO.same s13) (s1.free hu) (by rw [jr]; exact e3)
def gC (C : Addr) (f : List Rol.Strip -> Nat -> Rol.Bytes -> List Rol.Do -> List Rol.Strip × Rol.Ans) : Sp := fun vs H Q _ => ∃ (l nb gv : Addr) (S : List Rol.Strip) (n : Nat) (bs : Rol.Bytes) (d : List Rol.Do), vs = [.ref l, .ref nb, .ref gv] /\ cC C H l S /\ H nb = some (.lst (iV [(n : Int)])) /\ H gv = some (.lst (iV (bI bs))) /\ bs.length <= 70000 /\ 1 <= n /\ n <= 128 /\ Rol.progIn n bs = .ok d /\ Out C l H (f S n bs d) Q
theorem vR : al ["strips", "numbers", "given"] ["strips", "numbers", "given"] (ae dE) := ⟨rfl, rfl, rfl, by decide +kernel, rfl, by decide +kernel, by decide +kernel⟩
theorem ue {f C : Addr} {fd : FuncData} (F : Fun K "answer_punch" "answer_punch" dE f fd) (U1 : ao P w K mg base "strip_of_program" ["width", "program"] 3 (fN C)) (U2 : ao P w K mg base "keep" ["strips", "strip"] 3 (gU C)) :
  bc P w K mg base CX0 4 f fd ["strips", "numbers", "given"] (gC C fun S n _ d => Rol.kept S ⟨n, Rol.made d⟩) := by
 obtain ⟨f1, fd1, m1, k1, b1, G1⟩ := U1.ex
 obtain ⟨f2, fd2, m2, k2, b2, G2⟩ := U2.ex
 refine F.ok vR (fun vs H Q E h => ?_) (fun cdv A outer s H vs Q E hr h => ?_)
 ·obtain ⟨_, _, _, _, _, _, _, rfl, _⟩ := h
  rfl
 ·obtain ⟨l, nb, gv, S, n, bs, d, rfl, hO, hn, hG, hb, w1, w2, hd, k⟩ := h
  refine ⟨_, af (au (aj G2 hr (by rfl) m2 k2 b2 .nil aC (aa (pv 0) (aa (aj G1 hr (by rfl) m1 k1 b1 .nil aC (aa (aL am (pv 1) ai (fun _ _ => rfl)) (aa (pv 2) ac))) ac)))), ?_⟩
  refine ⟨_, rfl, _, rfl, nb, _, _, _, rfl, rfl, SqL.of hn, aQ (j := 0) rfl rfl, _, rfl, gv, bs, n, d, rfl, hG, w1, w2, hd, fun H1 q s1 hN => ?_⟩
  exact ⟨l, q, S, _, rfl, hO.same s1, hN.2 l hO.is, k.mono s1⟩
theorem vQ : al ["strips", "numbers", "given"] ["strips", "numbers", "given"] (ae dD) := ⟨rfl, rfl, rfl, by decide +kernel, rfl, by decide +kernel, by decide +kernel⟩
theorem nI.here {C : Addr} {H H' : Hp} {a l : Addr} {s : Rol.Strip} (h : nI C H H' a s) (hl : H l ≠ none) : aY C H' a s := (h.2 l hl).same (lE H' l)
theorem ud {f C : Addr} {fd : FuncData} (F : Fun K "answer_short" "answer_short" dD f fd) (U1 : ao P w K mg base "strip_of_program" ["width", "program"] 3 (fN C)) (U2 : ao P w K mg base "program_of" ["strip"] 2 (pB C)) (U3 : ao P w K mg base "counted_text" ["text"] 2 spCounted) :
  bc P w K mg base CX0 4 f fd ["strips", "numbers", "given"] (gC C fun S n _ d => (S, Rol.writes (Rol.progBytes (Rol.compile ⟨n, Rol.made d⟩)))) := by
 obtain ⟨f1, fd1, m1, k1, b1, G1⟩ := U1.ex
 obtain ⟨f2, fd2, m2, k2, b2, G2⟩ := U2.ex
 obtain ⟨f3, fd3, m3, k3, b3, G3⟩ := U3.ex
 refine F.ok vQ (fun vs H Q E h => ?_) (fun cdv A outer s H vs Q E hr h => ?_)
 ·obtain ⟨_, _, _, _, _, _, _, rfl, _⟩ := h
  rfl
 ·obtain ⟨l, nb, gv, S, n, bs, d, rfl, hO, hn, hG, hb, w1, w2, hd, k⟩ := h
  have hr2 : bG 2 _ := hr.mono (by decide)
  refine ⟨_, af (au (aj G3 hr2 (by rfl) m3 k3 b3 .nil aC (aa (aj G2 hr2 (by rfl) m2 k2 b2 .nil aC (aa (aj G1 hr (by rfl) m1 k1 b1 .nil aC (aa (aL am (pv 1) ai (fun _ _ => rfl)) (aa (pv 2) ac))) ac)) ac))), ?_⟩
  refine ⟨_, rfl, nb, _, _, _, rfl, rfl, SqL.of hn, aQ (j := 0) rfl rfl, _, rfl, gv, bs, n, d, rfl, hG, w1, w2, hd, fun H1 q s1 hN => ?_⟩
  have hS := hN.here hO.is
  refine ⟨q, _, rfl, hS, fun H2 u s2 hu e2 => ?_⟩
  have cl := lF hS.1
  refine ⟨u, _, rfl, e2, by rw [vg, sizeLine_eq]; omega, fun H3 z s3 hz e3 => ?_⟩
  have s13 := (s1.trans s2).trans s3
  exact k H3 z (SB.of s13) (hO.same s13) (s1.free (s2.free hz)) (by rw [jr]; exact e3)
theorem sM : al ["strips", "numbers", "given", "strip"] ["strips", "numbers", "given"] (ae fj) := ⟨rfl, rfl, rfl, by decide +kernel, rfl, by decide +kernel, by decide +kernel⟩
theorem wz {f C : Addr} {fd : FuncData} (F : Fun K "answer_busy" "answer_busy" fj f fd) (T : cn K mg C) (B : TB mg) (U1 : ao P w K mg base "strip_of_program" ["width", "program"] 3 (fN C)) (U2 : ao P w K mg base "hole_count" ["strip"] 1 (kF C)) (U3 : ao P w K mg base "turn_count" ["program"] 1 spTurns) (U4 : ao P w K mg base "most_in_a_track" ["strip"] 1 (rZ C)) (U5 : cg P w K mg base "answer" ["number", "numbers", "text"] 1 spAns) :
  bc P w K mg base CX0 4 f fd ["strips", "numbers", "given"] (gC C fun S n _ d => (S, Rol.tells 0 [(Rol.made d).length, Rol.Strip.holes ⟨n, Rol.made d⟩, Rol.turnsIn d, ((List.range n).map (Rol.punchedBy (Rol.made d))).foldl max 0])) := by
 obtain ⟨f1, fd1, m1, k1, b1, G1⟩ := U1.ex
 obtain ⟨f2, fd2, m2, k2, b2, G2⟩ := U2.ex
 obtain ⟨f3, fd3, m3, k3, b3, G3⟩ := U3.ex
 obtain ⟨f4, fd4, m4, k4, b4, G4⟩ := U4.ex
 obtain ⟨f5, fd5, m5, k5, b5, G5⟩ := U5.ex
 refine F.ok sM (fun vs H Q E h => ?_) (fun cdv A outer s H vs Q E hr h => ?_)
 ·obtain ⟨_, _, _, _, _, _, _, rfl, _⟩ := h
  rfl
 ·obtain ⟨l, nb, gv, S, n, bs, d, rfl, hO, hn, hG, hb, w1, w2, hd, k⟩ := h
  have hr1 : bG 1 _ := hr.mono (by decide)
  refine ⟨_, ad (aw (i := 3) sM.nd rfl (Or.inl rfl) (aj G1 hr (by rfl) m1 k1 b1 .nil aC (aa (aL am (pv 1) ai (fun _ _ => rfl)) (aa (pv 2) ac))))
   (af (au (aj G5.ok hr1 (by rfl) m5 k5 b5 .nil aC (aa ai (aa (aH (aa (ak aJ (by rfl) B.len Dd (aa (aI (pv 3) rfl) ac)) (aa (aj G2 hr1 (by rfl) m2 k2 b2 .nil aC (aa (pv 3) ac)) (aa (aj G3 hr1 (by rfl) m3 k3 b3 .nil aC (aa (pv 2) ac)) (aa (aj G4 hr1 (by rfl) m4 k4 b4 .nil aC (aa (pv 3) ac)) ac))))) (aa (aH ac) ac)))))), ?_⟩
  refine ⟨_, rfl, nb, _, _, _, rfl, rfl, SqL.of hn, aQ (j := 0) rfl rfl, _, rfl, gv, bs, n, d, rfl, hG, w1, w2, hd, fun H1 q s1 hN => ?_⟩
  have hS := hN.here hO.is
  obtain ⟨ok, dx, p, rs, q1, q2, q3⟩ := id hS
  refine ⟨_, rfl, q, C, dx, _, _, rfl, q1, T.cl, T.nR, jF _ _, p, _, rfl, .inl (SqL.of q2), _, rfl, q, _, rfl, hS, fun H2 s2 => ?_⟩
  refine ⟨_, rfl, gv, bs, rfl, s2 _ _ (s1 _ _ hG), hb, fun H3 s3 => ?_⟩
  refine ⟨_, rfl, q, _, rfl, hS.same (s2.trans s3), fun H4 s4 => ?_⟩
  rw [eU hd]
  refine ⟨(by show 4 <= sizeLine; decide), fun p1 hp1 => ⟨De _, fun p2 hp2 => ?_⟩⟩
  have s14 := (s1.trans s2).trans (s3.trans s4)
  have z1 := aq.upd (o := .lst [.int ((rs.map V.ref).length : Int), .int ((Rol.Strip.holes ⟨n, Rol.made d⟩ : Nat) : Int), .int ((Rol.turnsIn d : Nat) : Int), .int ((((List.range n).map (Rol.punchedBy (Rol.made d))).foldl max 0 : Nat) : Int)]) hp1
  have z2 := aq.upd (o := .lst []) hp2
  have z12 := (s14.trans z1).trans z2
  refine ⟨0, p1, p2, [((Rol.made d).length : Int), ((Rol.Strip.holes ⟨n, Rol.made d⟩ : Nat) : Int), ((Rol.turnsIn d : Nat) : Int), ((((List.range n).map (Rol.punchedBy (Rol.made d))).foldl max 0 : Nat) : Int)], [], rfl, ?_, upd_same, (by show 7 <= sizeLine; decide), fun H5 z s5 hz e5 => k H5 z (SB.of (z12.trans s5)) (hO.same (z12.trans s5)) (z12.free hz) e5⟩
  rw [z2 _ _ upd_same, CP, q3.length]
  rfl
def oE (n : Nat) (bs : Rol.Bytes) : Option Rol.Ans := if Rol.widthOk n = false then some (Rol.says (-1)) else if Rol.TEXT < bs.length then some (Rol.says (-2)) else (cv (Rol.progIn n bs)).map fun k => Rol.tells (-6) [k]
def spRefuse : Sp := fun vs H Q _ => ∃ (gv : Addr) (bs : Rol.Bytes) (n : Nat), vs = [.int n, .ref gv] /\ H gv = some (.lst (iV (bI bs))) /\ (∀ x, oE n bs = some x -> ∀ (H' : Hp) (q : Addr), aq H H' -> H q = none -> H' q = some (.lst (iV (dL x))) -> Q (.ref q) H') /\ (oE n bs = none -> ∀ H' : Hp, aq H H' -> Q .non H')
theorem pF : al ["width", "program", "place"] ["width", "program"] (ae bH) := ⟨rfl, rfl, rfl, by decide +kernel, rfl, by decide +kernel, by decide +kernel⟩
theorem tX {f : Addr} {fd : FuncData} (F : Fun K "refusal_of_program" "refusal_of_program" bH f fd) (B : TB mg) (N : TM mg) (N2 : TN mg) (U1 : ao P w K mg base "number_alone" ["number"] 2 spAlone) (U2 : cg P w K mg base "answer" ["number", "numbers", "text"] 1 spAns) (U3 : ao P w K mg base "program_fault" ["width", "program"] 1 spFaultP) : bc P w K mg base CX0 3 f fd ["width", "program"] spRefuse := by
 obtain ⟨f1, fd1, m1, k1, b1, G1⟩ := U1.ex
 obtain ⟨f2, fd2, m2, k2, b2, G2⟩ := U2.ex
 obtain ⟨f3, fd3, m3, k3, b3, G3⟩ := U3.ex
 obtain ⟨t1, e1⟩ := N.out
 obtain ⟨t2, e2⟩ := N.long
 obtain ⟨t3, e3⟩ := N.bytes
 obtain ⟨t4, e4⟩ := N2.width
 obtain ⟨t5, e5⟩ := N.fault
 refine F.ok pF (fun vs H Q E h => ?_) (fun cdv A outer s H vs Q E hr h => ?_)
 ·obtain ⟨_, _, _, rfl, _⟩ := h
  rfl
 ·obtain ⟨gv, bs, n, rfl, hG, kN, kY⟩ := h
  have hr1 : bG 1 _ := hr.mono (by decide)
  refine ⟨_, ad (bp (g8 (fY jc jc ai (pv 0) (ax (v := .int 128) (by rfl) e4 ⟨_, rfl⟩))) (af (au (aj G1 hr (by rfl) m1 k1 b1 .nil aC (aa (ax (v := .int (-1)) (by rfl) e1 ⟨_, rfl⟩) ac)))) aK)
   (ad (bp (aB jH (ak aJ (by rfl) B.len Dd (aa (pv 1) ac)) (ax (v := .int 65536) (by rfl) e3 ⟨_, rfl⟩) (aE _)) (af (au (aj G1 hr (by rfl) m1 k1 b1 .nil aC (aa (ax (v := .int (-2)) (by rfl) e2 ⟨_, rfl⟩) ac)))) aK)
   (ad (aw (i := 2) pF.nd rfl (Or.inl rfl) (aj G3 hr1 (by rfl) m3 k3 b3 .nil aC (aa (pv 0) (aa (pv 1) ac))))
   (ad (bp (aB tL (pv 2) pT (aE _)) (af (au (aj G2.ok hr1 (by rfl) m2 k2 b2 .nil aC (aa (ax (v := .int (-6)) (by rfl) e5 ⟨_, rfl⟩) (aa (aH (aa (pv 2) ac)) (aa (aH ac) ac)))))) aK)
   (af (au pT))))), ?_⟩
  have il : (iV (bI bs)).length = bs.length := by unfold iV; rw [CP, bt]
  have wk : Rol.widthOk n = (decide (1 <= n) && decide (n <= 128)) := rfl
  refine ⟨_, rfl, _, _, rfl, rfl, _, rfl, ?_⟩
  by_cases c1 : (1 : Int) <= n
  ·rw [C0 c1]
   refine ⟨_, _, rfl, rfl, _, rfl, ?_⟩
   by_cases c2 : (n : Int) <= 128
   ·rw [C0 c2]
    have wt : ¬ Rol.widthOk n = false := by
     rw [wk, C0 (show 1 <= n by omega), C0 (show n <= 128 by omega)]
     decide
    refine ⟨_, rfl, gv, _, rfl, .inl (SqL.of hG), _, _, rfl, rfl, _, rfl, ?_⟩
    rw [il]
    unfold oE at kN kY
    rw [if_neg wt] at kN kY
    by_cases c3 : (65536 : Int) < bs.length
    ·rw [C0 c3]
     rw [if_pos (show Rol.TEXT < bs.length by unfold Rol.TEXT; omega)] at kN
     exact ⟨-2, rfl, fun H' q s1 hq e => kN _ rfl H' q s1 hq e⟩
    ·rw [C6 c3]
     have c3' : ¬ Rol.TEXT < bs.length := by unfold Rol.TEXT; omega
     rw [if_neg c3'] at kN kY
     refine ⟨_, rfl, _, rfl, gv, bs, n, rfl, hG, fun H1 s1 => ?_⟩
     cases ef : cv (Rol.progIn n bs) with
     | none =>
      rw [ef] at kY
      exact ⟨_, rfl, rfl, _, rfl, kY rfl H1 s1⟩
     | some m =>
      rw [ef] at kN
      refine ⟨_, rfl, rfl, _, rfl, ?_⟩
      refine ⟨_, rfl, (by show 1 <= sizeLine; decide), fun p1 h1 => ⟨De _, fun p2 h2 => ?_⟩⟩
      have s2 := aq.upd (o := .lst [.int (m : Int)]) h1
      have s3 := aq.upd (o := .lst []) h2
      have s13 := (s1.trans s2).trans s3
      exact ⟨-6, p1, p2, [(m : Int)], [], rfl, s3 _ _ upd_same, upd_same, (by show 4 <= sizeLine; decide), fun H2 q s4 hq e => kN _ rfl H2 q (s13.trans s4) (s13.free hq) e⟩
   ·rw [C6 c2]
    refine ⟨-1, rfl, fun H' q s1 hq e => kN (Rol.says (-1)) ?_ H' q s1 hq e⟩
    unfold oE
    rw [if_pos (by rw [wk, C6 (show ¬ n <= 128 by omega), Bool.and_false])]
  ·rw [C6 c1]
   refine ⟨_, rfl, -1, rfl, fun H' q s1 hq e => kN (Rol.says (-1)) ?_ H' q s1 hq e⟩
   unfold oE
   rw [if_pos (by rw [wk, C6 (show ¬ 1 <= n by omega), Bool.false_and])]
end
end PH
end
section
namespace PH
open PySem PySem.Spec PyProof.Rows L2 PM
abbrev psA : List Str := ["strips", "numbers", "given"]
structure BW (K : Fg) (mg : Str -> Option Value) : Prop where
 sh : ∃ (aS : Addr) (rows : List (Int × Value)), mg "SHAPES" = some (.ref aS) /\ kC K aS = some rows /\ ∀ (p : Int) (a b k : Nat), eM.lookup p = some (a, b, k) -> ∃ t : Addr, rows.lookup p = some (.ref t) /\ ∀ H : Hp, SqT K H t [.int a, .int b, .int k]
 pr : ∃ aO : Addr, mg "OF_PROGRAMS" = some (.ref aO) /\ ∀ H : Hp, SqT K H aO [.int 13, .int 14, .int 15]
def Ans (P : Program) (w : World) (K : Fg) (mg : Str -> Option Value) (base : Heap) (rows : List (Int × Value)) (p : Int) (sp : Sp) : Prop := ∃ (f : Addr) (fd : FuncData), rows.lookup p = some (.ref f) /\ PySem.W.keepIn K (.ref f) = true /\ ci K fd psA [] /\ bc P w K mg base CX0 7 f fd psA sp
structure B9 (P : Program) (w : World) (K : Fg) (mg : Str -> Option Value) (base : Heap) (C : Addr) : Prop where
 ex : ∃ (aA : Addr) (rows : List (Int × Value)), mg "ANSWERERS" = some (.ref aA) /\ kC K aA = some rows /\ Ans P w K mg base rows 1 (xr C) /\ Ans P w K mg base rows 2 (ie C (fun _ _ => True) fun s _ => Rol.writes s.text) /\
  Ans P w K mg base rows 3 (ie C (fun _ _ => True) fun s _ => Rol.tells 0 [s.wide, s.rows.length, (Rol.runs s.rows).length]) /\
  Ans P w K mg base rows 4 (ie C (fun _ xs => ∃ j : Nat, xs = [(j : Int)]) fun s xs => match s.rows[(xs.headD 0).toNat]? with
   | none => Rol.says (-4)
   | some r => Rol.tells ((Rol.Row.tracks s.wide r).length : Int) (Rol.Row.tracks s.wide r)) /\
  Ans P w K mg base rows 5 (ie C (fun _ _ => True) fun s _ => Rol.says (s.holes : Int)) /\ Ans P w K mg base rows 6 (ie C (fun _ _ => True) fun s _ => Rol.tells (s.slots.length : Int) (s.slots.flatMap Rol.slotRow)) /\
  Ans P w K mg base rows 7 (r8 C) /\ Ans P w K mg base rows 8 (sg C) /\ Ans P w K mg base rows 9 (l9 C) /\ Ans P w K mg base rows 10 (pC C) /\ Ans P w K mg base rows 11 (rX C) /\
  Ans P w K mg base rows 12 (ie C (fun _ _ => True) fun s _ => Rol.writes (Rol.progBytes (Rol.compile s))) /\ Ans P w K mg base rows 13 (gC C fun S n _ d => Rol.kept S ⟨n, Rol.made d⟩) /\
  Ans P w K mg base rows 14 (gC C fun S n _ d => (S, Rol.tells 0 [(Rol.made d).length, Rol.Strip.holes ⟨n, Rol.made d⟩, Rol.turnsIn d, ((List.range n).map (Rol.punchedBy (Rol.made d))).foldl max 0])) /\
  Ans P w K mg base rows 15 (gC C fun S n _ d => (S, Rol.writes (Rol.progBytes (Rol.compile ⟨n, Rol.made d⟩))))
theorem iQ {n : Nat} {bs : Rol.Bytes} (h : oE n bs = none) : 1 <= n /\ n <= 128 /\ ∃ d, Rol.progIn n bs = .ok d := by
 unfold oE at h
 by_cases c1 : Rol.widthOk n = false
 ·rw [if_pos c1] at h
  cases h
 ·rw [if_neg c1] at h
  have c1' : Rol.widthOk n = true := by simpa using c1
  unfold Rol.widthOk Rol.TRACKS at c1'
  simp only [C4, C9] at c1'
  by_cases c2 : Rol.TEXT < bs.length
  ·rw [if_pos c2] at h
   cases h
  ·rw [if_neg c2] at h
   cases e : Rol.progIn n bs with
   | error m =>
    rw [e] at h
    cases h
   | ok d => exact ⟨c1'.1, c1'.2, d, rfl⟩
theorem je {n : Nat} {bs : Rol.Bytes} {y : Rol.Ans} {g : List Rol.Do -> Rol.Ans} (h : oE n bs = some y) : RolA.ofProgram n bs g = y := by
 unfold oE at h
 unfold RolA.ofProgram
 by_cases c1 : Rol.widthOk n = false
 ·rw [if_pos c1] at h ⊢
  exact C8 h
 ·rw [if_neg c1] at h ⊢
  by_cases c2 : Rol.TEXT < bs.length
  ·rw [if_pos c2] at h ⊢
   exact C8 h
  ·rw [if_neg c2] at h ⊢
   cases e : Rol.progIn n bs with
   | error m =>
    rw [e] at h
    exact C8 h
   | ok d =>
    rw [e] at h
    cases h
theorem jf {n : Nat} {bs : Rol.Bytes} {d : List Rol.Do} {g : List Rol.Do -> Rol.Ans} (h : oE n bs = none) (hd : Rol.progIn n bs = .ok d) : RolA.ofProgram n bs g = g d := by
 unfold oE at h
 unfold RolA.ofProgram
 by_cases c1 : Rol.widthOk n = false
 ·rw [if_pos c1] at h
  cases h
 ·rw [if_neg c1] at h ⊢
  by_cases c2 : Rol.TEXT < bs.length
  ·rw [if_pos c2] at h
   cases h
  ·rw [if_neg c2, hd]
section
variable {P : Program} {w : World} {K : Fg} {mg : Str -> Option Value} {base : Heap}
def pD (C : Addr) : Sp := fun vs H Q _ => ∃ (l nb gv : Addr) (S : List Rol.Strip) (p : Int) (ns gs : List Int) (x : RolA.Call), vs = [.ref l, .int p, .ref nb, .ref gv] /\ cC C H l S /\ H nb = some (.lst (iV ns)) /\ H gv = some (.lst (iV gs)) /\ gs.length <= 70000 /\ cE p ns gs x /\ Out C l H (RolA.step S x) Q
theorem xw : al ["strips", "call", "numbers", "given", "refusal"] ["strips", "call", "numbers", "given"] (ae bZ) := ⟨rfl, rfl, rfl, by decide +kernel, rfl, by decide +kernel, by decide +kernel⟩
theorem bi {S : List Rol.Strip} {i : Nat} (c : decide ((i : Int) < (S.length : Int)) = true) : ∃ s, S[i]? = some s := by
 have := Dc c
 exact ⟨_, Dg (show i < S.length by omega)⟩
theorem bn {S : List Rol.Strip} {i : Nat} (c : decide ((i : Int) < (S.length : Int)) = false) : S[i]? = none := by
 have := of_decide_eq_false c
 exact List.getElem?_eq_none (by omega)
theorem yP {f C : Addr} {fd : FuncData} (F : Fun K "answer_call" "answer_call" bZ f fd) (N : TM mg) (TT : BW K mg) (TA' : B9 P w K mg base C) (U1 : ao P w K mg base "number_alone" ["number"] 2 spAlone) (U2 : ao P w K mg base "all_there" ["strips", "named"] 1 spThere) (U3 : ao P w K mg base "refusal_of_program" ["width", "program"] 3 spRefuse) : bc P w K mg base CX0 8 f fd ["strips", "call", "numbers", "given"] (pD C) := by
 obtain ⟨f1, fd1, m1, k1, b1, G1⟩ := U1.ex
 obtain ⟨f2, fd2, m2, k2, b2, G2⟩ := U2.ex
 obtain ⟨f3, fd3, m3, k3, b3, G3⟩ := U3.ex
 obtain ⟨t4, e4⟩ := N.there
 obtain ⟨aS, rowsS, mS, hS, shS⟩ := TT.sh
 obtain ⟨aO, mO, hO'⟩ := TT.pr
 obtain ⟨aA, rows, mA, hA, A1, A2, A3, A4, A5, A6, A7, A8, A9, A10, A11, A12, A13, A14, A15⟩ := TA'.ex
 refine F.ok xw (fun vs H Q E h => ?_) (fun cdv A outer s H vs Q E hr h => ?_)
 ·obtain ⟨_, _, _, _, _, _, _, _, rfl, _⟩ := h
  rfl
 ·obtain ⟨l, nb, gv, S, p, ns, gs, x, rfl, hO, hn, hG, hgs, hf, k⟩ := h
  have hr1 : bG 1 _ := hr.mono (by decide)
  have hr2 : bG 2 _ := hr.mono (by decide)
  have hr3 : bG 3 _ := hr.mono (by decide)
  obtain ⟨hlen, as, hl, hst⟩ := id hO
  have sl : ((as.map V.ref).length : Int) = (S.length : Int) := by rw [CP, hst.length]
  have go : ∀ {sp : Sp} {a b kk : Nat}, Ans P w K mg base rows p sp -> eM.lookup p = some (a, b, kk) -> ns.length <= 1000 -> (((ns.take a).all fun z => decide (z < (S.length : Int))) = false -> Out C l H (S, Rol.says (-4)) Q) ->
    (((ns.take a).all fun z => decide (z < (S.length : Int))) = true -> (inV (.int p) [.int 13, .int 14, .int 15] = false /\ ∀ H1, aq H H1 -> sp [.ref l, .ref nb, .ref gv] H1 Q E0) ∨
     (inV (.int p) [.int 13, .int 14, .int 15] = true /\ ∃ (n : Nat) (bs : Rol.Bytes), ns = [(n : Int)] /\ gs = bI bs /\ (∀ y, oE n bs = some y -> Out C l H (S, y) Q) /\ (oE n bs = none -> ∀ H1, aq H H1 -> sp [.ref l, .ref nb, .ref gv] H1 Q E0))) ->
    ∃ t, PSs (lT CX0 P w K mg base ["strips", "call", "numbers", "given", "refusal"] "answer_call" (ae bZ) f cdv A outer s H E).nox (cb bZ) t /\ t { nx := fun _ H' => Q .non H', rt := Q } (start ["strips", "call", "numbers", "given", "refusal"] [.ref l, .int p, .ref nb, .ref gv]) H := by
   intro sp a b kk hAns hsh hns no yes
   obtain ⟨fA, fdA, rA, kA, bA, GA⟩ := hAns
   obtain ⟨t, rt, ht⟩ := shS p a b kk hsh
   refine ⟨_, ad (bp (g8 (iT (aj G2 hr1 (by rfl) m2 k2 b2 .nil aC (aa (pv 0) (aa (fZ iI (pv 2) yu (cT (aL qd (tD hS (ax (v := .ref aS) (by rfl) mS rfl) (pv 1) (fun _ _ => rfl)) ai (fun _ _ => rfl)))) ac))))) (af (au (aj G1 hr2 (by rfl) m1 k1 b1 .nil aC (aa (ax (v := .int (-4)) (by rfl) e4 ⟨_, rfl⟩) ac)))) aK)
    (ad (bp (aB tN (pv 1) (ax (v := .ref aO) (by rfl) mO rfl) rfl) (ad (aw (i := 4) xw.nd rfl (Or.inl rfl) (aj G3 hr3 (by rfl) m3 k3 b3 .nil aC (aa (aL am (pv 2) ai (fun _ _ => rfl)) (aa (pv 3) ac)))) (af (bp (aB tL (pv 4) pT (aE _)) (af (au (pv 4))) aK))) aK)
    (af (au (v1 (tD hA (ax (v := .ref aA) (by rfl) mA rfl) (pv 1) (fun _ _ => rfl)) GA hr kA bA aC.s (aa (pv 0) (aa (pv 2) (aa (pv 3) ac))))))), ?_⟩
   refine ⟨_, rfl, _, rfl, rfl, _, rfl, p, .ref t, _, rfl, rt, rfl, t, _, _, _, rfl, rfl, ht _, aQ (j := 0) rfl rfl, _, rfl, nb, _, rfl, SqL.of hn, fun q hq => ?_⟩
   have sq := aq.upd (o := .lst (o8 (iV ns) none (some (a : Int)))) hq
   have ec : o8 (iV ns) none (some (a : Int)) = iV (ns.take a) := by
    unfold o8
    rw [HT.sIx_nat, HT.sIx_none]
    have il : (iV ns).length = ns.length := by unfold iV; rw [CP]
    rw [il, List.drop_zero, Nat.sub_zero]
    unfold iV
    rw [<- List.map_take]
    congr 1
    by_cases c : a <= ns.length
    ·rw [Nat.min_eq_left c]
    ·rw [Nat.min_eq_right (by omega), List.take_length, List.take_of_length_le (by omega)]
   refine ⟨l, q, as.map V.ref, ns.take a, rfl, sq _ _ hl, by rw [upd_same, ec], by rw [Dn]; omega, fun H1 s1 => ?_⟩
   have sH := sq.trans s1
   rw [sl]
   refine ⟨_, rfl, ?_⟩
   cases c : (ns.take a).all fun z => decide (z < (S.length : Int)) with
   | false => exact ⟨-4, rfl, fun H' u s2 hu e => no c H' u (SB.of (sH.trans s2)) (hO.same (sH.trans s2)) (sH.free hu) e⟩
   | true =>
    refine ⟨_, rfl, aO, _, rfl, .inr (hO' _), rfl, rfl, _, rfl, ?_⟩
    have last : ∀ {H2 : Hp} {v : Option V}, sp [.ref l, .ref nb, .ref gv] H2 Q E0 -> zO (xq fA sp (fun _ => E0) (B4 aA rows (tC (.ref aA)) (lZ 1)) (iD (lZ 0) (iD (lZ 2) (iD (lZ 3) tNil)))) { nx := fun _ H' => Q .non H', rt := Q } [some (.ref l), some (.int p), some (.ref nb), some (.ref gv), v] H2 := fun {H2 v} h => ⟨rfl, _, rfl, p, .ref fA, _, rfl, rA, rfl, rfl, _, rfl, _, rfl, _, rfl, h⟩
    rcases yes c with ⟨z, y⟩ | ⟨z, n, bs, rfl, rfl, y1, y2⟩
    ·show if (if false = true then _ else inV (.int p) [.int 13, .int 14, .int 15]) = true then _ else _
     rw [if_neg Dm, z]
     exact last (y H1 sH)
    ·show if (if false = true then _ else inV (.int p) [.int 13, .int 14, .int 15]) = true then _ else _
     rw [if_neg Dm, z]
     refine ⟨_, rfl, nb, _, _, _, rfl, rfl, SqL.of (sH _ _ hn), aQ (j := 0) rfl rfl, _, rfl, gv, bs, n, rfl, sH _ _ hG, fun y hy H2 q2 s2 hq2 e2 => ?_, fun hy H2 s2 => ?_⟩
     ·refine ⟨_, rfl, rfl, _, rfl, _, rfl, y1 y hy H2 q2 (SB.of (sH.trans s2)) (hO.same (sH.trans s2)) (sH.free hq2) e2⟩
     ·refine ⟨_, rfl, rfl, _, rfl, ?_⟩
      exact last (y2 hy H2 (sH.trans s2))
  have one : ∀ {i : Nat} {xs : List Int}, ((((i : Int) :: xs).take 1).all fun z => decide (z < (S.length : Int))) = decide ((i : Int) < (S.length : Int)) := fun {i xs} => by
   show (decide ((i : Int) < (S.length : Int)) && true) = _
   rw [Bool.and_true]
  have two : ∀ {i j : Nat}, ((([(i : Int), (j : Int)]).take 2).all fun z => decide (z < (S.length : Int))) = (decide ((i : Int) < (S.length : Int)) && decide ((j : Int) < (S.length : Int))) := fun {i j} => by
   show (decide ((i : Int) < (S.length : Int)) && (decide ((j : Int) < (S.length : Int)) && true)) = _
   rw [Bool.and_true]
  have ofs : ∀ {i : Nat} {g : Rol.Strip -> Rol.Ans} {s : Rol.Strip}, S[i]? = some s -> Rol.ofStrip S i g = g s := fun {i g s} e => by
   unfold Rol.ofStrip
   rw [e]
  have ofn : ∀ {i : Nat} {g : Rol.Strip -> Rol.Ans}, S[i]? = none -> Rol.ofStrip S i g = Rol.says (-4) := fun {i g} e => by
   unfold Rol.ofStrip
   rw [e]
  cases hf with
  | read b =>
   refine go A1 rfl (by decide) (fun c => by cases c) fun _ => .inl ⟨rfl, fun H1 s1 => ⟨l, nb, gv, S, b, rfl, hO.same s1, s1 _ _ hG, k.mono s1⟩⟩
  | text i =>
   have k' : Out C l H (S, Rol.ofStrip S i fun x => Rol.writes x.text) Q := k
   refine go A2 rfl (by show 1 <= 1000; decide) (fun c => ?_) fun c => ?_
   ·rw [one] at c
    rw [ofn (bn c)] at k'
    exact k'
   ·rw [one] at c
    obtain ⟨s, es⟩ := bi c
    rw [ofs es] at k'
    exact .inl ⟨rfl, fun H1 s1 => ⟨l, nb, gv, S, i, s, [], rfl, hO.same s1, s1 _ _ hn, es, trivial, k'.mono s1⟩⟩
  | size i =>
   have k' : Out C l H (S, Rol.ofStrip S i fun x => Rol.tells 0 [x.wide, x.rows.length, (Rol.runs x.rows).length]) Q := k
   refine go A3 rfl (by show 1 <= 1000; decide) (fun c => ?_) fun c => ?_
   ·rw [one] at c
    rw [ofn (bn c)] at k'
    exact k'
   ·rw [one] at c
    obtain ⟨s, es⟩ := bi c
    rw [ofs es] at k'
    exact .inl ⟨rfl, fun H1 s1 => ⟨l, nb, gv, S, i, s, [], rfl, hO.same s1, s1 _ _ hn, es, trivial, k'.mono s1⟩⟩
  | row i j =>
   have k' : Out C l H (S, Rol.ofStrip S i fun x => match x.rows[j]? with
    | none => Rol.says (-4)
    | some r => Rol.tells ((Rol.Row.tracks x.wide r).length : Int) (Rol.Row.tracks x.wide r)) Q := k
   refine go A4 rfl (by show 2 <= 1000; decide) (fun c => ?_) fun c => ?_
   ·rw [one] at c
    rw [ofn (bn c)] at k'
    exact k'
   ·rw [one] at c
    obtain ⟨s, es⟩ := bi c
    rw [ofs es] at k'
    exact .inl ⟨rfl, fun H1 s1 => ⟨l, nb, gv, S, i, s, [(j : Int)], rfl, hO.same s1, s1 _ _ hn, es, ⟨j, rfl⟩, k'.mono s1⟩⟩
  | holes i =>
   have k' : Out C l H (S, Rol.ofStrip S i fun x => Rol.says (x.holes : Int)) Q := k
   refine go A5 rfl (by show 1 <= 1000; decide) (fun c => ?_) fun c => ?_
   ·rw [one] at c
    rw [ofn (bn c)] at k'
    exact k'
   ·rw [one] at c
    obtain ⟨s, es⟩ := bi c
    rw [ofs es] at k'
    exact .inl ⟨rfl, fun H1 s1 => ⟨l, nb, gv, S, i, s, [], rfl, hO.same s1, s1 _ _ hn, es, trivial, k'.mono s1⟩⟩
  | slots i =>
   have k' : Out C l H (S, Rol.ofStrip S i fun x => Rol.tells (x.slots.length : Int) (x.slots.flatMap Rol.slotRow)) Q := k
   refine go A6 rfl (by show 1 <= 1000; decide) (fun c => ?_) fun c => ?_
   ·rw [one] at c
    rw [ofn (bn c)] at k'
    exact k'
   ·rw [one] at c
    obtain ⟨s, es⟩ := bi c
    rw [ofs es] at k'
    exact .inl ⟨rfl, fun H1 s1 => ⟨l, nb, gv, S, i, s, [], rfl, hO.same s1, s1 _ _ hn, es, trivial, k'.mono s1⟩⟩
  | fill wd n L =>
   refine go A7 rfl (by show 2 <= 1000; decide) (fun c => by cases c) fun _ => .inl ⟨rfl, fun H1 s1 => ⟨l, nb, gv, S, wd, n, L, rfl, hO.same s1, s1 _ _ hn, s1 _ _ hG, k.mono s1⟩⟩
  | diff i j =>
   have k' : Out C l H (S, Rol.ofStrip S i fun x => Rol.ofStrip S j fun y => if x.wide ≠ y.wide then Rol.says (-1) else match Rol.diffFrom x.wide 0 x.rows y.rows with
    | some p => Rol.tells 1 [p.1, p.2]
    | none => Rol.says 0) Q := k
   refine go A8 rfl (by show 2 <= 1000; decide) (fun c => ?_) fun c => ?_
   ·rw [two] at c
    cases c1 : decide ((i : Int) < (S.length : Int)) with
    | false =>
     rw [ofn (bn c1)] at k'
     exact k'
    | true =>
     rw [c1, Bool.true_and] at c
     obtain ⟨s, es⟩ := bi c1
     rw [ofs es, ofn (bn c)] at k'
     exact k'
   ·rw [two, C4] at c
    obtain ⟨s, es⟩ := bi c.1
    obtain ⟨u, eu⟩ := bi c.2
    rw [ofs es, ofs eu] at k'
    exact .inl ⟨rfl, fun H1 s1 => ⟨l, nb, gv, S, i, j, s, u, rfl, hO.same s1, s1 _ _ hn, es, eu, k'.mono s1⟩⟩
  | turned i =>
   have k' : Out C l H (match S[i]? with
    | none => (S, Rol.says (-4))
    | some x => Rol.kept S ⟨x.wide, x.rows.map (Rol.turned x.wide)⟩) Q := k
   refine go A9 rfl (by show 1 <= 1000; decide) (fun c => ?_) fun c => ?_
   ·rw [one] at c
    rw [bn c] at k'
    exact k'
   ·rw [one] at c
    obtain ⟨s, es⟩ := bi c
    rw [es] at k'
    exact .inl ⟨rfl, fun H1 s1 => ⟨l, nb, gv, S, i, s, rfl, hO.same s1, s1 _ _ hn, es, k'.mono s1⟩⟩
  | moved i b =>
   have k' : Out C l H (match S[i]? with
    | none => (S, Rol.says (-4))
    | some x => Rol.kept S ⟨x.wide, x.rows.map (Rol.moved x.wide b)⟩) Q := k
   refine go A10 rfl (by show 2 <= 1000; decide) (fun c => ?_) fun c => ?_
   ·rw [one] at c
    rw [bn c] at k'
    exact k'
   ·rw [one] at c
    obtain ⟨s, es⟩ := bi c
    rw [es] at k'
    exact .inl ⟨rfl, fun H1 s1 => ⟨l, nb, gv, S, i, b, s, rfl, hO.same s1, s1 _ _ hn, es, k'.mono s1⟩⟩
  | part i j n =>
   have k' : Out C l H (match S[i]? with
    | none => (S, Rol.says (-4))
    | some x => if x.rows.length < j + n then (S, Rol.says (-3)) else Rol.kept S ⟨x.wide, (x.rows.drop j).take n⟩) Q := k
   refine go A11 rfl (by show 3 <= 1000; decide) (fun c => ?_) fun c => ?_
   ·rw [one] at c
    rw [bn c] at k'
    exact k'
   ·rw [one] at c
    obtain ⟨s, es⟩ := bi c
    rw [es] at k'
    exact .inl ⟨rfl, fun H1 s1 => ⟨l, nb, gv, S, i, j, n, s, rfl, hO.same s1, s1 _ _ hn, es, k'.mono s1⟩⟩
  | program i =>
   have k' : Out C l H (S, Rol.ofStrip S i fun x => Rol.writes (Rol.progBytes (Rol.compile x))) Q := k
   refine go A12 rfl (by show 1 <= 1000; decide) (fun c => ?_) fun c => ?_
   ·rw [one] at c
    rw [ofn (bn c)] at k'
    exact k'
   ·rw [one] at c
    obtain ⟨s, es⟩ := bi c
    rw [ofs es] at k'
    exact .inl ⟨rfl, fun H1 s1 => ⟨l, nb, gv, S, i, s, [], rfl, hO.same s1, s1 _ _ hn, es, trivial, k'.mono s1⟩⟩
  | punch n b =>
   rw [bt] at hgs
   have k' : Out C l H (if Rol.widthOk n = false then (S, Rol.says (-1)) else if Rol.TEXT < b.length then (S, Rol.says (-2)) else match Rol.progIn n b with
    | .error k => (S, Rol.tells (-6) [k])
    | .ok d => Rol.kept S ⟨n, Rol.made d⟩) Q := k
   refine go A13 rfl (by show 1 <= 1000; decide) (fun c => by cases c) fun _ => .inr ⟨rfl, n, b, rfl, rfl, fun y hy => ?_, fun hy H1 s1 => ?_⟩
   ·unfold oE at hy
    by_cases c1 : Rol.widthOk n = false
    ·rw [if_pos c1] at hy k'
     cases hy
     exact k'
    ·rw [if_neg c1] at hy k'
     by_cases c2 : Rol.TEXT < b.length
     ·rw [if_pos c2] at hy k'
      cases hy
      exact k'
     ·rw [if_neg c2] at hy k'
      cases e : Rol.progIn n b with
      | error m =>
       rw [e] at hy k'
       cases hy
       exact k'
      | ok d =>
       rw [e] at hy
       cases hy
   ·obtain ⟨w1, w2, d, hd⟩ := iQ hy
    unfold oE at hy
    by_cases c1 : Rol.widthOk n = false
    ·rw [if_pos c1] at hy
     cases hy
    ·rw [if_neg c1] at hy k'
     by_cases c2 : Rol.TEXT < b.length
     ·rw [if_pos c2] at hy
      cases hy
     ·rw [if_neg c2, hd] at k'
      exact ⟨l, nb, gv, S, n, b, d, rfl, hO.same s1, s1 _ _ hn, s1 _ _ hG, hgs, w1, w2, hd, k'.mono s1⟩
  | busy n b =>
   rw [bt] at hgs
   have k' : Out C l H (S, RolA.ofProgram n b fun d => Rol.tells 0 [(Rol.made d).length, Rol.Strip.holes ⟨n, Rol.made d⟩, Rol.turnsIn d, ((List.range n).map (Rol.punchedBy (Rol.made d))).foldl max 0]) Q := k
   refine go A14 rfl (by show 1 <= 1000; decide) (fun c => by cases c) fun _ => .inr ⟨rfl, n, b, rfl, rfl, fun y hy => ?_, fun hy H1 s1 => ?_⟩
   ·rw [je hy] at k'
    exact k'
   ·obtain ⟨w1, w2, d, hd⟩ := iQ hy
    rw [jf hy hd] at k'
    exact ⟨l, nb, gv, S, n, b, d, rfl, hO.same s1, s1 _ _ hn, s1 _ _ hG, hgs, w1, w2, hd, k'.mono s1⟩
  | short n b =>
   rw [bt] at hgs
   have k' : Out C l H (S, RolA.ofProgram n b fun d => Rol.writes (Rol.progBytes (Rol.compile ⟨n, Rol.made d⟩))) Q := k
   refine go A15 rfl (by show 1 <= 1000; decide) (fun c => by cases c) fun _ => .inr ⟨rfl, n, b, rfl, rfl, fun y hy => ?_, fun hy H1 s1 => ?_⟩
   ·rw [je hy] at k'
    exact k'
   ·obtain ⟨w1, w2, d, hd⟩ := iQ hy
    rw [jf hy hd] at k'
    exact ⟨l, nb, gv, S, n, b, d, rfl, hO.same s1, s1 _ _ hn, s1 _ _ hG, hgs, w1, w2, hd, k'.mono s1⟩
end
end PH
end
section
namespace PH
open PySem PySem.Spec PyProof.Rows L2 PM
theorem vd (l : List Int) {i j : Nat} (h1 : i <= j) (h2 : j <= l.length) : o8 (iV l) (some (i : Int)) (some (j : Int)) = iV ((l.drop i).take (j - i)) := by
 unfold o8
 rw [HT.sIx_nat, HT.sIx_nat]
 have il : (iV l).length = l.length := by unfold iV; rw [CP]
 rw [il, Nat.min_eq_left (show i <= l.length by omega), Nat.min_eq_left h2]
 unfold iV
 rw [<- List.map_drop, <- List.map_take]
theorem x8 {S : List Rol.Strip} {c : List (List Int)} {x : RolA.Call} (h : RolANeutral.callOf c = some x) : RolANeutral.step S c = ((RolA.step S x).1, dL (RolA.step S x).2) := by
 unfold RolANeutral.step
 rw [h]
 rfl
def Bq (n : Nat) : L2.St -> Hp -> Nat := fun σ _ => match σ with
 | _ :: _ :: _ :: some (.int z) :: _ => n - z.toNat
 | _ => 0
section
variable {P : Program} {w : World} {K : Fg} {mg : Str -> Option Value} {base : Heap}
def spAll (K : Fg) : Sp := fun vs H Q _ => ∃ (c : Addr) (l : List Int), vs = [.ref c] /\ SqL K H c (iV l) /\ l.length <= 30000 /\ PyWqazbq.answers_asked l = true /\ ∀ (H' : Hp) (q : Addr), aq H H' -> H' q = some (.lst (iV (PyWqazbq.answers l))) -> Q (.ref q) H'
theorem fQ : al ["calls", "strips", "given_back", "place", "call", "shape", "end", "numbers", "given", "begin", "answered"] ["calls"] (ae kX) := ⟨rfl, rfl, rfl, by decide +kernel, rfl, by decide +kernel, by decide +kernel⟩
structure At (K : Fg) (C : Addr) (H H' : Hp) (l : List Int) (ls gb : Addr) (p : Nat) : Prop where
 sm : aq H H'
 ne : ls ≠ gb
 le : p <= l.length
 ex : ∃ (f : Nat) (cs : List (List (List Int))) (S : List Rol.Strip) (out : List Int), PyFlat.calls PyWqazbq.shape f (l.drop p) = some cs /\ (∀ c ∈ cs, RolANeutral.asked1 c = true) /\ H' gb = some (.lst (iV out)) /\ cC C (drp H' gb) ls S /\ out ++ PyFlat.told (PyFlat.played RolANeutral.step S cs) = PyWqazbq.answers l
theorem AC {f C : Addr} {fd : FuncData} (F : Fun K "answers" "answers" kX f fd) (B : TB mg) (TT : BW K mg) (U : ao P w K mg base "answer_call" ["strips", "call", "numbers", "given"] 8 (pD C)) : bc P w K mg base CX0 9 f fd ["calls"] (spAll K) := by
 obtain ⟨fU, fdU, mU, kU, bU, GU⟩ := U.ex
 obtain ⟨aS, rowsS, mS, hS, shS⟩ := TT.sh
 refine F.ok fQ (fun vs H Q E h => ?_) (fun cdv A outer s H vs Q E hr h => ?_)
 ·obtain ⟨_, _, rfl, _⟩ := h
  rfl
 ·obtain ⟨c, l, rfl, hc, hl, hask, k⟩ := h
  obtain ⟨cs0, a1, a2, a3, a4⟩ := vj hask
  refine ⟨_, ad (aw (i := 1) fQ.nd rfl (Or.inl rfl) (aH ac))
   (ad (aw (i := 2) fQ.nd rfl (Or.inl rfl) (aH ac))
   (ad (aw (i := 3) fQ.nd rfl (Or.inl rfl) ai)
   (ad (iw PassesOwn.never (aB tM (pv 3) (ak aJ (by rfl) B.len Dd (aa (pv 0) ac)) (aE _))
    (ad (aw (i := 4) fQ.nd rfl (Or.inl rfl) (aL am (pv 0) (pv 3) (fun _ _ => rfl)))
    (ad (aw (i := 5) fQ.nd rfl (Or.inl rfl) (tD hS (ax (v := .ref aS) (by rfl) mS rfl) (pv 4) (fun _ _ => rfl)))
    (ad (aw (i := 6) fQ.nd rfl (Or.inl rfl) (aM bj (aM bj (aM bj (pv 3) ai) (aL qd (pv 5) ai (fun _ _ => rfl))) (aL qd (pv 5) ai (fun _ _ => rfl))))
    (ad (aw (i := 7) fQ.nd rfl (Or.inl rfl) (fZ iI (pv 0) (cT (aM bj (pv 3) ai)) (cT (pv 6))))
    (ad (aw (i := 8) fQ.nd rfl (Or.inl rfl) (aH ac))
    (ad (bp (aB gd (aL qd (pv 5) ai (fun _ _ => rfl)) ai (aE _))
     (ad (aw (i := 9) fQ.nd rfl (Or.inl rfl) (aM bj (pv 6) ai))
     (ad (aw (i := 6) fQ.nd rfl (Or.inl rfl) (aM bj (pv 9) (aL am (pv 0) (pv 6) (fun _ _ => rfl))))
     (af (aw (i := 8) fQ.nd rfl (Or.inl rfl) (fZ iI (pv 0) (cT (pv 9)) (cT (pv 6)))))))
     aK)
    (ad (aw (i := 10) fQ.nd rfl (Or.inl rfl) (aj GU.hid hr (by rfl) mU kU bU .nil aC (aa (pv 1) (aa (pv 4) (aa (pv 7) (aa (pv 8) ac))))))
    (ad (bv (jb PySem.F.plainAttrs_list PySem.F.slot_list_append PySem.F.type_list_append cy (pv 2) (aa (ak aJ (by rfl) B.len Dd (aa (pv 10) ac)) ac)))
    (ad (bv (jb PySem.F.plainAttrs_list PySem.F.slot_list_extend PySem.F.type_list_extend dI (pv 2) (aa (pv 10) ac)))
    (af (aw (i := 3) fQ.nd rfl (Or.inl rfl) (pv 6)))))))))))))
   (af (au (pv 2)))))), ?_⟩
  have il : (iV l).length = l.length := by unfold iV; rw [CP]
  refine ⟨De _, fun ls hls => ?_⟩
  have s1 := aq.upd (o := .lst []) hls
  refine ⟨De _, fun gb hgb => ?_⟩
  have s2 := aq.upd (o := .lst []) hgb
  have fgb : H gb = none := s1.free hgb
  have nlg : ls ≠ gb := ah upd_same hgb
  have start : At K C H (L2.upd (L2.upd H ls (.lst [])) gb (.lst [])) l ls gb 0 := by
   refine ⟨s1.trans s2, nlg, De _, l.length, cs0, [], [], a1, a2, upd_same, ⟨De _, [], ?_, trivial⟩, a3.symm⟩
   rw [bo nlg, ag nlg, upd_same]
   rfl
  refine fJ (fun σ H' => ∃ (p : Nat) (v4 v5 v6 v7 v8 v9 v10 : Option V), σ = [some (.ref c), some (.ref ls), some (.ref gb), some (.int p), v4, v5, v6, v7, v8, v9, v10] /\ At K C H H' l ls gb p) (Bq l.length) ⟨0, none, none, none, none, none, none, none, rfl, start⟩ ?_
  rintro σ H' ⟨p, v4, v5, v6, v7, v8, v9, v10, rfl, hp⟩
  obtain ⟨sm, _, hle, fu, cs, S, out, b1, b2, b3, b4, b5⟩ := id hp
  have hc' := sm.seq hc
  refine ⟨_, rfl, _, rfl, c, _, rfl, .inl hc', _, _, rfl, rfl, _, rfl, ?_⟩
  rw [il]
  by_cases lt : p < l.length
  ·rw [C0 (show (p : Int) < (l.length : Int) by omega)]
   have ez : l[p]? = some (l[p]) := Dg lt
   generalize l[p] = z at ez
   rw [bO ez] at b1
   obtain ⟨g, cc, t, cs', rfl, c1, c2, rfl⟩ := kj b1
   obtain ⟨a, b, kk, gs, x, D⟩ := w8 c1 (b2 cc C3)
   obtain ⟨tt, rt, ht⟩ := shS z a b kk D.sh
   have dl := D.le
   rw [List.length_drop] at dl
   refine ⟨fun σ' H'' => ∃ q : Nat, p < q /\ ∃ (v4 v5 v6 v7 v8 v9 v10 : Option V), σ' = [some (.ref c), some (.ref ls), some (.ref gb), some (.int q), v4, v5, v6, v7, v8, v9, v10] /\ At K C H H'' l ls gb q, fun σ' H'' hN => ?_, ?_⟩
   ·obtain ⟨q, hq, u4, u5, u6, u7, u8, u9, u10, rfl, hN⟩ := hN
    have := hN.le
    refine ⟨_, ?_, rfl, q, u4, u5, u6, u7, u8, u9, u10, rfl, hN⟩
    show l.length - ((q : Nat) : Int).toNat < l.length - ((p : Nat) : Int).toNat
    omega
   have at' : ∀ {zz : Int} {j : Nat} {v : Int}, zz = (j : Int) -> l[j]? = some v -> atI (iV l) zz = some (.int v) := fun e h => aQ e (by unfold iV; rw [C1, h]; rfl)
   refine ⟨_, rfl, _, rfl, c, _, _, _, rfl, rfl, hc', at' (j := p) rfl ez, ?_⟩
   refine ⟨rfl, _, rfl, z, .ref tt, _, rfl, rt, rfl, ?_⟩
   refine ⟨_, rfl, _, _, rfl, rfl, _, rfl, tt, _, _, _, rfl, rfl, ht _, aQ (j := 0) rfl rfl, _, _, rfl, rfl, _, rfl, tt, _, _, _, rfl, rfl, ht _, aQ (j := 1) rfl rfl, _, _, rfl, rfl, ?_⟩
   have e1 : (p : Int) + 1 + a + b = ((p + 1 + (a + b) : Nat) : Int) := by omega
   have e0 : (p : Int) + 1 = ((p + 1 : Nat) : Int) := by omega
   dsimp only
   rw [e1]
   refine ⟨_, rfl, _, rfl, _, _, rfl, rfl, _, rfl, _, rfl, _, rfl, c, _, rfl, hc', fun nb hnb => ?_⟩
   dsimp only
   rw [e0, vd l (by omega) (by omega), show p + 1 + (a + b) - (p + 1) = a + b by omega]
   have s3 := aq.upd (o := .lst (iV ((l.drop (p + 1)).take (a + b)))) hnb
   refine ⟨De _, fun gv hgv => ?_⟩
   have s4 := aq.upd (o := .lst []) hgv
   have s34 := s3.trans s4
   have nng : nb ≠ gb := fun y => by rw [y, b3] at hnb; cases hnb
   have call : ∀ (H2 : Hp) (gv : Addr) (q : Nat) (R : V -> Hp -> Prop), aq H' H2 -> H2 nb = some (.lst (iV ((l.drop (p + 1)).take (a + b)))) -> H2 gv = some (.lst (iV gs)) -> gv ≠ gb -> gs.length <= 30000 -> t = l.drop q -> q <= l.length ->
     (∀ (H3 : Hp) (an : Addr), aq H H3 -> H3 gb = some (.lst (iV out)) -> an ≠ gb -> H3 an = some (.lst (iV (dL (RolA.step S x).2))) -> At K C H (L2.upd H3 gb (.lst (iV (out ++ ((dL (RolA.step S x).2).length : Int) :: dL (RolA.step S x).2)))) l ls gb q -> out.length + (dL (RolA.step S x).2).length + 1 <= 1001200 -> R (.ref an) H3) -> zX (pD C) [.ref ls, .int z, .ref nb, .ref gv] H2 R E0 := by
    intro H2 gv q R g1 g2 g3 g4 g5 g6 g7 kk
    have O2 : cC C (drp H2 gb) ls S := b4.same (cZ (SB.of g1))
    refine ⟨gb, _, g1 _ _ b3, ls, nb, gv, S, z, _, gs, x, rfl, O2, by rw [bo nng]; exact g2, by rw [bo g4]; exact g3, by omega, D.fits, fun H3 an sb hO han hane hn3 => ?_⟩
    have nag : an ≠ gb := fun y => by rw [y, hn3] at hane; cases hane
    have sm3 : aq H (L2.upd H3 gb (.lst (iV out))) := fun d o e => by
     have nd : d ≠ gb := ah e fgb
     have nls : d ≠ ls := ah e hls
     rw [ag nd]
     exact sb d o nls (by rw [bo nd]; exact g1 _ _ (sm d o e))
    have st := x8 (S := S) D.call
    have b5' : (out ++ ((dL (RolA.step S x).2).length : Int) :: dL (RolA.step S x).2) ++ PyFlat.told (PyFlat.played RolANeutral.step (RolA.step S x).1 cs') = PyWqazbq.answers l := by
     rw [<- b5]
     show _ = out ++ PyFlat.told ((RolANeutral.step S cc).2 :: PyFlat.played RolANeutral.step (RolANeutral.step S cc).1 cs')
     rw [st, rF, Dr]
    refine kk _ an sm3 upd_same nag (by rw [ag nag]; exact hane) ⟨?_, nlg, g7, g, cs', (RolA.step S x).1, _, by rw [<- g6]; exact c2, fun d hd => b2 d (C2 _ hd), upd_same, ?_, b5'⟩ ?_
    ·exact aD sm3 fgb
    ·refine hO.same fun d o e => ?_
     have nd : d ≠ gb := ah e hn3
     rw [bo nd, ag nd, ag nd]
     exact e
    ·have e := congrArg List.length b5'
     rw [CV, CV, CU] at e
     omega
   have fl : (iV (dL (RolA.step S x).2)).length = (dL (RolA.step S x).2).length := by unfold iV; rw [CP]
   have ol : (iV out).length = out.length := by unfold iV; rw [CP]
   have ev : (iV out ++ [V.int ((iV (dL (RolA.step S x).2)).length : Int)]) ++ iV (dL (RolA.step S x).2) = iV (out ++ ((dL (RolA.step S x).2).length : Int) :: dL (RolA.step S x).2) := by
    rw [fl]
    unfold iV
    rw [Dj, Dr]
    rfl
   refine ⟨_, rfl, tt, _, _, _, rfl, rfl, ht _, aQ (j := 2) rfl rfl, rfl, _, rfl, ?_⟩
   rcases D.row with ⟨rfl, g0, t0⟩ | ⟨rfl, m, r1, r2, r3, r4⟩
   ·rw [C6 (show ¬ V.int ((0 : Nat) : Int) = V.int 1 from fun y => by have := V.int.inj y; omega)]
    refine ⟨_, rfl, _, rfl, _, rfl, _, rfl, call _ gv (p + 1 + (a + b)) _ s34 (s4 _ _ upd_same) (by rw [upd_same, g0]; rfl) (fun y => by rw [y, s3 _ _ b3] at hgv; cases hgv) (by rw [g0]; exact De _) (by rw [t0, List.drop_drop]) (by omega) fun H3 an x1 x2 x3 x4 x5 x6 => ?_⟩
    refine ⟨_, rfl, .inl ⟨rfl, _, SqL.of x2⟩, _, rfl, an, _, rfl, .inl (SqL.of x4), gb, _, _, rfl, rfl, x2, by rw [ol, sizeLine_eq]; omega, ?_⟩
    refine ⟨_, rfl, .inl ⟨rfl, _, SqL.of upd_same⟩, _, rfl, gb, an, _, _, rfl, rfl, upd_same, by rw [ag x3]; exact x4, by rw [CV, ol, fl, sizeLine_eq]; show _ + 1 + _ <= _; omega, ?_⟩
    rw [rq, ev]
    exact ⟨_, rfl, p + 1 + (a + b), by omega, _, _, _, _, _, _, _, rfl, x5⟩
   ·rw [C0 (show V.int ((1 : Nat) : Int) = V.int 1 from rfl)]
    rw [List.getElem?_drop] at r1
    rw [List.length_drop] at r2
    rw [List.drop_drop] at r3 r4
    have hc2 := (sm.trans s34).seq hc
    refine ⟨_, rfl, _, _, rfl, rfl, ?_⟩
    refine ⟨_, rfl, _, rfl, _, rfl, c, _, _, _, rfl, rfl, hc2, at' (j := p + 1 + (a + b)) rfl r1, _, _, rfl, rfl, ?_⟩
    refine ⟨_, rfl, _, rfl, _, rfl, _, rfl, _, rfl, c, _, rfl, hc2, fun gv2 hgv2 => ?_⟩
    have y0 : ((p + 1 + (a + b) : Nat) : Int) + 1 = ((p + 1 + (a + b + 1) : Nat) : Int) := by omega
    have y1 : ((p + 1 + (a + b + 1) : Nat) : Int) + m = ((p + 1 + (a + b + 1 + m) : Nat) : Int) := by omega
    dsimp only
    rw [y0, y1, vd l (by omega) (by omega), show p + 1 + (a + b + 1 + m) - (p + 1 + (a + b + 1)) = m by omega, <- r3]
    have s5 := aq.upd (o := .lst (iV gs)) hgv2
    have gl : gs.length <= 30000 := by
     rw [r3, Dn, List.length_drop]
     omega
    refine ⟨_, rfl, _, rfl, _, rfl, _, rfl, call _ gv2 (p + 1 + (a + b + 1 + m)) _ (s34.trans s5) (s5 _ _ (s4 _ _ upd_same)) upd_same (fun y => by rw [y, s34 _ _ b3] at hgv2; cases hgv2) gl r4 (by omega) fun H3 an x1 x2 x3 x4 x5 x6 => ?_⟩
    refine ⟨_, rfl, .inl ⟨rfl, _, SqL.of x2⟩, _, rfl, an, _, rfl, .inl (SqL.of x4), gb, _, _, rfl, rfl, x2, by rw [ol, sizeLine_eq]; omega, ?_⟩
    refine ⟨_, rfl, .inl ⟨rfl, _, SqL.of upd_same⟩, _, rfl, gb, an, _, _, rfl, rfl, upd_same, by rw [ag x3]; exact x4, by rw [CV, ol, fl, sizeLine_eq]; show _ + 1 + _ <= _; omega, ?_⟩
    rw [rq, ev]
    exact ⟨_, rfl, p + 1 + (a + b + 1 + m), by omega, _, _, _, _, _, _, _, rfl, x5⟩
  ·rw [C6 (show ¬ (p : Int) < (l.length : Int) by omega)]
   have ep : p = l.length := by omega
   subst ep
   rw [List.drop_length] at b1
   have := ng b1
   subst this
   refine ⟨_, rfl, k H' gb sm ?_⟩
   rw [b3, <- b5]
   show _ = some (HO.lst (iV (out ++ [])))
   rw [Dq]
end
end PH
end
section
namespace PH
open PySem PySem.Spec PyProof.Rows L2 PM
def aU (K : Fg) (x : Str) (st : Stmt) : Prop := ∃ (f : Addr) (fd : FuncData), PySem.W.nsIn K mainGlobals x = some (some (.ref f)) /\ Fun K x x st f fd
theorem def_in {K : Fg} {x : Str} {st : Stmt} {f : Addr} {oc : Value} {od an : Option Addr} {sl : Array (Option Value)} {kV dc pm cd ct : Value} (a : PySem.W.nsIn K mainGlobals x = some (some (.ref f)))
  (l : K.lookup f = some ⟨oc, od, .func (PySem.W.fnOf x x (fC st) (cb st) (ae st) .none kV dc pm an cd ct), sl⟩) (c : PySem.W.codeIn K cd x = true) (k : PySem.W.keepIn K (.ref f) = true) : aU K x st := ⟨f, _, a, uK (st := st) l c k⟩
structure Bj (K : Fg) (x : Str) (C : Addr) : Prop where
 at_ : PySem.W.nsIn K mainGlobals x = some (some (.ref C))
 cl : Cls K C
 mks : PySem.W.makesIn K C = true
 kc : PySem.W.keepIn K (.ref C) = true
def ib (K : Fg) (C : Addr) (m q : Str) (st : Stmt) : Prop := ∃ (f : Addr) (fd : FuncData), zy K C m f /\ Fun K m q st f fd
theorem meth_in {K : Fg} {C : Addr} {m q : Str} {st : Stmt} {f : Addr} {oc : Value} {od an : Option Addr} {sl : Array (Option Value)} {kV dc pm cd ct : Value} (a : PySem.W.findIn K (.ref C) m = some (some (.ref f))) (i : PySem.W.isFn K (.ref f) = true)
  (l : K.lookup f = some ⟨oc, od, .func (PySem.W.fnOf m q (fC st) (cb st) (ae st) .none kV dc pm an cd ct), sl⟩) (c : PySem.W.codeIn K cd q = true) (k : PySem.W.keepIn K (.ref f) = true) : ib K C m q st := ⟨f, _, ⟨a, i, k⟩, uK (st := st) l c k⟩
def Bi (K : Fg) : Prop := ∃ (C N f : Addr) (fd : FuncData), PySem.W.nsIn K mainGlobals "Fault" = some (some (.ref C)) /\ lP K C N f /\ Fun K "__init__" "Fault.__init__" bL f fd /\ PySem.W.findIn K (.ref C) "place" = some none
theorem flt_in {K : Fg} {C N f : Addr} {nm q : Str} {bs : List Value} {sn : List Str} {sub : List Value} {ab : Bool} {col : Option Bool} {dd : Option Addr} {k0 k1 k2 k3 k5 : Option Value} {oc na : Value} {od an nb : Option Addr} {es : Array DictEntry} {nn : Nat} {sl nsl : Array (Option Value)} {kV dc pm cd ct : Value} (a : PySem.W.nsIn K mainGlobals "Fault" = some (some (.ref C)))
  (ob : K.lookup C = some (B3 nm q C N bs sn sub ab col dd k0 k1 k2 k3 k5)) (lN : K.lookup N = some ⟨na, nb, .dict es nn, nsl⟩) (ns : (es.toList.all fun e => match e.key with | .str _ _ => true | _ => false) = true) (init : PySem.W.nsIn K N "__init__" = some (some (.ref f))) (fn : PySem.W.isFn K (.ref f) = true) (kp : PySem.W.keepIn K (.ref C) = true)
  (sa : PySem.W.findIn K (.ref C) "__setattr__" = some (some (.builtin "object.__setattr__"))) (ga : PySem.W.findIn K (.ref C) "__getattribute__" = some (some (.builtin "BaseException.__getattribute__"))) (gh : PySem.W.findIn K (.ref C) "__getattr__" = some none)
  (l : K.lookup f = some ⟨oc, od, .func (PySem.W.fnOf "__init__" "Fault.__init__" (fC bL) (cb bL) (ae bL) .none kV dc pm an cd ct), sl⟩) (c : PySem.W.codeIn K cd "Fault.__init__" = true) (k : PySem.W.keepIn K (.ref f) = true) (n : PySem.W.findIn K (.ref C) "place" = some none) : Bi K :=
 ⟨C, N, f, _, a, ⟨⟨nm, q, bs, sn, sub, ab, col, dd, k0, k1, k2, k3, k5, ob⟩, (by unfold PySem.W.nsOkIn; rw [lN]; rw [Array.all_toList] at ns; exact ns), init, fn, kp, sa, ga, gh⟩, uK (st := bL) l c k, n⟩
def cD (K : Fg) (x : Str) (i : Int) : Prop := ∃ t, PySem.W.nsIn K mainGlobals x = some (some (.int i t))
theorem int_in {K : Fg} {x : Str} {i : Int} {t : Tok} (a : PySem.W.nsIn K mainGlobals x = some (some (.int i t))) : cD K x i := ⟨t, a⟩
theorem head_in {K : Fg} {t : Tok} (a : PySem.W.nsIn K mainGlobals "HEAD" = some (some (.str "strip " t))) : ∃ t, PySem.W.nsIn K mainGlobals "HEAD" = some (some (.str "strip " t)) := ⟨t, a⟩
def mJ : List Value -> Option (List Int)
 | [] => some []
 | .int i _ :: r => (mJ r).map (i :: ·)
 | _ :: _ => none
def nM (K : Fg) (t : Addr) : Option (List Int) := match K.lookup t with
 | some ⟨.type "tuple", _, .seq its _, _⟩ => if its.size <= 10 then mJ its.toList else none
 | _ => none
theorem jp : ∀ {l : List Value} {ns : List Int}, mJ l = some ns -> aV (ns.map V.int) l
 | [], ns, h => by
  cases h
  exact .nil
 | v :: r, ns, h => by
  unfold mJ at h
  split at h
  ·rename_i e
   cases e
  ·rename_i i t r' e
   cases e
   obtain ⟨ms, h1, rfl⟩ := Option.map_eq_some_iff.mp h
   exact .cons ⟨t, rfl⟩ (jp h1)
  ·cases h
theorem xk {K : Fg} {t : Addr} {ns : List Int} (h : nM K t = some ns) (H : Hp) : SqT K H t (ns.map V.int) := by
 unfold nM at h
 split at h
 ·rename_i d its n sl q
  split at h
  ·rename_i z
   exact .inr ⟨_, its, n, q, rfl, rfl, by rw [sizeLine_eq]; omega, jp h⟩
  ·cases h
 ·cases h
theorem jh {β : Type} : ∀ {l : List (Int × β)} {p : Int} {b : β}, l.lookup p = some b -> (p, b) ∈ l
 | (q, c) :: r, p, b, h => by
  rw [List.lookup_cons] at h
  by_cases e : p = q
  ·subst e
   rw [beq_self_eq_true] at h
   cases h
   exact C3
  ·rw [beq_eq_false_iff_ne.mpr e] at h
   exact C2 _ (jh h)
def names : List (Int × Str) := [(1, "answer_read"), (2, "answer_text"), (3, "answer_size"), (4, "answer_row"), (5, "answer_holes"), (6, "answer_slots"), (7, "answer_fill"), (8, "answer_diff"), (9, "answer_turned"), (10, "answer_moved"), (11, "answer_part"), (12, "answer_program"), (13, "answer_punch"), (14, "answer_busy"), (15, "answer_short")]
def Bh (K : Fg) : Prop := ∃ (aS aA aO : Addr) (rows rowsA : List (Int × Value)), PySem.W.nsIn K mainGlobals "SHAPES" = some (some (.ref aS)) /\ PySem.W.nsIn K mainGlobals "ANSWERERS" = some (some (.ref aA)) /\ PySem.W.nsIn K mainGlobals "OF_PROGRAMS" = some (some (.ref aO)) /\ kC K aS = some rows /\ (∀ r ∈ eM, ∃ t, rows.lookup r.1 = some (.ref t) /\ nM K t = some [(r.2.1 : Int), (r.2.2.1 : Int), (r.2.2.2 : Int)]) /\
 kC K aA = some rowsA /\ (∀ r ∈ names, ∃ f, rowsA.lookup r.1 = some (.ref f) /\ PySem.W.nsIn K mainGlobals r.2 = some (some (.ref f))) /\ nM K aO = some [13, 14, 15]
theorem xn {K : Fg} {a : Addr} {es : Array DictEntry} {n : Nat} {rows : List (Int × Value)} (l : K.lookup a = some ⟨.type "dict", none, .dict es n, #[]⟩) (h : jV es.toList = some rows) : kC K a = some rows := by
 unfold kC
 rw [l]
 exact h
def di (K : Fg) (t : Addr) (ns : List Int) : Prop := nM K t = some ns
theorem tup_at {K : Fg} {t : Addr} {d : Option Addr} {its : Array Value} {n : Nat} {sl : Array (Option Value)} {ns : List Int} (l : K.lookup t = some ⟨.type "tuple", d, .seq its n, sl⟩) (h : (if its.size <= 10 then mJ its.toList else none) = some ns) : di K t ns := by
 unfold di nM
 rw [l]
 exact h
theorem tab_in {K : Fg} {aS aA aO t1 t2 t3 t4 t5 t6 t7 t8 t9 t10 t11 t12 t13 t14 t15 f1 f2 f3 f4 f5 f6 f7 f8 f9 f10 f11 f12 f13 f14 f15 : Addr} {es esA : Array DictEntry} {n nA : Nat} (a : PySem.W.nsIn K mainGlobals "SHAPES" = some (some (.ref aS))) (b : PySem.W.nsIn K mainGlobals "ANSWERERS" = some (some (.ref aA))) (c : PySem.W.nsIn K mainGlobals "OF_PROGRAMS" = some (some (.ref aO)))
  (lS : K.lookup aS = some ⟨.type "dict", none, .dict es n, #[]⟩) (rS : jV es.toList = some [(1, .ref t1), (2, .ref t2), (3, .ref t3), (4, .ref t4), (5, .ref t5), (6, .ref t6), (7, .ref t7), (8, .ref t8), (9, .ref t9), (10, .ref t10), (11, .ref t11), (12, .ref t12), (13, .ref t13), (14, .ref t14), (15, .ref t15)]) (lA : K.lookup aA = some ⟨.type "dict", none, .dict esA nA, #[]⟩) (rA : jV esA.toList = some [(1, .ref f1), (2, .ref f2), (3, .ref f3), (4, .ref f4), (5, .ref f5), (6, .ref f6), (7, .ref f7), (8, .ref f8), (9, .ref f9), (10, .ref f10), (11, .ref f11), (12, .ref f12), (13, .ref f13), (14, .ref f14), (15, .ref f15)])
  (h1 : di K t1 [0, 0, 1]) (h2 : di K t2 [1, 0, 0]) (h3 : di K t3 [1, 0, 0]) (h4 : di K t4 [1, 1, 0]) (h5 : di K t5 [1, 0, 0]) (h6 : di K t6 [1, 0, 0]) (h7 : di K t7 [0, 2, 1]) (h8 : di K t8 [2, 0, 0]) (h9 : di K t9 [1, 0, 0]) (h10 : di K t10 [1, 1, 0]) (h11 : di K t11 [1, 2, 0]) (h12 : di K t12 [1, 0, 0]) (h13 : di K t13 [0, 1, 1]) (h14 : di K t14 [0, 1, 1]) (h15 : di K t15 [0, 1, 1]) (hO : di K aO [13, 14, 15])
  (n1 : PySem.W.nsIn K mainGlobals "answer_read" = some (some (.ref f1))) (n2 : PySem.W.nsIn K mainGlobals "answer_text" = some (some (.ref f2))) (n3 : PySem.W.nsIn K mainGlobals "answer_size" = some (some (.ref f3))) (n4 : PySem.W.nsIn K mainGlobals "answer_row" = some (some (.ref f4))) (n5 : PySem.W.nsIn K mainGlobals "answer_holes" = some (some (.ref f5))) (n6 : PySem.W.nsIn K mainGlobals "answer_slots" = some (some (.ref f6))) (n7 : PySem.W.nsIn K mainGlobals "answer_fill" = some (some (.ref f7))) (n8 : PySem.W.nsIn K mainGlobals "answer_diff" = some (some (.ref f8))) (n9 : PySem.W.nsIn K mainGlobals "answer_turned" = some (some (.ref f9))) (n10 : PySem.W.nsIn K mainGlobals "answer_moved" = some (some (.ref f10))) (n11 : PySem.W.nsIn K mainGlobals "answer_part" = some (some (.ref f11))) (n12 : PySem.W.nsIn K mainGlobals "answer_program" = some (some (.ref f12))) (n13 : PySem.W.nsIn K mainGlobals "answer_punch" = some (some (.ref f13))) (n14 : PySem.W.nsIn K mainGlobals "answer_busy" = some (some (.ref f14))) (n15 : PySem.W.nsIn K mainGlobals "answer_short" = some (some (.ref f15))) : Bh K := by
 refine ⟨aS, aA, aO, _, _, a, b, c, xn lS rS, ?_, xn lA rA, ?_, hO⟩
 ·unfold eM
  intro r hr
  simp only [C5, List.not_mem_nil, or_false] at hr
  rcases hr with rfl | rfl | rfl | rfl | rfl | rfl | rfl | rfl | rfl | rfl | rfl | rfl | rfl | rfl | rfl
  ·exact ⟨t1, rfl, h1⟩
  ·exact ⟨t2, rfl, h2⟩
  ·exact ⟨t3, rfl, h3⟩
  ·exact ⟨t4, rfl, h4⟩
  ·exact ⟨t5, rfl, h5⟩
  ·exact ⟨t6, rfl, h6⟩
  ·exact ⟨t7, rfl, h7⟩
  ·exact ⟨t8, rfl, h8⟩
  ·exact ⟨t9, rfl, h9⟩
  ·exact ⟨t10, rfl, h10⟩
  ·exact ⟨t11, rfl, h11⟩
  ·exact ⟨t12, rfl, h12⟩
  ·exact ⟨t13, rfl, h13⟩
  ·exact ⟨t14, rfl, h14⟩
  ·exact ⟨t15, rfl, h15⟩
 ·unfold names
  intro r hr
  simp only [C5, List.not_mem_nil, or_false] at hr
  rcases hr with rfl | rfl | rfl | rfl | rfl | rfl | rfl | rfl | rfl | rfl | rfl | rfl | rfl | rfl | rfl
  ·exact ⟨f1, rfl, n1⟩
  ·exact ⟨f2, rfl, n2⟩
  ·exact ⟨f3, rfl, n3⟩
  ·exact ⟨f4, rfl, n4⟩
  ·exact ⟨f5, rfl, n5⟩
  ·exact ⟨f6, rfl, n6⟩
  ·exact ⟨f7, rfl, n7⟩
  ·exact ⟨f8, rfl, n8⟩
  ·exact ⟨f9, rfl, n9⟩
  ·exact ⟨f10, rfl, n10⟩
  ·exact ⟨f11, rfl, n11⟩
  ·exact ⟨f12, rfl, n12⟩
  ·exact ⟨f13, rfl, n13⟩
  ·exact ⟨f14, rfl, n14⟩
  ·exact ⟨f15, rfl, n15⟩
theorem sx {K : Fg} {rows : List (Int × Value)} (h : ∀ r ∈ eM, ∃ t, rows.lookup r.1 = some (.ref t) /\ nM K t = some [(r.2.1 : Int), (r.2.2.1 : Int), (r.2.2.2 : Int)]) (p : Int) (x y k : Nat) (hp : eM.lookup p = some (x, y, k)) : ∃ t : Addr, rows.lookup p = some (.ref t) /\ ∀ H : Hp, SqT K H t [.int x, .int y, .int k] := by
 obtain ⟨t, h1, h2⟩ := h _ (jh hp)
 exact ⟨t, h1, fun H => xk h2 H⟩
theorem rb {K : Fg} {rows : List (Int × Value)} (h : ∀ r ∈ names, ∃ f, rows.lookup r.1 = some (.ref f) /\ PySem.W.nsIn K mainGlobals r.2 = some (some (.ref f))) (p : Int) (x : Str) (f : Addr) (hp : (p, x) ∈ names) (hx : PySem.W.nsIn K mainGlobals x = some (some (.ref f))) : rows.lookup p = some (.ref f) := by
 obtain ⟨g, h1, h2⟩ := h _ hp
 rw [hx] at h2
 cases h2
 exact h1
theorem all_mk {P : Program} {w : World} {K : Fg} {h : Heap} {mg : Str -> Option Value} {fa : Addr} (X : K.In h) (G : h.Ns mainGlobals mg) (hfa : mg "answers" = some (.ref fa))
  (d0 : aU K "runs_of" ow) (d1 : aU K "hole_count" dY) (d2 : aU K "most_in_a_track" cN) (d3 : aU K "unlike_tracks" cK) (d4 : aU K "first_difference" bT) (d5 : aU K "turned" kR) (d6 : aU K "turned_row" dU) (d7 : aU K "moved" pI) (d8 : aU K "moved_row" fT) (d9 : aU K "part" yn) (d10 : aU K "program_fault" cM) (d11 : aU K "strip_of_program" bB) (d12 : aU K "turn_count" dW) (d13 : aU K "program_of" dX) (d14 : aU K "bytes_of_rows" dB) (d15 : aU K "slots_of" kT) (d16 : aU K "standing_slots" cq) (d17 : aU K "in_order" kW) (d18 : aU K "strip_of_slots" bz) (d19 : aU K "text_of" iM) (d20 : aU K "is_number" iO) (d21 : aU K "value_of" kQ) (d22 : aU K "strip_of_text" du) (d23 : aU K "take_run" kS) (d24 : aU K "take_tracks" eV) (d25 : aU K "answer" ox) (d26 : aU K "number_alone" dw) (d27 : aU K "counted_text" dA) (d28 : aU K "keep" yo) (d29 : aU K "answer_read" fb) (d30 : aU K "answer_text" eZ) (d31 : aU K "answer_size" e8) (d32 : aU K "answer_row" gI) (d33 : aU K "answer_holes" dG) (d34 : aU K "answer_slots" dC) (d35 : aU K "answer_fill" fg) (d36 : aU K "answer_diff" fh) (d37 : aU K "answer_turned" cO) (d38 : aU K "answer_moved" dF) (d39 : aU K "answer_part" fc) (d40 : aU K "answer_program" cr) (d41 : aU K "answer_punch" dE) (d42 : aU K "answer_busy" fj) (d43 : aU K "answer_short" dD) (d44 : aU K "all_there" fV) (d45 : aU K "refusal_of_program" bH) (d46 : aU K "answer_call" bZ) (d47 : aU K "answers" kX)
  (tS : ∃ C, Bj K "Strip" C /\ PySem.W.findIn K (.ref C) "width" = some none /\ PySem.W.findIn K (.ref C) "rows" = some none /\ ib K C "__init__" "Strip.__init__" gH)
  (tR : ∃ C, Bj K "Reader" C /\ PySem.W.findIn K (.ref C) "text" = some none /\ PySem.W.findIn K (.ref C) "place" = some none /\ ib K C "__init__" "Reader.__init__" eY /\ ib K C "at_end" "Reader.at_end" dv /\ ib K C "sees" "Reader.sees" eX /\ ib K C "take" "Reader.take" eW /\ ib K C "digits_here" "Reader.digits_here" bK /\ ib K C "take_number" "Reader.take_number" bJ)
  (tF : Bi K) (tT : Bh K) (hH : ∃ t, PySem.W.nsIn K mainGlobals "HEAD" = some (some (.str "strip " t)))
  (i0 : cD K "MOST_WIDTH" (128)) (i1 : cD K "MOST_ROWS" (256)) (i2 : cD K "END" (0)) (i3 : cD K "MOST_AT_ONCE" (127)) (i4 : cD K "FIRST_TURN" (128)) (i5 : cD K "LINE_END" (10)) (i6 : cD K "BLANK" (32)) (i7 : cD K "DIGIT_0" (48)) (i8 : cD K "DIGIT_9" (57)) (i9 : cD K "MOST_DIGITS" (3)) (i10 : cD K "MOST_STRIPS" (32)) (i11 : cD K "MOST_BYTES" (65536)) (i12 : cD K "MOST_SLOTS" (1024)) (i13 : cD K "OUT_OF_RANGE" (-1)) (i14 : cD K "TOO_LONG" (-2)) (i15 : cD K "DOES_NOT_FIT" (-3)) (i16 : cD K "NOT_THERE" (-4)) (i17 : cD K "FAULTY" (-6)) (i18 : cD K "NO_ROOM" (-10))
  (f0 : PySem.W.nsIn K mainGlobals "len" = some none) (f1 : PySem.W.nsIn K mainGlobals "sum" = some none) (f2 : PySem.W.nsIn K mainGlobals "sorted" = some none) (f3 : PySem.W.nsIn K mainGlobals "set" = some none) (f4 : PySem.W.nsIn K mainGlobals "min" = some none) (f5 : PySem.W.nsIn K mainGlobals "max" = some none) (f6 : PySem.W.nsIn K mainGlobals "reversed" = some none) (f7 : PySem.W.nsIn K mainGlobals "enumerate" = some none) (f8 : PySem.W.nsIn K mainGlobals "range" = some none) (f9 : PySem.W.nsIn K mainGlobals "str" = some none) (f10 : PySem.W.nsIn K mainGlobals "ord" = some none) (f11 : PySem.W.nsIn K mainGlobals "all" = some none) :
  ∃ fd : FuncData, (∀ (s : Shared) (us : List Value), us.length = (["calls"] : List Str).length -> BindsTo s fd ⟨us, []⟩ ((["calls"] : List Str).zip us)) /\ ∀ base : Heap, K.In base -> base.Ns mainGlobals mg -> bc P w K mg base CX0 9 fa fd ["calls"] (spAll K) := by
 obtain ⟨p0, q0, a0, F0⟩ := d0
 have m0 := CZ X G a0
 have b0 := F0.binds (ps := ["strip"]) fun _ _ _ _ _ _ us hl => match us, hl with | [_], _ => rfl
 obtain ⟨p1, q1, a1, F1⟩ := d1
 have m1 := CZ X G a1
 have b1 := F1.binds (ps := ["strip"]) fun _ _ _ _ _ _ us hl => match us, hl with | [_], _ => rfl
 obtain ⟨p2, q2, a2, F2⟩ := d2
 have m2 := CZ X G a2
 have b2 := F2.binds (ps := ["strip"]) fun _ _ _ _ _ _ us hl => match us, hl with | [_], _ => rfl
 obtain ⟨p3, q3, a3, F3⟩ := d3
 have m3 := CZ X G a3
 have b3 := F3.binds (ps := ["one", "other"]) fun _ _ _ _ _ _ us hl => match us, hl with | [_, _], _ => rfl
 obtain ⟨p4, q4, a4, F4⟩ := d4
 have m4 := CZ X G a4
 have b4 := F4.binds (ps := ["one", "other"]) fun _ _ _ _ _ _ us hl => match us, hl with | [_, _], _ => rfl
 obtain ⟨p5, q5, a5, F5⟩ := d5
 have m5 := CZ X G a5
 have b5 := F5.binds (ps := ["strip"]) fun _ _ _ _ _ _ us hl => match us, hl with | [_], _ => rfl
 obtain ⟨p6, q6, a6, F6⟩ := d6
 have m6 := CZ X G a6
 have b6 := F6.binds (ps := ["row", "width"]) fun _ _ _ _ _ _ us hl => match us, hl with | [_, _], _ => rfl
 obtain ⟨p7, q7, a7, F7⟩ := d7
 have m7 := CZ X G a7
 have b7 := F7.binds (ps := ["strip", "by"]) fun _ _ _ _ _ _ us hl => match us, hl with | [_, _], _ => rfl
 obtain ⟨p8, q8, a8, F8⟩ := d8
 have m8 := CZ X G a8
 have b8 := F8.binds (ps := ["row", "by", "width"]) fun _ _ _ _ _ _ us hl => match us, hl with | [_, _, _], _ => rfl
 obtain ⟨p9, q9, a9, F9⟩ := d9
 have m9 := CZ X G a9
 have b9 := F9.binds (ps := ["strip", "first", "count"]) fun _ _ _ _ _ _ us hl => match us, hl with | [_, _, _], _ => rfl
 obtain ⟨p10, q10, a10, F10⟩ := d10
 have m10 := CZ X G a10
 have b10 := F10.binds (ps := ["width", "program"]) fun _ _ _ _ _ _ us hl => match us, hl with | [_, _], _ => rfl
 obtain ⟨p11, q11, a11, F11⟩ := d11
 have m11 := CZ X G a11
 have b11 := F11.binds (ps := ["width", "program"]) fun _ _ _ _ _ _ us hl => match us, hl with | [_, _], _ => rfl
 obtain ⟨p12, q12, a12, F12⟩ := d12
 have m12 := CZ X G a12
 have b12 := F12.binds (ps := ["program"]) fun _ _ _ _ _ _ us hl => match us, hl with | [_], _ => rfl
 obtain ⟨p13, q13, a13, F13⟩ := d13
 have m13 := CZ X G a13
 have b13 := F13.binds (ps := ["strip"]) fun _ _ _ _ _ _ us hl => match us, hl with | [_], _ => rfl
 obtain ⟨p14, q14, a14, F14⟩ := d14
 have m14 := CZ X G a14
 have b14 := F14.binds (ps := ["count"]) fun _ _ _ _ _ _ us hl => match us, hl with | [_], _ => rfl
 obtain ⟨p15, q15, a15, F15⟩ := d15
 have m15 := CZ X G a15
 have b15 := F15.binds (ps := ["strip"]) fun _ _ _ _ _ _ us hl => match us, hl with | [_], _ => rfl
 obtain ⟨p16, q16, a16, F16⟩ := d16
 have m16 := CZ X G a16
 have b16 := F16.binds (ps := ["width", "length", "slots"]) fun _ _ _ _ _ _ us hl => match us, hl with | [_, _, _], _ => rfl
 obtain ⟨p17, q17, a17, F17⟩ := d17
 have m17 := CZ X G a17
 have b17 := F17.binds (ps := ["slots", "place"]) fun _ _ _ _ _ _ us hl => match us, hl with | [_, _], _ => rfl
 obtain ⟨p18, q18, a18, F18⟩ := d18
 have m18 := CZ X G a18
 have b18 := F18.binds (ps := ["width", "length", "slots"]) fun _ _ _ _ _ _ us hl => match us, hl with | [_, _, _], _ => rfl
 obtain ⟨p19, q19, a19, F19⟩ := d19
 have m19 := CZ X G a19
 have b19 := F19.binds (ps := ["strip"]) fun _ _ _ _ _ _ us hl => match us, hl with | [_], _ => rfl
 obtain ⟨p20, q20, a20, F20⟩ := d20
 have m20 := CZ X G a20
 have b20 := F20.binds (ps := ["digits"]) fun _ _ _ _ _ _ us hl => match us, hl with | [_], _ => rfl
 obtain ⟨p21, q21, a21, F21⟩ := d21
 have m21 := CZ X G a21
 have b21 := F21.binds (ps := ["digits"]) fun _ _ _ _ _ _ us hl => match us, hl with | [_], _ => rfl
 obtain ⟨p22, q22, a22, F22⟩ := d22
 have m22 := CZ X G a22
 have b22 := F22.binds (ps := ["text"]) fun _ _ _ _ _ _ us hl => match us, hl with | [_], _ => rfl
 obtain ⟨p23, q23, a23, F23⟩ := d23
 have m23 := CZ X G a23
 have b23 := F23.binds (ps := ["reader", "width", "rows_before"]) fun _ _ _ _ _ _ us hl => match us, hl with | [_, _, _], _ => rfl
 obtain ⟨p24, q24, a24, F24⟩ := d24
 have m24 := CZ X G a24
 have b24 := F24.binds (ps := ["reader", "width"]) fun _ _ _ _ _ _ us hl => match us, hl with | [_, _], _ => rfl
 obtain ⟨p25, q25, a25, F25⟩ := d25
 have m25 := CZ X G a25
 have b25 := F25.binds (ps := ["number", "numbers", "text"]) fun _ _ _ _ _ _ us hl => match us, hl with | [_, _, _], _ => rfl
 obtain ⟨p26, q26, a26, F26⟩ := d26
 have m26 := CZ X G a26
 have b26 := F26.binds (ps := ["number"]) fun _ _ _ _ _ _ us hl => match us, hl with | [_], _ => rfl
 obtain ⟨p27, q27, a27, F27⟩ := d27
 have m27 := CZ X G a27
 have b27 := F27.binds (ps := ["text"]) fun _ _ _ _ _ _ us hl => match us, hl with | [_], _ => rfl
 obtain ⟨p28, q28, a28, F28⟩ := d28
 have m28 := CZ X G a28
 have b28 := F28.binds (ps := ["strips", "strip"]) fun _ _ _ _ _ _ us hl => match us, hl with | [_, _], _ => rfl
 obtain ⟨p29, q29, a29, F29⟩ := d29
 have m29 := CZ X G a29
 have b29 := F29.binds (ps := ["strips", "numbers", "given"]) fun _ _ _ _ _ _ us hl => match us, hl with | [_, _, _], _ => rfl
 obtain ⟨p30, q30, a30, F30⟩ := d30
 have m30 := CZ X G a30
 have b30 := F30.binds (ps := ["strips", "numbers", "given"]) fun _ _ _ _ _ _ us hl => match us, hl with | [_, _, _], _ => rfl
 obtain ⟨p31, q31, a31, F31⟩ := d31
 have m31 := CZ X G a31
 have b31 := F31.binds (ps := ["strips", "numbers", "given"]) fun _ _ _ _ _ _ us hl => match us, hl with | [_, _, _], _ => rfl
 obtain ⟨p32, q32, a32, F32⟩ := d32
 have m32 := CZ X G a32
 have b32 := F32.binds (ps := ["strips", "numbers", "given"]) fun _ _ _ _ _ _ us hl => match us, hl with | [_, _, _], _ => rfl
 obtain ⟨p33, q33, a33, F33⟩ := d33
 have m33 := CZ X G a33
 have b33 := F33.binds (ps := ["strips", "numbers", "given"]) fun _ _ _ _ _ _ us hl => match us, hl with | [_, _, _], _ => rfl
 obtain ⟨p34, q34, a34, F34⟩ := d34
 have m34 := CZ X G a34
 have b34 := F34.binds (ps := ["strips", "numbers", "given"]) fun _ _ _ _ _ _ us hl => match us, hl with | [_, _, _], _ => rfl
 obtain ⟨p35, q35, a35, F35⟩ := d35
 have m35 := CZ X G a35
 have b35 := F35.binds (ps := ["strips", "numbers", "given"]) fun _ _ _ _ _ _ us hl => match us, hl with | [_, _, _], _ => rfl
 obtain ⟨p36, q36, a36, F36⟩ := d36
 have m36 := CZ X G a36
 have b36 := F36.binds (ps := ["strips", "numbers", "given"]) fun _ _ _ _ _ _ us hl => match us, hl with | [_, _, _], _ => rfl
 obtain ⟨p37, q37, a37, F37⟩ := d37
 have m37 := CZ X G a37
 have b37 := F37.binds (ps := ["strips", "numbers", "given"]) fun _ _ _ _ _ _ us hl => match us, hl with | [_, _, _], _ => rfl
 obtain ⟨p38, q38, a38, F38⟩ := d38
 have m38 := CZ X G a38
 have b38 := F38.binds (ps := ["strips", "numbers", "given"]) fun _ _ _ _ _ _ us hl => match us, hl with | [_, _, _], _ => rfl
 obtain ⟨p39, q39, a39, F39⟩ := d39
 have m39 := CZ X G a39
 have b39 := F39.binds (ps := ["strips", "numbers", "given"]) fun _ _ _ _ _ _ us hl => match us, hl with | [_, _, _], _ => rfl
 obtain ⟨p40, q40, a40, F40⟩ := d40
 have m40 := CZ X G a40
 have b40 := F40.binds (ps := ["strips", "numbers", "given"]) fun _ _ _ _ _ _ us hl => match us, hl with | [_, _, _], _ => rfl
 obtain ⟨p41, q41, a41, F41⟩ := d41
 have m41 := CZ X G a41
 have b41 := F41.binds (ps := ["strips", "numbers", "given"]) fun _ _ _ _ _ _ us hl => match us, hl with | [_, _, _], _ => rfl
 obtain ⟨p42, q42, a42, F42⟩ := d42
 have m42 := CZ X G a42
 have b42 := F42.binds (ps := ["strips", "numbers", "given"]) fun _ _ _ _ _ _ us hl => match us, hl with | [_, _, _], _ => rfl
 obtain ⟨p43, q43, a43, F43⟩ := d43
 have m43 := CZ X G a43
 have b43 := F43.binds (ps := ["strips", "numbers", "given"]) fun _ _ _ _ _ _ us hl => match us, hl with | [_, _, _], _ => rfl
 obtain ⟨p44, q44, a44, F44⟩ := d44
 have m44 := CZ X G a44
 have b44 := F44.binds (ps := ["strips", "named"]) fun _ _ _ _ _ _ us hl => match us, hl with | [_, _], _ => rfl
 obtain ⟨p45, q45, a45, F45⟩ := d45
 have m45 := CZ X G a45
 have b45 := F45.binds (ps := ["width", "program"]) fun _ _ _ _ _ _ us hl => match us, hl with | [_, _], _ => rfl
 obtain ⟨p46, q46, a46, F46⟩ := d46
 have m46 := CZ X G a46
 have b46 := F46.binds (ps := ["strips", "call", "numbers", "given"]) fun _ _ _ _ _ _ us hl => match us, hl with | [_, _, _, _], _ => rfl
 obtain ⟨p47, q47, a47, F47⟩ := d47
 have m47 := CZ X G a47
 have b47 := F47.binds (ps := ["calls"]) fun _ _ _ _ _ _ us hl => match us, hl with | [_], _ => rfl
 obtain ⟨CS, cS, nW, nR, fI, fdI, meI, FI⟩ := tS
 obtain ⟨CR, cR, nT, nP, ⟨fRI, fdRI, meRI, FRI⟩, ⟨fRe, fdRe, meRe, FRe⟩, ⟨fRs, fdRs, meRs, FRs⟩, ⟨fRt, fdRt, meRt, FRt⟩, ⟨fRd, fdRd, meRd, FRd⟩, ⟨fRn, fdRn, meRn, FRn⟩⟩ := tR
 obtain ⟨CF, NF, fF, fdF, aF, xF, FF, nFP⟩ := tF
 obtain ⟨aS, aA, aO, rowsS, rowsA, eS, eA, eO, tabS, okS, tabA, okA, okO⟩ := tT
 have lookS := sx okS
 have lookA := rb okA
 have bI := FI.binds (ps := ["self", "width", "rows"]) fun _ _ _ _ _ _ us hl => match us, hl with | [_, _, _], _ => rfl
 have bRI := FRI.binds (ps := ["self", "text"]) fun _ _ _ _ _ _ us hl => match us, hl with | [_, _], _ => rfl
 have bRe := FRe.binds (ps := ["self"]) fun _ _ _ _ _ _ us hl => match us, hl with | [_], _ => rfl
 have bRs := FRs.binds (ps := ["self", "byte"]) fun _ _ _ _ _ _ us hl => match us, hl with | [_, _], _ => rfl
 have bRt := FRt.binds (ps := ["self", "byte"]) fun _ _ _ _ _ _ us hl => match us, hl with | [_, _], _ => rfl
 have bRd := FRd.binds (ps := ["self"]) fun _ _ _ _ _ _ us hl => match us, hl with | [_], _ => rfl
 have bRn := FRn.binds (ps := ["self", "lowest", "highest"]) fun _ _ _ _ _ _ us hl => match us, hl with | [_, _, _], _ => rfl
 have bF := FF.binds (ps := ["self", "place"]) fun _ _ _ _ _ _ us hl => match us, hl with | [_, _], _ => rfl
 have B : TB mg := ⟨PySem.W.mg_none_of X G f0, PySem.W.mg_none_of X G f1, PySem.W.mg_none_of X G f2, PySem.W.mg_none_of X G f3, PySem.W.mg_none_of X G f4, PySem.W.mg_none_of X G f5, PySem.W.mg_none_of X G f6, PySem.W.mg_none_of X G f7, PySem.W.mg_none_of X G f8⟩
 have B2 : TT2 mg := ⟨PySem.W.mg_none_of X G f9, PySem.W.mg_none_of X G f10, let ⟨t, e⟩ := hH; ⟨t, CZ X G e⟩⟩
 have N : TN mg := ⟨let ⟨t, e⟩ := i9; ⟨t, CZ X G e⟩, let ⟨t, e⟩ := i7; ⟨t, CZ X G e⟩, let ⟨t, e⟩ := i8; ⟨t, CZ X G e⟩, let ⟨t, e⟩ := i5; ⟨t, CZ X G e⟩, let ⟨t, e⟩ := i6; ⟨t, CZ X G e⟩, let ⟨t, e⟩ := i0; ⟨t, CZ X G e⟩, let ⟨t, e⟩ := i1; ⟨t, CZ X G e⟩⟩
 have M : TM mg := ⟨let ⟨t, e⟩ := i10; ⟨t, CZ X G e⟩, let ⟨t, e⟩ := i11; ⟨t, CZ X G e⟩, let ⟨t, e⟩ := i12; ⟨t, CZ X G e⟩, let ⟨t, e⟩ := i13; ⟨t, CZ X G e⟩, let ⟨t, e⟩ := i14; ⟨t, CZ X G e⟩, let ⟨t, e⟩ := i15; ⟨t, CZ X G e⟩, let ⟨t, e⟩ := i16; ⟨t, CZ X G e⟩, let ⟨t, e⟩ := i17; ⟨t, CZ X G e⟩, let ⟨t, e⟩ := i18; ⟨t, CZ X G e⟩⟩
 have NP : TP mg := ⟨let ⟨t, e⟩ := i2; ⟨t, CZ X G e⟩, let ⟨t, e⟩ := i3; ⟨t, CZ X G e⟩, let ⟨t, e⟩ := i4; ⟨t, CZ X G e⟩⟩
 have T : cn K mg CS := ⟨cS.cl, nW, nR, CZ X G cS.at_⟩
 have R : cx K mg CR := ⟨cR.cl, nT, nP, CZ X G cR.at_⟩
 have TT : BW K mg := ⟨⟨aS, rowsS, CZ X G eS, tabS, lookS⟩, ⟨aO, CZ X G eO, fun H => xk okO H⟩⟩
 have ez := hfa.symm.trans m47
 cases ez
 refine ⟨q47, fun s us hu => ?_, fun base kin gns => ?_⟩
 ·obtain ⟨oc, od, kV, doc, pm, an, cdv, ct, osl, rfl, lk, hcd⟩ := F47.ex
  exact match us, hu with | [_], _ => .of_eq rfl
 have MS : jC P w K mg base CS := ⟨T, fI, fdI, ⟨cS.mks, meI.at_, meI.fn, cS.kc⟩, bI, lj FI T⟩
 have MR : vq P w K mg base CR := ⟨R, fRI, fdRI, ⟨cR.mks, meRI.at_, meRI.fn, cR.kc⟩, bRI, jI FRI R⟩
 have TF : nH P w K mg base CF (cI CF) := ⟨⟨NF, fF, fdF, xF, bF, lm FF xF nFP⟩, nFP, CZ X G aF⟩
 have cRuns : ao P w K mg base "runs_of" ["strip"] 1 (ma CS) := ⟨p0, q0, m0, F0.kp, b0, yG F0 T B⟩
 have cHoles : ao P w K mg base "hole_count" ["strip"] 1 (kF CS) := ⟨p1, q1, m1, F1.kp, b1, wn F1 T B⟩
 have cMost : ao P w K mg base "most_in_a_track" ["strip"] 1 (rZ CS) := ⟨p2, q2, m2, F2.kp, b2, yL F2 T B⟩
 have cUnl : ao P w K mg base "unlike_tracks" ["one", "other"] 1 (ir CS) := ⟨p3, q3, m3, F3.kp, b3, tQ F3 B⟩
 have cDiff : ao P w K mg base "first_difference" ["one", "other"] 2 (sj CS) := ⟨p4, q4, m4, F4.kp, b4, yO F4 T B cUnl⟩
 have cTRow : ao P w K mg base "turned_row" ["row", "width"] 1 spTRow := ⟨p6, q6, m6, F6.kp, b6, yB F6 B⟩
 have cTurned : ao P w K mg base "turned" ["strip"] 3 (kD CS) := ⟨p5, q5, m5, F5.kp, b5, tU F5 MS cTRow⟩
 have cMRow : ao P w K mg base "moved_row" ["row", "by", "width"] 1 spMRow := ⟨p8, q8, m8, F8.kp, b8, yK F8⟩
 have cMoved : ao P w K mg base "moved" ["strip", "by"] 3 (nY CS) := ⟨p7, q7, m7, F7.kp, b7, wm F7 MS cMRow⟩
 have cPart : ao P w K mg base "part" ["strip", "first", "count"] 3 (rY CS) := ⟨p9, q9, m9, F9.kp, b9, yJ F9 MS⟩
 have cPF : ao P w K mg base "program_fault" ["width", "program"] 1 spFaultP := ⟨p10, q10, m10, F10.kp, b10, tZ F10 NP N B⟩
 have cSP : ao P w K mg base "strip_of_program" ["width", "program"] 3 (fN CS) := ⟨p11, q11, m11, F11.kp, b11, tW F11 MS NP B⟩
 have cTC : ao P w K mg base "turn_count" ["program"] 1 spTurns := ⟨p12, q12, m12, F12.kp, b12, wc F12 NP B⟩
 have cBR : ao P w K mg base "bytes_of_rows" ["count"] 1 spBytes := ⟨p14, q14, m14, F14.kp, b14, wo F14 NP⟩
 have cPO : ao P w K mg base "program_of" ["strip"] 2 (pB CS) := ⟨p13, q13, m13, F13.kp, b13, yI F13 NP cRuns cUnl cBR⟩
 have cSlots : ao P w K mg base "slots_of" ["strip"] 1 (nU CS) := ⟨p15, q15, m15, F15.kp, b15, wg F15 T B⟩
 have cOrd : ao P w K mg base "in_order" ["slots", "place"] 1 (nX K) := ⟨p17, q17, m17, F17.kp, b17, wl F17⟩
 have cStand : ao P w K mg base "standing_slots" ["width", "length", "slots"] 2 (nQ K) := ⟨p16, q16, m16, F16.kp, b16, wf F16 B cOrd⟩
 have cFill : ao P w K mg base "strip_of_slots" ["width", "length", "slots"] 3 (r9 K CS) := ⟨p18, q18, m18, F18.kp, b18, yN F18 MS B⟩
 have cText : ao P w K mg base "text_of" ["strip"] 2 (rW CS) := ⟨p19, q19, m19, F19.kp, b19, yC F19 T B B2 cRuns⟩
 have cIsN : ao P w K mg base "is_number" ["digits"] 1 (nZ K) := ⟨p20, q20, m20, F20.kp, b20, tY F20 B N⟩
 have cVal : ao P w K mg base "value_of" ["digits"] 1 (x9 K) := ⟨p21, q21, m21, F21.kp, b21, Ay F21 N⟩
 have xEnd : bV P w K mg base CX0 CR "at_end" ["self"] 1 (kH K CR) := ⟨fRe, fdRe, meRe, bRe, ub FRe R B⟩
 have xSees : bV P w K mg base CX0 CR "sees" ["self", "byte"] 2 (pA K CR) := ⟨fRs, fdRs, meRs, bRs, yF FRs R xEnd⟩
 have xTake : bV P w K mg base (CX1 P w) CR "take" ["self", "byte"] 3 (jS K CR CF) := ⟨fRt, fdRt, meRt, bRt, yD FRt R TF xSees⟩
 have xDig : bV P w K mg base CX0 CR "digits_here" ["self"] 1 (kG K CR) := ⟨fRd, fdRd, meRd, bRd, ua FRd R B N⟩
 have xNum : bV P w K mg base (CX1 P w) CR "take_number" ["self", "lowest", "highest"] 3 (dq K CR CF) := ⟨fRn, fdRn, meRn, bRn, oN FRn R B TF xDig cIsN cVal⟩
 have cTr : gS P w K mg base "take_tracks" ["reader", "width"] 4 (kE K CR CF) := ⟨p24, q24, m24, F24.kp, b24, tV F24 R N xSees xTake xNum⟩
 have cRun : gS P w K mg base "take_run" ["reader", "width", "rows_before"] 5 (ya K CR CF) := ⟨p23, q23, m23, F23.kp, b23, Az F23 R B N TF xTake xNum cTr⟩
 have cRT : gS P w K mg base "strip_of_text" ["text"] 6 (nV K CS CF) := ⟨p22, q22, m22, F22.kp, b22, wj F22 MS MR N B2 xEnd xTake xNum cRun⟩
 have cAns : cg P w K mg base "answer" ["number", "numbers", "text"] 1 spAns := ⟨p25, q25, m25, F25.kp, b25, AB F25 B⟩
 have cAl : ao P w K mg base "number_alone" ["number"] 2 spAlone := ⟨p26, q26, m26, F26.kp, b26, ww F26 cAns⟩
 have cCt : ao P w K mg base "counted_text" ["text"] 2 spCounted := ⟨p27, q27, m27, F27.kp, b27, qE F27 B cAns⟩
 have cKeep : ao P w K mg base "keep" ["strips", "strip"] 3 (gU CS) := ⟨p28, q28, m28, F28.kp, b28, yM F28 B M cAl⟩
 have cThere : ao P w K mg base "all_there" ["strips", "named"] 1 spThere := ⟨p44, q44, m44, F44.kp, b44, we F44 B (PySem.W.mg_none_of X G f11)⟩
 have cRef : ao P w K mg base "refusal_of_program" ["width", "program"] 3 spRefuse := ⟨p45, q45, m45, F45.kp, b45, tX F45 B M N cAl cAns cPF⟩
 have TA2 : B9 P w K mg base CS := ⟨aA, rowsA, CZ X G eA, tabA, ⟨p29, q29, lookA 1 "answer_read" p29 (by simp [names]) a29, F29.kp, b29, (yH F29 B M TF cAl cRT cAns cKeep).mono (by decide)⟩, ⟨p30, q30, lookA 2 "answer_text" p30 (by simp [names]) a30, F30.kp, b30, (wq F30 cText cCt).mono (by decide)⟩, ⟨p31, q31, lookA 3 "answer_size" p31 (by simp [names]) a31, F31.kp, b31, (yE F31 T B cRuns cAns).mono (by decide)⟩, ⟨p32, q32, lookA 4 "answer_row" p32 (by simp [names]) a32, F32.kp, b32, (AA F32 T B M cAl cAns).mono (by decide)⟩, ⟨p33, q33, lookA 5 "answer_holes" p33 (by simp [names]) a33, F33.kp, b33, (ug F33 cAl cHoles).mono (by decide)⟩, ⟨p34, q34, lookA 6 "answer_slots" p34 (by simp [names]) a34, F34.kp, b34, (uc F34 B cSlots cAns).mono (by decide)⟩, ⟨p35, q35, lookA 7 "answer_fill" p35 (by simp [names]) a35, F35.kp, b35, (wx F35 B M N cAl cAns cStand cFill cKeep).mono (by decide)⟩, ⟨p36, q36, lookA 8 "answer_diff" p36 (by simp [names]) a36, F36.kp, b36, (wy F36 T B M cAl cAns cDiff).mono (by decide)⟩, ⟨p37, q37, lookA 9 "answer_turned" p37 (by simp [names]) a37, F37.kp, b37, (qF F37 cTurned cKeep).mono (by decide)⟩, ⟨p38, q38, lookA 10 "answer_moved" p38 (by simp [names]) a38, F38.kp, b38, (uf F38 cMoved cKeep).mono (by decide)⟩, ⟨p39, q39, lookA 11 "answer_part" p39 (by simp [names]) a39, F39.kp, b39, (wu F39 T B M cAl cPart cKeep).mono (by decide)⟩, ⟨p40, q40, lookA 12 "answer_program" p40 (by simp [names]) a40, F40.kp, b40, (wr F40 cPO cCt).mono (by decide)⟩, ⟨p41, q41, lookA 13 "answer_punch" p41 (by simp [names]) a41, F41.kp, b41, (ue F41 cSP cKeep).mono (by decide)⟩, ⟨p42, q42, lookA 14 "answer_busy" p42 (by simp [names]) a42, F42.kp, b42, (wz F42 T B cSP cHoles cTC cMost cAns).mono (by decide)⟩, ⟨p43, q43, lookA 15 "answer_short" p43 (by simp [names]) a43, F43.kp, b43, (ud F43 cSP cPO cCt).mono (by decide)⟩⟩
 have cCall : ao P w K mg base "answer_call" ["strips", "call", "numbers", "given"] 8 (pD CS) := ⟨p46, q46, m46, F46.kp, b46, yP F46 M TT TA2 cAl cThere cRef⟩
 exact AC F47 B TT cCall
end PH
end
section
section
namespace L2
open PySem PySem.Spec PyProof.Rows
open PySem.W (WData Codec OpenSpec Well WellAll ReadsW ReadsAllW)
mutual
inductive Dw (K : Fg) (H : Hp) : V -> WData -> Prop
 | non : Dw K H .non .none
 | bl (b : Bool) : Dw K H (.bl b) (.bool b)
 | int (i : Int) : Dw K H (.int i) (.int i)
 | str (x : Str) : Dw K H (.str x) (.str x)
 | byt (b : Array UInt8) : Dw K H (.byt b) (.bytes b.toList)
 | lst {a : Addr} {xs : List V} {ds : List WData} : SqL K H a xs -> ij K H xs ds -> Dw K H (.ref a) (.list ds)
 | tup {a : Addr} {xs : List V} {ds : List WData} : SqT K H a xs -> ij K H xs ds -> Dw K H (.ref a) (.tuple ds)
inductive ij (K : Fg) (H : Hp) : List V -> List WData -> Prop
 | nil : ij K H [] []
 | cons {v : V} {vs : List V} {d : WData} {ds : List WData} : Dw K H v d -> ij K H vs ds -> ij K H (v :: vs) (d :: ds)
end
theorem dw_ints {K : Fg} {H : Hp} : ∀ ns : List Int, ij K H (ns.map V.int) (ns.map WData.int)
 | [] => .nil
 | n :: r => .cons (.int n) (dw_ints r)
theorem ints_dw {K : Fg} {H : Hp} : ∀ (ns : List Int) (xs : List V), ij K H xs (ns.map WData.int) -> xs = ns.map V.int
 | [], xs, h => by
  cases h
  rfl
 | n :: r, xs, h => by
  cases h with
  | cons h1 h2 =>
   cases h1
   rw [ints_dw r _ h2] <;> rfl
section
variable {P : Program} {w : World} {K : Fg} {H : Hp} {h : Heap} {R : PySem.W.WRecords} {cl : Str -> Option Addr}
theorem zW {a : Addr} {xs : List V} (hok : HOk P w H h) (KX : K.In h) (q : SqL K H a xs) : ∃ (its : List Value) (o : Obj) (n : Nat), aV xs its /\ h.get? a = some o /\ o.cls = .type "list" /\ o.data = .seq its.toArray n := by
 rcases q with q | ⟨o, its, n, e, hc, _, hd, _, hv⟩
 ·obtain ⟨_, its, n, hv, e⟩ := (show bu P w H h a (.lst xs) from q.ok hok)
  exact ⟨its, _, n, hv, e, rfl, rfl⟩
 ·exact ⟨its.toList, o, n, hv, KX _ _ e, hc, by simp [hd]⟩
theorem zV {a : Addr} {xs : List V} (hok : HOk P w H h) (KX : K.In h) (q : SqT K H a xs) : ∃ (its : List Value) (o : Obj) (n : Nat), aV xs its /\ h.get? a = some o /\ o.cls = .type "tuple" /\ o.data = .seq its.toArray n := by
 rcases q with q | ⟨o, its, n, e, hc, hd, _, hv⟩
 ·obtain ⟨_, its, hv, o, e, hc, n, hd⟩ := (show bu P w H h a (.tup xs) from q.ok hok)
  exact ⟨its, o, n, hv, e, hc, hd⟩
 ·exact ⟨its.toList, o, n, hv, KX _ _ e, hc, by simp [hd]⟩
mutual
theorem Dw.reads (hok : HOk P w H h) (KX : K.In h) : ∀ (d : WData) (v : V) (u : Value), Dw K H v d -> bm v u -> ∃ as, ReadsW R cl h u d as
 | .none, _, _, x, r => by
  cases x
  cases r
  exact ⟨_, ReadsW.none⟩
 | .bool b, _, _, x, r => by
  cases x
  cases r
  exact ⟨_, ReadsW.bool b⟩
 | .int i, _, _, x, r => by
  cases x
  obtain ⟨t, rfl⟩ := r
  exact ⟨_, ReadsW.int i t⟩
 | .str s, _, _, x, r => by
  cases x
  obtain ⟨t, rfl⟩ := r
  exact ⟨_, ReadsW.str s t⟩
 | .bytes b, _, _, x, r => by
  cases x
  obtain ⟨t, rfl⟩ := r
  exact ⟨_, ReadsW.bytes _ t⟩
 | .list ds, _, _, x, r => by
  cases x with
  | lst hs ha =>
   cases r
   obtain ⟨its, o, n, rv, ho, hc, hd⟩ := zW hok KX hs
   obtain ⟨as, hr⟩ := Dw.readsAll hok KX ds _ its ha rv
   exact ⟨_, ReadsW.list ho hc hd hr⟩
 | .tuple ds, _, _, x, r => by
  cases x with
  | tup hs ha =>
   cases r
   obtain ⟨its, o, n, rv, ho, hc, hd⟩ := zV hok KX hs
   obtain ⟨as, hr⟩ := Dw.readsAll hok KX ds _ its ha rv
   exact ⟨_, ReadsW.tuple ho hc hd hr⟩
 | .float _, _, _, x, _ => by cases x
 | .dict _, _, _, x, _ => by cases x
 | .bytearray _, _, _, x, _ => by cases x
 | .set _, _, _, x, _ => by cases x
 | .frozenset _, _, _, x, _ => by cases x
 | .obj _ _, _, _, x, _ => by cases x
theorem Dw.readsAll (hok : HOk P w H h) (KX : K.In h) : ∀ (ds : List WData) (vs : List V) (us : List Value), ij K H vs ds -> aV vs us -> ∃ as, ReadsAllW R cl h us ds as
 | [], _, _, x, r => by
  cases x
  cases r
  exact ⟨_, ReadsAllW.nil⟩
 | d :: ds, _, _, x, r => by
  cases x with
  | cons h1 h2 =>
   cases r with
   | cons r1 r2 =>
    obtain ⟨as, q1⟩ := Dw.reads hok KX d _ _ h1 r1
    obtain ⟨bs, q2⟩ := Dw.readsAll hok KX ds _ _ h2 r2
    exact ⟨_, ReadsAllW.cons q1 q2⟩
end
end
mutual
def plW : WData -> Bool
 | .none => true
 | .bool _ => true
 | .int _ => true
 | .str _ => true
 | .bytes _ => true
 | .list xs => rm xs
 | .tuple xs => rm xs
 | _ => false
def rm : List WData -> Bool
 | [] => true
 | x :: r => plW x && rm r
end
theorem pR {α : Type} {f : α -> WData} (h : ∀ a, plW (f a) = true) : ∀ l : List α, rm (l.map f) = true
 | [] => rfl
 | x :: r => by
  show (plW (f x) && rm (r.map f)) = true
  rw [h x, pR h r] <;> rfl
theorem g9 : ∀ (c : Codec) (a : c.denote), plW (c.enc a) = true
 | .unit, _ => rfl
 | .bool, _ => rfl
 | .int _ _, _ => rfl
 | .nat _ _, _ => rfl
 | .u8, _ => rfl
 | .bytes _ _, _ => rfl
 | .text _ _ _ _, _ => rfl
 | .list _ _ c, a => pR (fun x => g9 c x) a
 | .pair c d, a => by
  show (plW (c.enc a.1) && (plW (d.enc a.2) && true)) = true
  rw [g9 c a.1, g9 d a.2] <;> rfl
 | .triple c d e, a => by
  show (plW (c.enc a.1) && (plW (d.enc a.2.1) && (plW (e.enc a.2.2) && true))) = true
  rw [g9 c a.1, g9 d a.2.1, g9 e a.2.2] <;> rfl
 | .option c, none => rfl
 | .option c, some x => g9 c x
theorem mr : ∀ (cs : List Codec) (a : Codec.denoteAll cs), rm (Codec.encAll cs a) = true
 | [], _ => rfl
 | c :: cs, a => by
  show (plW (c.enc a.1) && rm (Codec.encAll cs a.2)) = true
  rw [g9 c a.1, mr cs a.2] <;> rfl
theorem gz : ∀ {xs : List WData} {d : WData}, d ∈ xs -> d.weight <= WData.weightAll xs
 | [], d, h => absurd h (by simp)
 | x :: r, d, h => by
  show d.weight <= x.weight + 1 + WData.weightAll r
  rcases C5.mp h with e | m
  ·rw [e]
   omega
  ·have z := gz m
   omega
def toV : Value -> V
 | .none => .non
 | .bool b => .bl b
 | .int i _ => .int i
 | .str x _ => .str x
 | .bytes b _ => .byt b
 | .ref a => .ref a
 | _ => .non
def OkU (A : List Addr) : Value -> Prop
 | .none => True
 | .bool _ => True
 | .int _ _ => True
 | .str _ _ => True
 | .bytes _ _ => True
 | .ref a => a ∈ A
 | _ => False
theorem OkU.mono {A B : List Addr} (h : ∀ a ∈ A, a ∈ B) : ∀ {u : Value}, OkU A u -> OkU B u := fun {u} x => by
 cases u with
 | ref a => exact h a x
 | none => trivial
 | bool b => trivial
 | int i t => trivial
 | str s t => trivial
 | bytes b t => trivial
 | _ => exact False.elim x
theorem vX {A : List Addr} {u : Value} (x : OkU A u) : bm (toV u) u := by
 cases u with
 | ref a => rfl
 | none => rfl
 | bool b => rfl
 | int i t => exact ⟨t, rfl⟩
 | str s t => exact ⟨t, rfl⟩
 | bytes b t => exact ⟨t, rfl⟩
 | _ => exact False.elim x
theorem dR {A : List Addr} : ∀ {vs : List Value}, (∀ u ∈ vs, OkU A u) -> aV (vs.map toV) vs
 | [], _ => .nil
 | u :: r, h => .cons (vX (h u (C3 ..))) (dR fun x hx => h x (C2 _ hx))
def ik (h : Heap) (A : List Addr) (a : Addr) : Prop := ∃ vs : List Value, vs.length <= sizeLine /\ (∀ u ∈ vs, OkU A u) /\
 (h.get? a = some { cls := .type "list", data := .seq vs.toArray } ∨ h.get? a = some { cls := .type "tuple", data := .seq vs.toArray })
theorem ik.mono {h : Heap} {A B : List Addr} {a : Addr} (k : ∀ a ∈ A, a ∈ B) (x : ik h A a) : ik h B a := by
 obtain ⟨vs, h1, h2, h3⟩ := x
 exact ⟨vs, h1, fun u hu => (h2 u hu).mono k, h3⟩
theorem cF {P : Params} {h : Heap} : ∀ {vs : List Value} {ds : List WData}, WellAll P h vs ds -> vs.length = ds.length
 | _, _, .nil => rfl
 | _, _, .cons _ b => by
  show _ + 1 = _ + 1
  rw [cF b]
theorem lV {P : Params} {h : Heap} {v : Value} {ds : List WData} (x : Well P h v (.list ds)) : ∃ (a : Addr) (vs : List Value), v = .ref a /\ h.get? a = some { cls := .type "list", data := .seq vs.toArray } /\ WellAll P h vs ds := by
 cases x with
 | list ho hall => exact ⟨_, _, rfl, ho, hall⟩
theorem jP {P : Params} {h : Heap} {v : Value} {ds : List WData} (x : Well P h v (.tuple ds)) : ∃ (a : Addr) (vs : List Value), v = .ref a /\ h.get? a = some { cls := .type "tuple", data := .seq vs.toArray } /\ WellAll P h vs ds := by
 cases x with
 | tuple ho hall => exact ⟨_, _, rfl, ho, hall⟩
theorem lW {P : Params} {h : Heap} {us : List Value} {d : WData} {ds : List WData} (x : WellAll P h us (d :: ds)) : ∃ (v : Value) (vs : List Value), us = v :: vs /\ Well P h v d /\ WellAll P h vs ds := by
 cases x with
 | cons a b => exact ⟨_, _, rfl, a, b⟩
theorem uu {n : Nat} (h : n <= 1048576) : n <= sizeLine := Nat.le_trans h (by decide)
section
variable {P : Params} {h : Heap}
mutual
theorem xh : ∀ (d : WData) (v : Value), Well P h v d -> plW d = true -> d.weight <= 1048576 -> ∃ A : List Addr, OkU A v /\ ∀ a ∈ A, ik h A a
 | .none, _, x, _, _ => by
  cases x
  exact ⟨[], trivial, fun a m => absurd m (by simp)⟩
 | .bool b, _, x, _, _ => by
  cases x
  exact ⟨[], trivial, fun a m => absurd m (by simp)⟩
 | .int i, _, x, _, _ => by
  cases x
  exact ⟨[], trivial, fun a m => absurd m (by simp)⟩
 | .str s, _, x, _, _ => by
  cases x
  exact ⟨[], trivial, fun a m => absurd m (by simp)⟩
 | .bytes b, _, x, _, _ => by
  cases x
  exact ⟨[], trivial, fun a m => absurd m (by simp)⟩
 | .list ds, _, x, p, z => by
  obtain ⟨a, vs, rfl, ho, hall⟩ := lV x
  have z2 : WData.weightAll ds <= 1048576 := z
  obtain ⟨A, h1, h2⟩ := iB ds _ hall p fun d hd => Nat.le_trans (gz hd) z2
  have k : ∀ b ∈ A, b ∈ a :: A := fun b hb => C2 _ hb
  refine ⟨a :: A, C3 .., fun b hb => ?_⟩
  rcases C5.mp hb with e | m
  ·rw [e]
   exact ⟨vs, uu (by rw [cF hall]; exact Nat.le_trans (PySem.W.length_le_weightAllW ds) z2), fun u hu => (h1 u hu).mono k, .inl ho⟩
  ·exact (h2 b m).mono k
 | .tuple ds, _, x, p, z => by
  obtain ⟨a, vs, rfl, ho, hall⟩ := jP x
  have z2 : WData.weightAll ds <= 1048576 := z
  obtain ⟨A, h1, h2⟩ := iB ds _ hall p fun d hd => Nat.le_trans (gz hd) z2
  have k : ∀ b ∈ A, b ∈ a :: A := fun b hb => C2 _ hb
  refine ⟨a :: A, C3 .., fun b hb => ?_⟩
  rcases C5.mp hb with e | m
  ·rw [e]
   exact ⟨vs, uu (by rw [cF hall]; exact Nat.le_trans (PySem.W.length_le_weightAllW ds) z2), fun u hu => (h1 u hu).mono k, .inr ho⟩
  ·exact (h2 b m).mono k
 | .float _, _, _, p, _ => Bool.noConfusion (show false = true from p)
 | .dict _, _, _, p, _ => Bool.noConfusion (show false = true from p)
 | .bytearray _, _, _, p, _ => Bool.noConfusion (show false = true from p)
 | .set _, _, _, p, _ => Bool.noConfusion (show false = true from p)
 | .frozenset _, _, _, p, _ => Bool.noConfusion (show false = true from p)
 | .obj _ _, _, _, p, _ => Bool.noConfusion (show false = true from p)
theorem iB : ∀ (ds : List WData) (vs : List Value), WellAll P h vs ds -> rm ds = true -> (∀ d ∈ ds, d.weight <= 1048576) -> ∃ A : List Addr, (∀ u ∈ vs, OkU A u) /\ ∀ a ∈ A, ik h A a
 | [], _, x, _, _ => by
  cases x
  exact ⟨[], fun u m => absurd m (by simp), fun a m => absurd m (by simp)⟩
 | d :: ds, _, x, p, z => by
  obtain ⟨v, vs, rfl, x1, x2⟩ := lW x
  have q : plW d = true /\ rm ds = true := Bool.and_eq_true_iff.mp p
  obtain ⟨A, a1, a2⟩ := xh d v x1 q.1 (z d (C3 ..))
  obtain ⟨B, b1, b2⟩ := iB ds vs x2 q.2 fun e he => z e (C2 _ he)
  have kA : ∀ b ∈ A, b ∈ A ++ B := fun b hb => Dh.mpr (.inl hb)
  have kB : ∀ b ∈ B, b ∈ A ++ B := fun b hb => Dh.mpr (.inr hb)
  refine ⟨A ++ B, fun u hu => ?_, fun b hb => ?_⟩
  ·rcases C5.mp hu with e | m
   ·rw [e]
    exact a1.mono kA
   ·exact (b1 u m).mono kB
  ·rcases Dh.mp hb with m | m
   ·exact (a2 b m).mono kA
   ·exact (b2 b m).mono kB
end
end
def Bn (o : Obj) : Option HO := match o.data with
 | .seq vs _ => if (o.cls == Value.type "list") = true then some (.frz o (.lst (vs.toList.map toV))) else some (.frz o (.tup (vs.toList.map toV)))
 | _ => none
def lM (K : Fg) (h : Heap) (A : List Addr) : Hp := fun b => if b ∈ A then (if (K.lookup b).isNone = true then (h.get? b).bind Bn else none) else none
def vp (H : Hp) : Prop := ∀ b, H b = none ∨ ∃ o u, H b = some (.frz o u)
theorem qg (vs : List Value) : Bn { cls := .type "list", data := .seq vs.toArray } = some (.frz { cls := .type "list", data := .seq vs.toArray } (.lst (vs.map toV))) := by
 show (if (Value.type "list" == Value.type "list") = true then some (HO.frz { cls := .type "list", data := .seq vs.toArray } (.lst (vs.toArray.toList.map toV))) else some (HO.frz { cls := .type "list", data := .seq vs.toArray } (.tup (vs.toArray.toList.map toV)))) = _
 rw [if_pos (beq_self_eq_true _)]
theorem qf (vs : List Value) : Bn { cls := .type "tuple", data := .seq vs.toArray } = some (.frz { cls := .type "tuple", data := .seq vs.toArray } (.tup (vs.map toV))) := by
 show (if (Value.type "tuple" == Value.type "list") = true then some (HO.frz { cls := .type "tuple", data := .seq vs.toArray } (.lst (vs.toArray.toList.map toV))) else some (HO.frz { cls := .type "tuple", data := .seq vs.toArray } (.tup (vs.toArray.toList.map toV)))) = _
 rw [if_neg (by decide)]
section
variable {P : Program} {w : World} {K : Fg} {h : Heap} {A : List Addr}
theorem lK {b : Addr} {o : Obj} (hb : b ∈ A) (hk : K.lookup b = none) (e : h.get? b = some o) : lM K h A b = Bn o := by
 unfold lM
 rw [if_pos hb, hk, if_pos (show (none : Option Obj).isNone = true from rfl), e] <;> rfl
theorem yR {b : Addr} {u : HO} (q : lM K h A b = some u) : b ∈ A /\ K.lookup b = none := by
 unfold lM at q
 by_cases hb : b ∈ A
 ·rw [if_pos hb] at q
  cases hk : K.lookup b with
  | none => exact ⟨hb, rfl⟩
  | some o =>
   rw [hk, if_neg (by simp)] at q
   cases q
 ·rw [if_neg hb] at q
  cases q
theorem lJ (ar : ∀ a ∈ A, ik h A a) {b : Addr} {u : HO} (q : lM K h A b = some u) : K.lookup b = none /\ ∃ vs : List Value, vs.length <= sizeLine /\ (∀ u ∈ vs, OkU A u) /\
  ((h.get? b = some { cls := .type "list", data := .seq vs.toArray } /\ u = .frz { cls := .type "list", data := .seq vs.toArray } (.lst (vs.map toV))) ∨
   (h.get? b = some { cls := .type "tuple", data := .seq vs.toArray } /\ u = .frz { cls := .type "tuple", data := .seq vs.toArray } (.tup (vs.map toV)))) := by
 obtain ⟨hb, hk⟩ := yR q
 obtain ⟨vs, h1, h2, h3⟩ := ar b hb
 refine ⟨hk, vs, h1, h2, ?_⟩
 rcases h3 with e | e
 ·rw [lK hb hk e, qg] at q
  exact .inl ⟨e, (C8 q).symm⟩
 ·rw [lK hb hk e, qf] at q
  exact .inr ⟨e, (C8 q).symm⟩
theorem vk (ar : ∀ a ∈ A, ik h A a) : vp (lM K h A) := fun b => by
 cases q : lM K h A b with
 | none => exact .inl rfl
 | some u =>
  obtain ⟨_, vs, _, _, ⟨_, e⟩ | ⟨_, e⟩⟩ := lJ ar q
  ·exact .inr ⟨_, _, by rw [e]⟩
  ·exact .inr ⟨_, _, by rw [e]⟩
theorem zq (ar : ∀ a ∈ A, ik h A a) : HOk P w (lM K h A) h := fun b u q => by
 obtain ⟨_, vs, h1, h2, ⟨e, rfl⟩ | ⟨e, rfl⟩⟩ := lJ ar q
 ·exact ⟨e, by rw [CP]; exact h1, vs, _, dR h2, e⟩
 ·exact ⟨e, by rw [CP]; exact h1, vs, dR h2, _, e, rfl, _, rfl⟩
theorem kK {c c' : Value} {vs us : List Value} (e : (some { cls := c, data := .seq vs.toArray } : Option Obj) = some { cls := c', data := .seq us.toArray }) : c = c' /\ vs = us := by
 have e1 := C8 e
 have e2 : c = c' := congrArg Obj.cls e1
 have e3 : Data.seq vs.toArray = Data.seq us.toArray := congrArg Obj.data e1
 injection e3 with e4
 refine ⟨e2, ?_⟩
 have e5 := congrArg Array.toList e4
 simpa using e5
theorem CK (KX : K.In h) (ar : ∀ a ∈ A, ik h A a) {a : Addr} {vs : List Value} (ha : a ∈ A) (e : h.get? a = some { cls := .type "list", data := .seq vs.toArray }) : (∀ u ∈ vs, OkU A u) /\ SqL K (lM K h A) a (vs.map toV) := by
 obtain ⟨us, h1, h2, h3⟩ := ar a ha
 have hu : us = vs := by
  rcases h3 with q | q
  ·rw [e] at q
   exact (kK q).2.symm
  ·rw [e] at q
   exact absurd (Value.type.inj (kK q).1) (by decide)
 subst hu
 refine ⟨h2, ?_⟩
 cases hk : K.lookup a with
 | none => exact .inl (.inr ⟨_, by rw [lK ha hk e, qg]⟩)
 | some o =>
  have e2 := KX a o hk
  rw [e] at e2
  obtain rfl := C8 e2
  exact .inr ⟨_, us.toArray, _, hk, rfl, rfl, rfl, by rw [Dk]; exact h1, by simpa using dR h2⟩
theorem CJ (KX : K.In h) (ar : ∀ a ∈ A, ik h A a) {a : Addr} {vs : List Value} (ha : a ∈ A) (e : h.get? a = some { cls := .type "tuple", data := .seq vs.toArray }) : (∀ u ∈ vs, OkU A u) /\ SqT K (lM K h A) a (vs.map toV) := by
 obtain ⟨us, h1, h2, h3⟩ := ar a ha
 have hu : us = vs := by
  rcases h3 with q | q
  ·rw [e] at q
   exact absurd (Value.type.inj (kK q).1) (by decide)
  ·rw [e] at q
   exact (kK q).2.symm
 subst hu
 refine ⟨h2, ?_⟩
 cases hk : K.lookup a with
 | none => exact .inl (.inr ⟨_, by rw [lK ha hk e, qf]⟩)
 | some o =>
  have e2 := KX a o hk
  rw [e] at e2
  obtain rfl := C8 e2
  exact .inr ⟨_, us.toArray, _, hk, rfl, rfl, by rw [Dk]; exact h1, by simpa using dR h2⟩
mutual
theorem AV {Pm : Params} (KX : K.In h) (ar : ∀ a ∈ A, ik h A a) : ∀ (d : WData) (v : Value), Well Pm h v d -> plW d = true -> OkU A v -> Dw K (lM K h A) (toV v) d
 | .none, _, x, _, _ => by
  cases x
  exact .non
 | .bool b, _, x, _, _ => by
  cases x
  exact .bl b
 | .int i, _, x, _, _ => by
  cases x
  exact .int i
 | .str s, _, x, _, _ => by
  cases x
  exact .str s
 | .bytes b, _, x, _, _ => by
  cases x
  have z := Dw.byt (K := K) (H := lM K h A) b.toArray
  exact z
 | .list ds, _, x, p, hu => by
  obtain ⟨a, vs, rfl, ho, hall⟩ := lV x
  obtain ⟨h2, hs⟩ := CK KX ar hu ho
  exact .lst hs (qo KX ar ds _ hall p h2)
 | .tuple ds, _, x, p, hu => by
  obtain ⟨a, vs, rfl, ho, hall⟩ := jP x
  obtain ⟨h2, hs⟩ := CJ KX ar hu ho
  exact .tup hs (qo KX ar ds _ hall p h2)
 | .float _, _, _, p, _ => Bool.noConfusion (show false = true from p)
 | .dict _, _, _, p, _ => Bool.noConfusion (show false = true from p)
 | .bytearray _, _, _, p, _ => Bool.noConfusion (show false = true from p)
 | .set _, _, _, p, _ => Bool.noConfusion (show false = true from p)
 | .frozenset _, _, _, p, _ => Bool.noConfusion (show false = true from p)
 | .obj _ _, _, _, p, _ => Bool.noConfusion (show false = true from p)
theorem qo {Pm : Params} (KX : K.In h) (ar : ∀ a ∈ A, ik h A a) : ∀ (ds : List WData) (vs : List Value), WellAll Pm h vs ds -> rm ds = true -> (∀ u ∈ vs, OkU A u) -> ij K (lM K h A) (vs.map toV) ds
 | [], _, x, _, _ => by
  cases x
  exact .nil
 | d :: ds, _, x, p, hu => by
  obtain ⟨v, vs, rfl, x1, x2⟩ := lW x
  have q : plW d = true /\ rm ds = true := Bool.and_eq_true_iff.mp p
  exact .cons (AV KX ar d v x1 q.1 (hu _ (C3 ..))) (qo KX ar ds vs x2 q.2 fun u m => hu u (C2 _ m))
end
end
theorem rV {P : Program} {w : World} {K : Fg} {mg mb : Str -> Option Value} {CX : CXT} {k : Nat} {fa : Addr} {fd : FuncData} {ps : List Str} {sp : Sp} {s₁ : Shared} {vals : List Value} {ds : List WData} {R : PySem.W.WRecords} {cl : Str -> Option Addr} {d0 : WData}
  (KX : K.In s₁.heap) (hns : s₁.heap.Ns mainGlobals mg) (hb : s₁.heap.Ns builtinsNs mb) (hbb : ∀ x : Str, x ≠ "__name__" -> mb x = bootBuiltins x) (hlim : s₁.heap.NoLimit) (hg : s₁.gens = #[])
  (hwl : WellAll w.params s₁.heap vals ds) (hpl : rm ds = true) (hwt : ∀ d ∈ ds, d.weight <= 1048576) (hr : bG k callerA)
  (F : ∀ base : Heap, K.In base -> base.Ns mainGlobals mg -> bc P w K mg base CX k fa fd ps sp) (hbind : ∀ (s : Shared) (us : List Value), us.length = ps.length -> BindsTo s fd ⟨us, []⟩ (ps.zip us)) (hlen : ds.length = ps.length)
  (hsp : ∀ (H : Hp) (xs : List V), vp H -> ij K H xs ds -> sp xs H (fun v H' => Dw K H' v d0) fun _ _ _ => False)
  (hCX : ∀ H e s', CX [] H s₁ (fun _ _ _ => False) e s' -> False) :
  codeAny (model P w) callerA (.call (.ref fa) ⟨vals, []⟩) (fun r s' => ∃ u as, r = .ok (.ret u) /\ ReadsW R cl s'.heap u d0 as /\ OldK s₁.heap s'.heap /\ s'.os = s₁.os /\ AllBare s'.gens) s₁ := by
 obtain ⟨A, ho, ar⟩ := iB ds vals hwl hpl hwt
 have hO : vp (lM K s₁.heap A) := vk ar
 have hok : HOk P w (lM K s₁.heap A) s₁.heap := zq ar
 have hS := qo KX ar ds vals hwl hpl ho
 have hV := dR ho
 have hK : ∀ b u, lM K s₁.heap A b = some u -> K.lookup b = none := fun b u q => (lJ ar q).1
 have noA : ∀ {b : Addr} {o : Obj} {es : Array DictEntry} {ep : Nat}, s₁.heap.get? b = some o -> o.data = .dict es ep -> lM K s₁.heap A b = none := fun {b o es ep} e d => by
  cases q : lM K s₁.heap A b with
  | none => rfl
  | some u =>
   obtain ⟨_, vs, _, _, ⟨e2, _⟩ | ⟨e2, _⟩⟩ := lJ ar q
   ·rw [e2] at e
    cases e
    have d' : Data.seq vs.toArray _ = Data.dict es ep := d
    cases d'
   ·rw [e2] at e
    cases e
    have d' : Data.seq vs.toArray _ = Data.dict es ep := d
    cases d'
 generalize lM K s₁.heap A = H at hO hok hS hK noA
 have base_of : ∀ {b : Addr} {o : Obj}, s₁.heap.get? b = some o -> H b = none -> (wM s₁.heap H).get? b = some o := fun e n => wL e n
 have nsK : ∀ {b : Addr} {m : Str -> Option Value}, s₁.heap.Ns b m -> (wM s₁.heap H).Ns b m := fun {b m} ⟨o, es, ep, e, d, r⟩ => ⟨o, es, ep, base_of e (noA e d), d, r⟩
 have nK : ∀ b o, K.lookup b = some o -> H b = none := fun b o e => by
  cases q : H b with
  | none => rfl
  | some u =>
   rw [hK b u q] at e
   cases e
 have hKb : K.In (wM s₁.heap H) := fun b o e => base_of (KX b o e) (nK b o e)
 have hM : Mod K mg (wM s₁.heap H) := ⟨hKb, nsK hns, ⟨mb, nsK hb, hbb⟩, let ⟨mc, h1, h2⟩ := hlim; ⟨mc, nsK h1, h2⟩⟩
 have e0 : vv P w K mg (wM s₁.heap H) callerA [] s₁ H := ⟨rfl, hM, fun b o e => yQ e, Nat.le_of_eq (uE _ _), trivial, fun b hb => absurd (show b ∈ ([] : List Addr) from hb) (by simp), hok, .of_eq hg⟩
 have hl : vals.length = ps.length := by rw [cF hwl]; exact hlen
 refine codeAny_mono ((F _ hKb (nsK hns)).run callerA [] s₁ H ⟨vals, []⟩ vals (vals.map toV) _ _ hr e0 (hbind s₁ vals hl) hV (hsp H _ hO hS)) fun r s' x => ?_
 cases r with
 | error e => exact (hCX H e s' x).elim
 | ok fl =>
  cases fl with
  | next => exact False.elim x
  | brk => exact False.elim x
  | cont => exact False.elim x
  | ret u =>
   obtain ⟨v, H', os, bare, un, hok', r', q⟩ := x
   have kept : ∀ b o, s₁.heap.get? b = some o -> s'.heap.get? b = some o := fun b o e => by
    cases q2 : H b with
    | none => exact un.keep b o e q2 (by intro z; exact absurd (show b ∈ ([] : List Addr) from z) (by simp)) (by simp)
    | some u2 =>
     rcases hO b with z | ⟨ob, u3, z⟩
     ·rw [q2] at z
      cases z
     ·have z2 := un.frzs b ob _ z
      obtain ⟨e1, _⟩ := hok b _ z
      obtain ⟨e2, _⟩ := hok' b _ z2
      rw [e] at e1
      cases e1
      exact e2
   have KX' : K.In s'.heap := fun b o e => kept b o (KX b o e)
   obtain ⟨as, hrd⟩ := Dw.reads (R := R) (cl := cl) hok' KX' d0 v u q r'
   exact ⟨u, as, rfl, hrd, OldK.of_keep kept, os, bare⟩
theorem jM {ds : List WData} (h : WData.layableAll ds = true) : ∀ d ∈ ds, d.weight <= 1048576 := fun d hd =>
 (PySem.W.layableW_iff.mp (List.all_eq_true.mp h d hd)).2.2
theorem j9 : ∀ (cs : List Codec) (a : Codec.denoteAll cs), (Codec.encAll cs a).length = cs.length
 | [], _ => rfl
 | c :: cs, a => by
  show (Codec.encAll cs a.2).length + 1 = cs.length + 1
  rw [j9 cs a.2]
theorem rp {r : OpenSpec} {k : Nat} {q : Program} {loose : List Str} {XP : (Str -> Option Value) -> Heap -> Prop} {YP : World -> Heap -> Prop} {d : DefRec} {K : Params -> Fg} {CX : World -> CXT} {ps : List Str} {sp : World -> Sp}
  (hwell : r.wellSaid = true) (hdf : d.params.defaults = []) (hlen : r.args.length = ps.length) (hr : bG k callerA)
  (hY : ∀ (w : World) (h : Heap), YP w h -> (K w.params).In h)
  (F : ∀ (w : World) (mg : Str -> Option Value) (fa : Addr) (h : Heap), YP w h -> (K w.params).In h -> h.Ns mainGlobals mg -> mg d.name = some (.ref fa) ->
   ∃ fd : FuncData, (∀ (s : Shared) (us : List Value), us.length = ps.length -> BindsTo s fd ⟨us, []⟩ (ps.zip us)) /\
    ∀ base : Heap, (K w.params).In base -> base.Ns mainGlobals mg -> bc r.prog w (K w.params) mg base (CX w) k fa fd ps (sp w))
  (hsp : ∀ (w : World) (H : Hp) (xs : List V) (a : Codec.denoteAll r.args), vp H -> Codec.withinAll r.args a = true -> Codec.app r.args r.asked a = true -> ij (K w.params) H xs (Codec.encAll r.args a) ->
   sp w xs H (fun v H' => Dw (K w.params) H' v (r.ret.enc (Codec.app r.args r.f a))) fun _ _ _ => False)
  (hCX : ∀ (w : World) (H : Hp) (s : Shared) (e : Value) (s' : Shared), CX w [] H s (fun _ _ _ => False) e s' -> False) :
  PySem.W.WalkOS q loose XP YP r d [] (fun f vs => PySem.call f vs) := by
 intro w s_0 s₁ mg mb G Y fa o pm cd doc dV kV ho hd hcd hD hmg hg args vals as hpre hlay hrd hwl hlo
 obtain ⟨a, e1, e2⟩ := PySem.W.os_pre_some hpre
 obtain ⟨e3, hwi⟩ := Codec.encAll_of_decAll r.args args a e1
 subst e3
 have KX := hY w _ Y
 obtain ⟨fd, hb, hF⟩ := F w mg fa _ Y KX G.T.g hmg
 refine PySem.W.enter_call (codeAny_mono (rV (R := []) (cl := classAt s_0.heap) (d0 := r.ret.enc (Codec.app r.args r.f a)) KX G.T.g G.T.b G.T.builtins G.T.nolimit hg hwl (mr _ _) (jM hlay) hr hF hb (by rw [j9]; exact hlen)
  (fun H xs hO hS => hsp w H xs a hO hwi e2 hS) fun H e s' => hCX w H s₁ e s') fun r' s' hq => ?_)
 obtain ⟨u, as', rfl, h1, h2, h3, h4⟩ := hq
 exact ⟨.inl ⟨u, _, as', rfl, fun _ => rfl, h1, (OpenSpec.post_iff hwell hwi _ _).mpr rfl, fun z => Bool.noConfusion (show false = true from z)⟩, h2, h3, h4⟩
theorem walk_specK {r : OpenSpec} {k : Nat} {q : Program} {loose : List Str} {XP : (Str -> Option Value) -> Heap -> Prop} {YP : World -> Heap -> Prop} {d : DefRec} {K : Params -> Fg} {CX : CXT} {ps : List Str} {sp : Fg -> Sp}
  (hwell : r.wellSaid = true) (hdf : d.params.defaults = []) (hlen : r.args.length = ps.length) (hr : bG k callerA)
  (hY : ∀ (w : World) (h : Heap), YP w h -> (K w.params).In h)
  (F : ∀ (w : World) (mg : Str -> Option Value) (fa : Addr) (h : Heap), YP w h -> (K w.params).In h -> h.Ns mainGlobals mg -> mg d.name = some (.ref fa) ->
   ∃ fd : FuncData, (∀ (s : Shared) (us : List Value), us.length = ps.length -> BindsTo s fd ⟨us, []⟩ (ps.zip us)) /\
    ∀ base : Heap, (K w.params).In base -> base.Ns mainGlobals mg -> bc r.prog w (K w.params) mg base CX k fa fd ps (sp (K w.params)))
  (hsp : ∀ (K : Fg) (H : Hp) (xs : List V) (a : Codec.denoteAll r.args), vp H -> Codec.withinAll r.args a = true -> Codec.app r.args r.asked a = true -> ij K H xs (Codec.encAll r.args a) ->
   sp K xs H (fun v H' => Dw K H' v (r.ret.enc (Codec.app r.args r.f a))) fun _ _ _ => False)
  (hCX : ∀ (H : Hp) (s : Shared) (e : Value) (s' : Shared), CX [] H s (fun _ _ _ => False) e s' -> False) :
  PySem.W.WalkOS q loose XP YP r d [] (fun f vs => PySem.call f vs) :=
 rp (K := K) (CX := fun _ => CX) (sp := fun w => sp (K w.params)) hwell hdf hlen hr hY F (fun w H xs a h1 h2 h3 h4 => hsp (K w.params) H xs a h1 h2 h3 h4) fun _ H s e s' => hCX H s e s'
end L2
end
end
namespace PySem.W.Fast
def tw11660142985991378794 := 0
def tw14965839941949615020 := 0
def tw13457616144072620660 := 0
def tw16583769576833602400 := 0
def tw17147799305862764078 := 0
def tw14716261668691739739 := 0
def tw11575855601178759822 := 0
def tw5075484454549571572 := 0
def tw11174404672398771138 := 0
def tw5588732061529734822 := 0
def tw3231643212622286043 := 0
def tw7988818432996978261 := 0
def tw3462727932474324128 := 0
def tw10412128981608624507 := 0
def tw16788544798567073253 := 0
def tw14903134621698211950 := 0
def tw10842176432243137199 := 0
def tw11088189787211982843 := 0
def tw13556007659228093428 := 0
def tw8383041429769190815 := 0
def tw3834429521446050176 := 0
def tw13552972497316121386 := 0
def tw3396380838122899163 := 0
def tw17523516022048519160 := 0
def tw10844618839818622277 := 0
def tw3888049920817326098 := 0
def tw16995922432054288617 := 0
def tw5709415337656893029 := 0
def tw8786879529147696927 := 0
def tw12359496019791680158 := 0
def tw10133810386120196146 := 0
def tw15169521283905287699 := 0
def tw8593077945593546861 := 0
def tw12126154405869022203 := 0
def tw17775027649127502191 := 0
def tw5494024562086871796 := 0
def tw7540542742246121005 := 0
def tw2343457541982793564 := 0
def tw13815373900073256993 := 0
def tw12576799498413517696 := 0
def tw8389623279956885928 := 0
def tw14528831526613513459 := 0
def tw8906324795151658670 := 0
def tw3287333483396981824 := 0
def tw4297345221615598011 := 0
def tw10216493578347796471 := 0
def tw2224786022209882518 := 0
def tw10236727903242052389 := 0
def tw3142443132352299087 := 0
def tw15605007385154125671 := 0
def tw9337948512007080687 := 0
def tw15565377718824618651 := 0
def tw5574422836239567057 := 0
def tw17556302939251166048 := 0
def tw13921962840224381522 := 0
def tw8306123088425444921 := 0
def tw9118896031394200196 := 0
def tw6525981205943924630 := 0
def tw1249239039060760295 := 0
def tw12686756088254747312 := 0
def tw116188848432150235 := 0
def tw16367463952909783636 := 0
def tw769770495974147251 := 0
def tw8852406562797511755 := 0
def tw7362606247192469035 := 0
def tw17687862506065929100 := 0
def tw15308769086767858846 := 0
def tw14586692246127706003 := 0
def tw10531766083985336780 := 0
def tw1220322083540772817 := 0
def tw10543544590484027111 := 0
def tw5017740737661380869 := 0
def tw17390502908028832738 := 0
def tw10765458172107644816 := 0
def tw14546768414381779945 := 0
def tw8609803463820673937 := 0
def tw16529996838338688953 := 0
def tw6882524627380080500 := 0
def tw4713223628914054377 := 0
def tw1666481269322634339 := 0
def tw3530811703934592942 := 0
def tw5339688474201657708 := 0
def tw431280571107510900 := 0
def tw3634656146936698024 := 0
def tw6555292871178940551 := 0
def tw1950843045397074164 := 0
def tw17083128138651569396 := 0
def tw414138692702201568 := 0
def tw1903056351147447584 := 0
def tw2342658730658335226 := 0
def tw1100434805993166896 := 0
def tw8848103833523218528 := 0
def tw15356280577864355098 := 0
def tw5807682102362997050 := 0
def tw5449996089666015586 := 0
def tw4401574665882718647 := 0
def tw2630813340577607285 := 0
def tw15943521308095543556 := 0
def tw9413167210469423302 := 0
def tw3112222646459541233 := 0
def tw9710410153621326729 := 0
def tw1730001556416760878 := 0
def tw6402982404644965766 := 0
def tw16827938246347651745 := 0
def tw14473592741457967983 := 0
def tw13360711520919742467 := 0
def tw5144728494951769436 := 0
def tw5308190280574798936 := 0
def tw2291096589144406259 := 0
def tw2717389713269090856 := 0
def tw10726414192411649968 := 0
def tw1442374792972045587 := 0
def tw13764104491723296881 := 0
def tw10647676814983353249 := 0
def tw167518963437927407 := 0
def tw2390987120720216374 := 0
def tw12679802553060650500 := 0
def tw17210923713887273421 := 0
def tw123955793078648577 := 0
def tw14558492875181957889 := 0
def tw3817307911775859453 := 0
def tw16729751851176316777 := 0
def tw11889490021990505111 := 0
def tw1757101852647306536 := 0
def tw3466200546222646118 := 0
def tw5820183757393154888 := 0
def tw11148914224366767654 := 0
def tw3854281609199315340 := 0
def tw16143193811368293368 := 0
def tw1483523778764523189 := 0
def tw5334145753092032222 := 0
def tw6412775893118395189 := 0
def tw16521710935764618154 := 0
def tw7824329654360650533 := 0
def tw9299311814192735628 := 0
def tw15123137912784957244 := 0
def tw8808964337095817835 := 0
def tw3775478694766912062 := 0
def tw4648350531766705833 := 0
def tw11101394988072998582 := 0
def tw6338729184853002136 := 0
def tw10867185119258659672 := 0
def tw10883841342366481604 := 0
def tw7277573016104615194 := 0
def tw5192989451177316099 := 0
def tw13030027065516034231 := 0
def tw8780052464594592132 := 0
def tw10916755862927194453 := 0
def tw823406004325608597 := 0
def tw18152218377530843367 := 0
def tw1310734136434145920 := 0
def tw1724624725667255168 := 0
def tw12717595278560109081 := 0
def tw17959326301722875848 := 0
def tw6470572282947129371 := 0
def tw8815314924711847857 := 0
def tw9675446177872922447 := 0
def tw12858354423585926836 := 0
def tw4598858961759396911 := 0
def tw12370431846372215531 := 0
def tw10274344388058588446 := 0
def tw14683448254667884137 := 0
def tw13267639886762695023 := 0
def tw15656946885520694565 := 0
def tw14510367812212545992 := 0
def tw1238982990185838373 := 0
def tw11537191113964654037 := 0
def tw8623333820089869242 := 0
def tw6109746931931500052 := 0
def tw10924776530734991767 := 0
end PySem.W.Fast
open PySem PySem.W PyProof.Rows
set_option maxRecDepth 100000 in
set_option maxHeartbeats 0 in
theorem PySem.Challenge.cw_punchhall_s01_answers_holds : PySem.Challenge.rw_punchhall_s01_answers.Holds := by
 w_on; k_headS; (case hw => exact ⟨[.list [.int 3, .int 0]], by decide +kernel, by decide +kernel⟩)
 k_fillS
 refine L2.walk_specK (r := PySem.Challenge.rw_punchhall_s01_answers) (k := 9) (CX := L2.CX0) (ps := ["calls"]) (sp := PH.spAll) (by decide +kernel) rfl rfl ⟨rfl, by decide, by decide⟩ (fun w h Y => PySem.W.kIn_of Y) ?F ?S (fun _ _ _ _ z => z)
 case F =>
  intro w mg fa h Y KX G hmg
  refine' PH.all_mk KX G hmg ?d0 ?d1 ?d2 ?d3 ?d4 ?d5 ?d6 ?d7 ?d8 ?d9 ?d10 ?d11 ?d12 ?d13 ?d14 ?d15 ?d16 ?d17 ?d18 ?d19 ?d20 ?d21 ?d22 ?d23 ?d24 ?d25 ?d26 ?d27 ?d28 ?d29 ?d30 ?d31 ?d32 ?d33 ?d34 ?d35 ?d36 ?d37 ?d38 ?d39 ?d40 ?d41 ?d42 ?d43 ?d44 ?d45 ?d46 ?d47 ?tS ?tR ?tF ?tT ?hH ?i0 ?i1 ?i2 ?i3 ?i4 ?i5 ?i6 ?i7 ?i8 ?i9 ?i10 ?i11 ?i12 ?i13 ?i14 ?i15 ?i16 ?i17 ?i18 ?f0 ?f1 ?f2 ?f3 ?f4 ?f5 ?f6 ?f7 ?f8 ?f9 ?f10 ?f11
  (case d0 => refine' PH.def_in ?a ?l ?c ?k; (case a => k_is); (case l => k_is); (case c => k_is); (case k => k_is))
  (case d1 => refine' PH.def_in ?a ?l ?c ?k; (case a => k_is); (case l => k_is); (case c => k_is); (case k => k_is))
  (case d2 => refine' PH.def_in ?a ?l ?c ?k; (case a => k_is); (case l => k_is); (case c => k_is); (case k => k_is))
  (case d3 => refine' PH.def_in ?a ?l ?c ?k; (case a => k_is); (case l => k_is); (case c => k_is); (case k => k_is))
  (case d4 => refine' PH.def_in ?a ?l ?c ?k; (case a => k_is); (case l => k_is); (case c => k_is); (case k => k_is))
  (case d5 => refine' PH.def_in ?a ?l ?c ?k; (case a => k_is); (case l => k_is); (case c => k_is); (case k => k_is))
  (case d6 => refine' PH.def_in ?a ?l ?c ?k; (case a => k_is); (case l => k_is); (case c => k_is); (case k => k_is))
  (case d7 => refine' PH.def_in ?a ?l ?c ?k; (case a => k_is); (case l => k_is); (case c => k_is); (case k => k_is))
  (case d8 => refine' PH.def_in ?a ?l ?c ?k; (case a => k_is); (case l => k_is); (case c => k_is); (case k => k_is))
  (case d9 => refine' PH.def_in ?a ?l ?c ?k; (case a => k_is); (case l => k_is); (case c => k_is); (case k => k_is))
  (case d10 => refine' PH.def_in ?a ?l ?c ?k; (case a => k_is); (case l => k_is); (case c => k_is); (case k => k_is))
  (case d11 => refine' PH.def_in ?a ?l ?c ?k; (case a => k_is); (case l => k_is); (case c => k_is); (case k => k_is))
  (case d12 => refine' PH.def_in ?a ?l ?c ?k; (case a => k_is); (case l => k_is); (case c => k_is); (case k => k_is))
  (case d13 => refine' PH.def_in ?a ?l ?c ?k; (case a => k_is); (case l => k_is); (case c => k_is); (case k => k_is))
  (case d14 => refine' PH.def_in ?a ?l ?c ?k; (case a => k_is); (case l => k_is); (case c => k_is); (case k => k_is))
  (case d15 => refine' PH.def_in ?a ?l ?c ?k; (case a => k_is); (case l => k_is); (case c => k_is); (case k => k_is))
  (case d16 => refine' PH.def_in ?a ?l ?c ?k; (case a => k_is); (case l => k_is); (case c => k_is); (case k => k_is))
  (case d17 => refine' PH.def_in ?a ?l ?c ?k; (case a => k_is); (case l => k_is); (case c => k_is); (case k => k_is))
  (case d18 => refine' PH.def_in ?a ?l ?c ?k; (case a => k_is); (case l => k_is); (case c => k_is); (case k => k_is))
  (case d19 => refine' PH.def_in ?a ?l ?c ?k; (case a => k_is); (case l => k_is); (case c => k_is); (case k => k_is))
  (case d20 => refine' PH.def_in ?a ?l ?c ?k; (case a => k_is); (case l => k_is); (case c => k_is); (case k => k_is))
  (case d21 => refine' PH.def_in ?a ?l ?c ?k; (case a => k_is); (case l => k_is); (case c => k_is); (case k => k_is))
  (case d22 => refine' PH.def_in ?a ?l ?c ?k; (case a => k_is); (case l => k_is); (case c => k_is); (case k => k_is))
  (case d23 => refine' PH.def_in ?a ?l ?c ?k; (case a => k_is); (case l => k_is); (case c => k_is); (case k => k_is))
  (case d24 => refine' PH.def_in ?a ?l ?c ?k; (case a => k_is); (case l => k_is); (case c => k_is); (case k => k_is))
  (case d25 => refine' PH.def_in ?a ?l ?c ?k; (case a => k_is); (case l => k_is); (case c => k_is); (case k => k_is))
  (case d26 => refine' PH.def_in ?a ?l ?c ?k; (case a => k_is); (case l => k_is); (case c => k_is); (case k => k_is))
  (case d27 => refine' PH.def_in ?a ?l ?c ?k; (case a => k_is); (case l => k_is); (case c => k_is); (case k => k_is))
  (case d28 => refine' PH.def_in ?a ?l ?c ?k; (case a => k_is); (case l => k_is); (case c => k_is); (case k => k_is))
  (case d29 => refine' PH.def_in ?a ?l ?c ?k; (case a => k_is); (case l => k_is); (case c => k_is); (case k => k_is))
  (case d30 => refine' PH.def_in ?a ?l ?c ?k; (case a => k_is); (case l => k_is); (case c => k_is); (case k => k_is))
  (case d31 => refine' PH.def_in ?a ?l ?c ?k; (case a => k_is); (case l => k_is); (case c => k_is); (case k => k_is))
  (case d32 => refine' PH.def_in ?a ?l ?c ?k; (case a => k_is); (case l => k_is); (case c => k_is); (case k => k_is))
  (case d33 => refine' PH.def_in ?a ?l ?c ?k; (case a => k_is); (case l => k_is); (case c => k_is); (case k => k_is))
  (case d34 => refine' PH.def_in ?a ?l ?c ?k; (case a => k_is); (case l => k_is); (case c => k_is); (case k => k_is))
  (case d35 => refine' PH.def_in ?a ?l ?c ?k; (case a => k_is); (case l => k_is); (case c => k_is); (case k => k_is))
  (case d36 => refine' PH.def_in ?a ?l ?c ?k; (case a => k_is); (case l => k_is); (case c => k_is); (case k => k_is))
  (case d37 => refine' PH.def_in ?a ?l ?c ?k; (case a => k_is); (case l => k_is); (case c => k_is); (case k => k_is))
  (case d38 => refine' PH.def_in ?a ?l ?c ?k; (case a => k_is); (case l => k_is); (case c => k_is); (case k => k_is))
  (case d39 => refine' PH.def_in ?a ?l ?c ?k; (case a => k_is); (case l => k_is); (case c => k_is); (case k => k_is))
  (case d40 => refine' PH.def_in ?a ?l ?c ?k; (case a => k_is); (case l => k_is); (case c => k_is); (case k => k_is))
  (case d41 => refine' PH.def_in ?a ?l ?c ?k; (case a => k_is); (case l => k_is); (case c => k_is); (case k => k_is))
  (case d42 => refine' PH.def_in ?a ?l ?c ?k; (case a => k_is); (case l => k_is); (case c => k_is); (case k => k_is))
  (case d43 => refine' PH.def_in ?a ?l ?c ?k; (case a => k_is); (case l => k_is); (case c => k_is); (case k => k_is))
  (case d44 => refine' PH.def_in ?a ?l ?c ?k; (case a => k_is); (case l => k_is); (case c => k_is); (case k => k_is))
  (case d45 => refine' PH.def_in ?a ?l ?c ?k; (case a => k_is); (case l => k_is); (case c => k_is); (case k => k_is))
  (case d46 => refine' PH.def_in ?a ?l ?c ?k; (case a => k_is); (case l => k_is); (case c => k_is); (case k => k_is))
  (case d47 => refine' PH.def_in ?a ?l ?c ?k; (case a => k_is); (case l => k_is); (case c => k_is); (case k => k_is))
  (case tS => refine' ⟨_, ⟨?a, ⟨?pg, ?hd, ?po, ?sa⟩, ?mk, ?kc⟩, ?nW, ?nR, PH.meth_in ?a1 ?b1 ?l1 ?c1 ?k1⟩; (case a => k_is); (case pg => k_is); (case hd => k_is); (case po => k_is); (case sa => k_is); (case mk => k_is); (case kc => k_is); (case nW => k_is); (case nR => k_is); (case a1 => k_is); (case b1 => k_is); (case l1 => k_is); (case c1 => k_is); (case k1 => k_is))
  (case tR => refine' ⟨_, ⟨?a, ⟨?pg, ?hd, ?po, ?sa⟩, ?mk, ?kc⟩, ?nT, ?nP, PH.meth_in ?a1 ?b1 ?l1 ?c1 ?k1, PH.meth_in ?a2 ?b2 ?l2 ?c2 ?k2, PH.meth_in ?a3 ?b3 ?l3 ?c3 ?k3, PH.meth_in ?a4 ?b4 ?l4 ?c4 ?k4, PH.meth_in ?a5 ?b5 ?l5 ?c5 ?k5, PH.meth_in ?a6 ?b6 ?l6 ?c6 ?k6⟩; (case a => k_is); (case pg => k_is); (case hd => k_is); (case po => k_is); (case sa => k_is); (case mk => k_is); (case kc => k_is); (case nT => k_is); (case nP => k_is); (case a1 => k_is); (case b1 => k_is); (case l1 => k_is); (case c1 => k_is); (case k1 => k_is); (case a2 => k_is); (case b2 => k_is); (case l2 => k_is); (case c2 => k_is); (case k2 => k_is); (case a3 => k_is); (case b3 => k_is); (case l3 => k_is); (case c3 => k_is); (case k3 => k_is); (case a4 => k_is); (case b4 => k_is); (case l4 => k_is); (case c4 => k_is); (case k4 => k_is); (case a5 => k_is); (case b5 => k_is); (case l5 => k_is); (case c5 => k_is); (case k5 => k_is); (case a6 => k_is); (case b6 => k_is); (case l6 => k_is); (case c6 => k_is); (case k6 => k_is))
  (case tF => refine' PH.flt_in ?a ?ob ?lN ?ns ?init ?fn ?kp ?sa ?ga ?gh ?l ?c ?k ?n; (case a => k_is); (case ob => k_is); (case lN => k_is); (case ns => exact rfl); (case init => k_is); (case fn => k_is); (case kp => k_is); (case sa => k_is); (case ga => k_is); (case gh => k_is); (case l => k_is); (case c => k_is); (case k => k_is); (case n => k_is))
  (case tT => refine' PH.tab_in ?a ?b ?c ?lS ?rS ?lA ?rA ?h1 ?h2 ?h3 ?h4 ?h5 ?h6 ?h7 ?h8 ?h9 ?h10 ?h11 ?h12 ?h13 ?h14 ?h15 ?hO ?n1 ?n2 ?n3 ?n4 ?n5 ?n6 ?n7 ?n8 ?n9 ?n10 ?n11 ?n12 ?n13 ?n14 ?n15; (case a => k_is); (case b => k_is); (case c => k_is); (case lS => k_is); (case rS => exact rfl); (case lA => k_is); (case rA => exact rfl); (case h1 => refine' PH.tup_at ?l ?h; (case l => k_is); (case h => exact rfl)); (case h2 => refine' PH.tup_at ?l ?h; (case l => k_is); (case h => exact rfl)); (case h3 => refine' PH.tup_at ?l ?h; (case l => k_is); (case h => exact rfl)); (case h4 => refine' PH.tup_at ?l ?h; (case l => k_is); (case h => exact rfl)); (case h5 => refine' PH.tup_at ?l ?h; (case l => k_is); (case h => exact rfl)); (case h6 => refine' PH.tup_at ?l ?h; (case l => k_is); (case h => exact rfl)); (case h7 => refine' PH.tup_at ?l ?h; (case l => k_is); (case h => exact rfl)); (case h8 => refine' PH.tup_at ?l ?h; (case l => k_is); (case h => exact rfl)); (case h9 => refine' PH.tup_at ?l ?h; (case l => k_is); (case h => exact rfl)); (case h10 => refine' PH.tup_at ?l ?h; (case l => k_is); (case h => exact rfl)); (case h11 => refine' PH.tup_at ?l ?h; (case l => k_is); (case h => exact rfl)); (case h12 => refine' PH.tup_at ?l ?h; (case l => k_is); (case h => exact rfl)); (case h13 => refine' PH.tup_at ?l ?h; (case l => k_is); (case h => exact rfl)); (case h14 => refine' PH.tup_at ?l ?h; (case l => k_is); (case h => exact rfl)); (case h15 => refine' PH.tup_at ?l ?h; (case l => k_is); (case h => exact rfl)); (case hO => refine' PH.tup_at ?l ?h; (case l => k_is); (case h => exact rfl)); (case n1 => k_is); (case n2 => k_is); (case n3 => k_is); (case n4 => k_is); (case n5 => k_is); (case n6 => k_is); (case n7 => k_is); (case n8 => k_is); (case n9 => k_is); (case n10 => k_is); (case n11 => k_is); (case n12 => k_is); (case n13 => k_is); (case n14 => k_is); (case n15 => k_is))
  (case hH => refine' PH.head_in ?a; (case a => k_is))
  (case i0 => refine' PH.int_in ?a; (case a => k_is))
  (case i1 => refine' PH.int_in ?a; (case a => k_is))
  (case i2 => refine' PH.int_in ?a; (case a => k_is))
  (case i3 => refine' PH.int_in ?a; (case a => k_is))
  (case i4 => refine' PH.int_in ?a; (case a => k_is))
  (case i5 => refine' PH.int_in ?a; (case a => k_is))
  (case i6 => refine' PH.int_in ?a; (case a => k_is))
  (case i7 => refine' PH.int_in ?a; (case a => k_is))
  (case i8 => refine' PH.int_in ?a; (case a => k_is))
  (case i9 => refine' PH.int_in ?a; (case a => k_is))
  (case i10 => refine' PH.int_in ?a; (case a => k_is))
  (case i11 => refine' PH.int_in ?a; (case a => k_is))
  (case i12 => refine' PH.int_in ?a; (case a => k_is))
  (case i13 => refine' PH.int_in ?a; (case a => k_is))
  (case i14 => refine' PH.int_in ?a; (case a => k_is))
  (case i15 => refine' PH.int_in ?a; (case a => k_is))
  (case i16 => refine' PH.int_in ?a; (case a => k_is))
  (case i17 => refine' PH.int_in ?a; (case a => k_is))
  (case i18 => refine' PH.int_in ?a; (case a => k_is))
  (case f0 => k_is)
  (case f1 => k_is)
  (case f2 => k_is)
  (case f3 => k_is)
  (case f4 => k_is)
  (case f5 => k_is)
  (case f6 => k_is)
  (case f7 => k_is)
  (case f8 => k_is)
  (case f9 => k_is)
  (case f10 => k_is)
  (case f11 => k_is)
 case S =>
  intro K H xs a hO hwi hask hx
  cases hx with
  | cons h1 h2 =>
   cases h2
   cases h1 with
   | lst hs ha =>
    have e := L2.ints_dw a.1 _ ha
    subst e
    have q : ((Codec.inLen 0 30000 a.1 && a.1.all (Codec.inInt (-2147483648) 4294967295)) && true) = true := hwi
    rw [C4, C4] at q
    exact ⟨_, a.1, rfl, hs, (Codec.inNat_iff.mp q.1.1).2, hask, fun H' p _ hp => .lst (L2.SqL.of hp) (L2.dw_ints _)⟩
