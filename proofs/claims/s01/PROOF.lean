import PyProof.Rows.All
import Wide.All
import OpenK.AllK
import Wide.FinOn
import PyProof.EqAt
import PyProof.EqKinds
import PyProof.TupleCall
import KE.BitLaws
import Open.SpecLaws
import KE.OsHead
import KE.OsGo
import PySem.SetOps
import PyProof.SetScanFacts
import PyProof.SetKind
import PyProof.DictKinds
import PyProof.CompMap
import PyProof.CollectWalk
import PyProof.Seq
import PyProof.FactsAll.set_1
import PyProof.FactsAll.set_2
import PyProof.Rows.SetFrom
import PyProof.SetRoads
import PyProof.SetNew
import PyProof.Walk
import PyProof.WalkLemmas
import PyProof.Rows.SortShell
import PyProof.Rows.SortWalk
import PySem.Challenge.RW_somewayall_s01_answers
section
section
set_option Elab.async false
set_option linter.all false
set_option maxRecDepth 100000
namespace L2
open PySem PySem.Spec PyProof.Rows
abbrev Key := Sum Int Str
def keyIs : Key -> Value -> Bool
 | .inl k, v => Value.isInt k v
 | .inr x, v => Value.isStrOf x v
def keyH (w : World) : Key -> Int
 | .inl k => hashInt k
 | .inr x => hashStr w x
theorem Yv : ∀ {k : Key} {v : Value}, keyIs k v = true -> (∃ i t, k = Sum.inl i /\ v = Value.int i t) \/ (∃ x t, k = Sum.inr x /\ v = Value.str x t)
 | .inl i, v, h => by
   obtain ⟨t, e⟩ := Value.isInt_shape (k := i) (v := v) h
   exact .inl ⟨i, t, rfl, e⟩
 | .inr x, v, h => by
   obtain ⟨t, e⟩ := Value.isStrOf_shape (x := x) (v := v) h
   exact .inr ⟨x, t, rfl, e⟩
theorem keyIs_int (i : Int) (t : Tok) : keyIs (.inl i) (.int i t) = true := by simp [keyIs, Value.isInt]
theorem keyIs_str (x : Str) (t : Tok) : keyIs (.inr x) (.str x t) = true := by simp [keyIs, Value.isStrOf]
theorem key_ll (a b : Int) : decide ((Sum.inl a : Key) = Sum.inl b) = (a == b) := by
 by_cases e : a = b
 . subst e; simp
 . have h : ¬ (Sum.inl a : Key) = Sum.inl b := fun q => e (Sum.inl.inj q)
   rw [decide_eq_false h]
   exact (beq_eq_false_iff_ne.mpr e).symm
theorem key_rr (a b : Str) : decide ((Sum.inr a : Key) = Sum.inr b) = decide (a = b) := by
 by_cases e : a = b
 . subst e; simp
 . have h : ¬ (Sum.inr a : Key) = Sum.inr b := fun q => e (Sum.inr.inj q)
   rw [decide_eq_false h, decide_eq_false e]
theorem key_lr (a : Int) (b : Str) : decide ((Sum.inl a : Key) = Sum.inr b) = false := decide_eq_false (fun q => nomatch q)
theorem key_rl (a : Str) (b : Int) : decide ((Sum.inr a : Key) = Sum.inl b) = false := decide_eq_false (fun q => nomatch q)
def Xf (prog : Program) (w : World) : PySem.KeyKind prog w Key where
 is := keyIs
 hash := keyH w
 inj := fun v a b ha hb => by
   rcases Yv ha with ⟨i, t, rfl, rfl⟩ | ⟨x, t, rfl, rfl⟩
   . rcases Yv hb with ⟨j, u, rfl, e⟩ | ⟨y, u, rfl, e⟩
     . injection e with e1 _; rw [e1]
     . exact nomatch e
   . rcases Yv hb with ⟨j, u, rfl, e⟩ | ⟨y, u, rfl, e⟩
     . exact nomatch e
     . injection e with e1 _; rw [e1]
 byValue := fun k v h => by
   rcases Yv h with ⟨i, t, rfl, rfl⟩ | ⟨x, t, rfl, rfl⟩ <;> rfl
 pyHash := fun hv h => by
   rcases Yv hv with ⟨i, t, rfl, rfl⟩ | ⟨x, t, rfl, rfl⟩
   . exact wpAny_pyHash_int h
   . exact wpAny_pyHash_str h
 eqBool := fun hu hv h => by
   rcases Yv hu with ⟨i, t, rfl, rfl⟩ | ⟨x, t, rfl, rfl⟩
   . rcases Yv hv with ⟨j, u, rfl, rfl⟩ | ⟨y, u, rfl, rfl⟩
     . rw [key_ll] at h; exact wpAny_eqBool_int h
     . rw [key_lr] at h; exact SeqAt.EqAt.int_str i t y u _ _ _ _ h
   . rcases Yv hv with ⟨j, u, rfl, rfl⟩ | ⟨y, u, rfl, rfl⟩
     . rw [key_rl] at h; exact SeqAt.EqAt.str_int x t j u _ _ _ _ h
     . rw [key_rr] at h; exact wpAny_eqBool_str h
 «strs» := fun k x t v h => by
   rcases Yv h with ⟨i, u, rfl, e⟩ | ⟨y, u, rfl, e⟩
   . exact nomatch e
   . injection e with e1 _
     subst e1
     cases v <;> rfl
theorem mixKind_int (prog : Program) (w : World) (i : Int) (t : Tok) : (Xf prog w).is (.inl i) (.int i t) = true := keyIs_int i t
theorem mixKind_str (prog : Program) (w : World) (x : Str) (t : Tok) : (Xf prog w).is (.inr x) (.str x t) = true := keyIs_str x t
end L2
namespace L2
open PySem PySem.Spec PyProof.Rows
inductive V where
 | non | bl (b : Bool) | int (i : Int) | str (x : Str) | byt (b : Array UInt8) | flt (b : UInt64) | ref (a : Addr) | ty (n : String)
 deriving DecidableEq
def RelV : V -> Value -> Prop
 | .non, u => u = Value.none
 | .bl b, u => u = Value.bool b
 | .int i, u => ∃ t, u = Value.int i t
 | .str x, u => ∃ t, u = Value.str x t
 | .byt b, u => ∃ t, u = Value.bytes b t
 | .flt b, u => ∃ t, u = Value.float b t
 | .ref a, u => u = Value.ref a
 | .ty n, u => u = Value.type n
abbrev Vals : List V -> List Value -> Prop := Paired RelV
theorem Vals.length {xs : List V} {us : List Value} (r : Vals xs us) : xs.length = us.length := Paired.length r
theorem Vals.get : ∀ {xs : List V} {us : List Value} {i : Nat} {x : V}, Vals xs us -> xs[i]? = some x -> ∃ u, us[i]? = some u /\ RelV x u
 | _, _, _, _, .nil, e => by simp at e
 | _, _, 0, _, .cons r _, e => by simp at e; subst e; exact ⟨_, rfl, r⟩
 | _, _, i + 1, x, .cons _ t, e => by
   obtain ⟨u, h1, h2⟩ := Vals.get (i := i) (x := x) t (by simpa using e)
   exact ⟨u, by simpa using h1, h2⟩
theorem Vals.set {x : V} {u : Value} (r : RelV x u) : ∀ {xs : List V} {us : List Value} (i : Nat), Vals xs us -> Vals (xs.set i x) (us.set i u)
 | _, _, _, .nil => .nil
 | _, _, 0, .cons _ t => .cons r t
 | _, _, i + 1, .cons q t => .cons q (Vals.set r i t)
theorem Vals.append : ∀ {xs ys : List V} {us ws : List Value}, Vals xs us -> Vals ys ws -> Vals (xs ++ ys) (us ++ ws)
 | _, _, _, _, .nil, s => s
 | _, _, _, _, .cons r t, s => .cons r (Vals.append t s)
theorem Vals.take : ∀ {xs : List V} {us : List Value} (n : Nat), Vals xs us -> Vals (xs.take n) (us.take n)
 | _, _, 0, _ => .nil
 | _, _, _ + 1, .nil => .nil
 | _, _, n + 1, .cons r t => .cons r (Vals.take n t)
theorem Vals.drop : ∀ {xs : List V} {us : List Value} (n : Nat), Vals xs us -> Vals (xs.drop n) (us.drop n)
 | _, _, 0, r => r
 | _, _, _ + 1, .nil => .nil
 | _, _, n + 1, .cons _ t => Vals.drop n t
def RelO : Option V -> Option Value -> Prop
 | some v, some u => RelV v u
 | none, none => True
 | _, _ => False
def KV {κ : Type} : List (κ × V) -> List (κ × Value) -> Prop := Paired fun (p : κ × V) (q : κ × Value) => p.1 = q.1 /\ RelV p.2 q.2
def kV : Key -> V
 | .inl i => .int i
 | .inr x => .str x
inductive HO where
 /-- a list -/
 | lst (xs : List V)
 /-- a tuple (never changes) -/
 | tup (xs : List V)
 /-- a dict whose keys are ints and texts; one whose keys are tuples of ints and texts (the empty one is both) -/
 | dK (kvs : List (Key × V)) | dT (kvs : List (List Key × V))
 /-- a set of ints: its members, its size -/
 | set (S : Int -> Bool) (n : Nat)
 /-- an instance of the class at C, its dict at dx, its attributes -/
 | ins (C dx : Addr) (fs : List (Str × V))
 /-- the dict of the instance at x -/
 | own (x : Addr)
 /-- the dict of an exception -/
 | xd (fs : List (Str × V))
 /-- a bound method, f of x -/
 | met (f x : Addr)
 /-- a range object lo, lo + 1, .. below hi -/
 | rng (lo hi : Int)
 /-- a thing that is known to the object (the script; a dict while a loop walks it): read, never written while it is so -/
 | frz (o : Obj) (u : HO)
 /-- a code object's table -/
 | tbl (ps : Array Value)
 /-- any other thing, by what is true of its one object (a def of one's own: SetO a S n := HO.ext fun h => ..) -/
 | ext (φ : Heap -> Prop)
abbrev Hp := Addr -> Option HO
def upd (H : Hp) (a : Addr) (o : HO) : Hp := fun b => if b = a then some o else H b
theorem Zb {H : Hp} {a : Addr} {o : HO} : upd H a o a = some o := by unfold upd; rw [if_pos rfl]
theorem Zl {H : Hp} {a b : Addr} {o : HO} (h : b ≠ a) : upd H a o b = H b := by unfold upd; rw [if_neg h]
theorem upd_upd {H : Hp} {a : Addr} {o u : HO} : upd (upd H a o) a u = upd H a u := by
 funext b; unfold upd; split <;> rfl
theorem Xj {H : Hp} {a b : Addr} {o u : HO} (h : H a = some o) (h' : H b = some u) (d : o ≠ u) : a ≠ b := by
 intro e; subst e; rw [h] at h'; exact d (Option.some.inj h')
theorem Yb {H : Hp} {a b : Addr} {o : HO} (h : H a = some o) (h' : H b = none) : a ≠ b := by
 intro e; subst e; rw [h] at h'; cases h'
section
variable (P : Program) (w : World)
def ObjOk (H : Hp) (h : Heap) (a : Addr) : HO -> Prop
 | .lst xs => xs.length <= sizeLine /\ ∃ (its : List Value) (n : Nat), Vals xs its /\ h.get? a = some { cls := .type "list", data := .seq its.toArray n }
 | .tup xs => xs.length <= sizeLine /\ ∃ its : List Value, Vals xs its /\ IsTup h a its.toArray
 | .dK kvs => kvs.length <= sizeLine /\ (a == sysModules) = false /\ ∃ vs, KV kvs vs /\ h.DictOf (Xf P w) a vs
 | .dT kvs => kvs.length <= sizeLine /\ (a == sysModules) = false /\ ∃ xs : List (List Key × Addr × Value),
     Paired (fun (p : List Key × V) (q : List Key × Addr × Value) => p.1 = q.1 /\ H q.2.1 = some (.tup (p.1.map kV)) /\ RelV p.2 q.2.2) kvs xs /\
     ∃ o es ep, h.get? a = some o /\ o.ExactDict /\ o.data = .dict es ep /\ es.toList = xs.map (entryOfKey (tupleKind (Xf P w))) /\ (xs.map (·.1)).Nodup
 | .set S n => h.SetOf (intKind P w) a S n
 | .ins C dx fs => H dx = some (.own a) /\ fs.length <= 1000 /\ dx ≠ a /\ h.get? a = some (PySem.W.instObj C dx) /\
     ∃ mA, h.Ns1 dx mA /\ (∀ f, RelO (fs.lookup f) (mA f)) /\ PySem.Within mA (fs.map (·.1))
 | .own _ => ∃ o, h.get? a = some o
 | .xd fs => ∃ mA, h.Ns1 a mA /\ ∀ f, RelO (fs.lookup f) (mA f)
 | .rng lo hi => ∃ t u v, h.get? a = some { cls := .type "range", data := .fields #[.int lo t, .int hi u, .int 1 v] }
 | .frz o u => h.get? a = some o /\ ObjOk H h a u
 | .tbl ps => h.get? a = some { cls := .none, data := .fields ps }
 | .met f x => h.get? a = some (PySem.W.methodObj (.ref f) (.ref x))
 | .ext φ => φ h /\ (∃ o, h.get? a = some o) /\ ∀ h1 h2 : Heap, φ h1 -> (∀ o, h1.get? a = some o -> h2.get? a = some o) -> φ h2
def HOk (H : Hp) (h : Heap) : Prop := ∀ a o, H a = some o -> ObjOk P w H h a o
end
section
variable {P : Program} {w : World} {H H' : Hp} {h h' : Heap} {a : Addr} {o : HO}
theorem ObjOk.lt (x : ObjOk P w H h a o) : a < h.objs.size := by
 cases o with
 | lst xs => obtain ⟨_, _, _, _, e⟩ := x; exact Heap.lt_size e
 | tup xs => obtain ⟨_, _, _, p⟩ := x; exact p.lt
 | dK kvs => obtain ⟨_, _, _, _, o, _, _, e, _⟩ := x; exact Heap.lt_size e
 | dT kvs => obtain ⟨_, _, _, _, o, _, _, e, _⟩ := x; exact Heap.lt_size e
 | set S n => obtain ⟨o, _, _, _, e, _⟩ := x; exact Heap.lt_size e
 | ins C dx fs => obtain ⟨_, _, _, e, _⟩ := x; exact Heap.lt_size e
 | own y => obtain ⟨_, e⟩ := x; exact Heap.lt_size e
 | xd fs => obtain ⟨_, ⟨_, _, _, e, _⟩, _⟩ := x; exact Heap.lt_size e
 | rng lo hi => obtain ⟨_, _, _, e⟩ := x; exact Heap.lt_size e
 | frz ob u => obtain ⟨e, _⟩ := x; exact Heap.lt_size e
 | tbl ps => exact Heap.lt_size (show h.get? a = some _ from x)
 | met f y => exact Heap.lt_size (show h.get? a = some _ from x)
 | ext φ => obtain ⟨_, ⟨_, e⟩, _⟩ := x; exact Heap.lt_size e
theorem Paired.mapP {α β : Type} {F G : α -> β -> Prop} : ∀ {l₁ : List α} {l₂ : List β}, Paired F l₁ l₂ -> (∀ a b, F a b -> G a b) -> Paired G l₁ l₂
 | _, _, .nil, _ => .nil
 | _, _, .cons r t, f => .cons (f _ _ r) (Paired.mapP t f)
theorem ObjOk.stay (x : ObjOk P w H h a o) (k : ∀ b u, (b = a \/ H b = some (.own a)) -> h.get? b = some u -> h'.get? b = some u)
   (ho : ∀ b, H b = some (.own a) -> H' b = some (.own a)) (ht : ∀ b xs, H b = some (.tup xs) -> H' b = some (.tup xs)) : ObjOk P w H' h' a o := by
 induction o with
 | lst xs => obtain ⟨z, its, n, r, e⟩ := x; exact ⟨z, its, n, r, k _ _ (.inl rfl) e⟩
 | tup xs => obtain ⟨z, its, r, ob, e, c⟩ := x; exact ⟨z, its, r, ob, k _ _ (.inl rfl) e, c⟩
 | dK kvs => obtain ⟨z, y, vs, r, ob, es, ep, e, c⟩ := x; exact ⟨z, y, vs, r, ob, es, ep, k _ _ (.inl rfl) e, c⟩
 | dT kvs =>
   obtain ⟨z, y, xs, r, ob, es, ep, e, c⟩ := x
   exact ⟨z, y, xs, Paired.mapP r fun p q z => ⟨z.1, ht _ _ z.2.1, z.2.2⟩, ob, es, ep, k _ _ (.inl rfl) e, c⟩
 | set S n => obtain ⟨ob, es, ep, t, e, c⟩ := x; exact ⟨ob, es, ep, t, k _ _ (.inl rfl) e, c⟩
 | ins C dx fs =>
   obtain ⟨d, z, ne, e, mA, ⟨od, es, ep, e2, c⟩, r⟩ := x
   exact ⟨ho _ d, z, ne, k _ _ (.inl rfl) e, mA, ⟨od, es, ep, k _ _ (.inr d) e2, c⟩, r⟩
 | own y => obtain ⟨ob, e⟩ := x; exact ⟨ob, k _ _ (.inl rfl) e⟩
 | xd fs => obtain ⟨mA, ⟨od, es, ep, e, c⟩, r⟩ := x; exact ⟨mA, ⟨od, es, ep, k _ _ (.inl rfl) e, c⟩, r⟩
 | rng lo hi => obtain ⟨t, u, v, e⟩ := x; exact ⟨t, u, v, k _ _ (.inl rfl) e⟩
 | frz ob u ih => obtain ⟨e, q⟩ := x; exact ⟨k _ _ (.inl rfl) e, ih q⟩
 | tbl ps =>
   have e : h.get? a = some { cls := .none, data := .fields ps } := x
   show h'.get? a = some { cls := .none, data := .fields ps }
   exact k a _ (.inl rfl) e
 | met f y =>
   have e : h.get? a = some (PySem.W.methodObj (.ref f) (.ref y)) := x
   show h'.get? a = some (PySem.W.methodObj (.ref f) (.ref y))
   exact k a _ (.inl rfl) e
 | ext φ => obtain ⟨p, ⟨o, e⟩, st⟩ := x; exact ⟨st _ _ p fun o q => k _ _ (.inl rfl) q, ⟨o, k _ _ (.inl rfl) e⟩, st⟩
theorem HOk.lt (x : HOk P w H h) (e : H a = some o) : a < h.objs.size := (x a o e).lt
theorem HOk.fresh (x : HOk P w H h) (e : h.objs.size <= a) : H a = none := by
 cases q : H a with
 | none => rfl
 | some u => exact absurd (Nat.lt_of_lt_of_le (x.lt q) e) (Nat.lt_irrefl _)
theorem HOk.kept (x : HOk P w H h) (k : ∀ b u, h.get? b = some u -> h'.get? b = some u) : HOk P w H h' := fun a o e =>
 (x a o e).stay (fun b u _ q => k b u q) (fun _ q => q) fun _ _ q => q
theorem HOk.laid (x : HOk P w H h) (k : ∀ b u, h.get? b = some u -> h'.get? b = some u) (hp : h.objs.size <= a) (new : ObjOk P w (upd H a o) h' a o) : HOk P w (upd H a o) h' := fun b u e => by
 have hn := x.fresh hp
 by_cases hb : b = a
 . subst hb; rw [Zb] at e; cases e; exact new
 . rw [Zl hb] at e
   exact (x b u e).stay (fun c v _ q => k c v q) (fun c q => by rw [Zl (Yb q hn)]; exact q) fun c xs q => by rw [Zl (Yb q hn)]; exact q
end
def Rd (H : Hp) (a : Addr) (u : HO) : Prop := H a = some u \/ ∃ o, H a = some (.frz o u)
theorem Rd.ok {P : Program} {w : World} {H : Hp} {h : Heap} {a : Addr} {u : HO} (r : Rd H a u) (x : HOk P w H h) : ObjOk P w H h a u := by
 rcases r with r | ⟨o, r⟩
 . exact x a u r
 . obtain ⟨_, q⟩ := x a _ r
   exact q
def Mut : Option HO -> Prop
 | some (.lst _) => True
 | some (.dK _) => True
 | some (.dT _) => True
 | some (.set _ _) => True
 | some (.ins _ _ _) => True
 | some (.ext _) => True
 | _ => False
section
variable {P : Program} {w : World} {H : Hp} {h h' : Heap} {x e : Addr} {o' : HO}
theorem HOk.write (ok : HOk P w H h) (mu : Mut (H x)) (he : e = x \/ H e = some (.own x)) (k : ∀ b u, b ≠ e -> h.get? b = some u -> h'.get? b = some u) (heo : ∃ u, h'.get? e = some u)
   (new : ObjOk P w (upd H x o') h' x o') : HOk P w (upd H x o') h' := fun b u q => by
 have nown : ∀ c y, H c = some (.own y) -> c ≠ x := fun c y r z => by subst z; rw [r] at mu; exact mu
 have ntup : ∀ c xs, H c = some (.tup xs) -> c ≠ x := fun c xs r z => by subst z; rw [r] at mu; exact mu
 by_cases hb : b = x
 . subst hb; rw [Zb] at q; cases q; exact new
 . rw [Zl hb] at q
   by_cases hbe : b = e
   . have q' : H b = some (.own x) := by
       rcases he with z | z
       . exact absurd (hbe.trans z) hb
       . rw [hbe]; exact z
     rw [q] at q'; cases q'
     obtain ⟨v, hv⟩ := heo
     exact ⟨v, by rw [hbe]; exact hv⟩
   . refine (ok b u q).stay (fun c v hc r => k c v ?_ r) (fun c r => by rw [Zl (nown c b r)]; exact r) fun c xs r => by rw [Zl (ntup c xs r)]; exact r
     rcases hc with rfl | hc
     . exact hbe
     . rintro rfl
       rcases he with z | z
       . exact nown c b hc z
       . rw [hc] at z; cases z; exact hb rfl
end
structure Un (fs ex : List Addr) (H H' : Hp) (h h' : Heap) : Prop where
 keep : ∀ b o, h.get? b = some o -> H b = none -> b ∉ fs -> b ∉ ex -> h'.get? b = some o
 slot : ∀ b o, h.get? b = some o -> H b = none -> b ∈ fs -> b ∉ ex -> ∃ sl, h'.get? b = some { o with slots := sl }
 free : ∀ b o, h.get? b = some o -> H b = none -> b ∉ ex -> H' b = none
 there : ∀ b o, h.get? b = some o -> b ∉ ex -> ∃ o', h'.get? b = some o'
 tups : ∀ b xs, H b = some (.tup xs) -> H' b = some (.tup xs)
 frzs : ∀ b o u, H b = some (.frz o u) -> H' b = some (.frz o u)
 tbls : ∀ b ps, H b = some (.tbl ps) -> ∃ more, H' b = some (.tbl (ps ++ more))
section
variable {fs fs' ex ex' : List Addr} {H H1 H2 : Hp} {h h1 h2 h' : Heap} {a x e : Addr} {o : HO}
theorem Un.any (u : Un fs ex H H1 h h1) {b : Addr} {ob : Obj} (q : h.get? b = some ob) (n : H b = none) (hx : b ∉ ex) : ∃ sl, h1.get? b = some { ob with slots := sl } := by
 by_cases hb : b ∈ fs
 . exact u.slot b ob q n hb hx
 . exact ⟨ob.slots, u.keep b ob q n hb hx⟩
theorem Un.kept (k : ∀ b u, h.get? b = some u -> h'.get? b = some u) : Un fs ex H H h h' :=
 ⟨fun b ob q _ _ _ => k b ob q, fun b ob q _ _ _ => ⟨ob.slots, k b ob q⟩, fun _ _ _ n _ => n, fun b ob q _ => ⟨ob, k b ob q⟩, fun _ _ q => q, fun _ _ _ q => q, fun _ ps q => ⟨#[], by rw [q]; simp⟩⟩
theorem Un.refl : Un fs ex H H h h := Un.kept fun _ _ q => q
theorem Un.laid (k : ∀ b u, h.get? b = some u -> h'.get? b = some u) (hp : h.objs.size <= a) (hn : H a = none) : Un fs ex H (upd H a o) h h' where
 keep := fun b u q _ _ _ => k b u q
 slot := fun b u q _ _ _ => ⟨u.slots, k b u q⟩
 free := fun b u q n _ => by rw [Zl (Nat.ne_of_lt (Nat.lt_of_lt_of_le (Heap.lt_size q) hp))]; exact n
 there := fun b u q _ => ⟨u, k b u q⟩
 tups := fun b xs q => by rw [Zl (Yb q hn)]; exact q
 frzs := fun b u xs q => by rw [Zl (Yb q hn)]; exact q
 tbls := fun b ps q => ⟨#[], by rw [Zl (Yb q hn), q]; simp⟩
theorem Un.write (mu : Mut (H x)) (he : e = x \/ H e = some (.own x)) (k : ∀ b u, b ≠ e -> h.get? b = some u -> h'.get? b = some u) (heo : ∃ u, h'.get? e = some u) : Un fs ex H (upd H x o) h h' := by
 have hx : ∀ b, H b = none -> b ≠ x := fun b n z => by subst z; rw [n] at mu; exact mu
 have hb : ∀ b, H b = none -> b ≠ e := fun b n z => by
   subst z
   rcases he with r | r
   . exact hx b n r
   . rw [n] at r; cases r
 have hm : ∀ b u, H b = some u -> ¬ Mut (some u) -> b ≠ x := fun b u q nm z => by subst z; rw [q] at mu; exact nm mu
 refine ⟨fun b u q n _ _ => k b u (hb b n) q, fun b u q n _ _ => ⟨u.slots, k b u (hb b n) q⟩, fun b u q n _ => by rw [Zl (hx b n)]; exact n, fun b u q _ => ?_,
   fun b xs q => by rw [Zl (hm b _ q fun z => z)]; exact q, fun b u xs q => by rw [Zl (hm b _ q fun z => z)]; exact q, fun b ps q => ⟨#[], by rw [Zl (hm b _ q fun z => z), q]; simp⟩⟩
 by_cases hbe : b = e
 . subst hbe; exact heo
 . exact ⟨u, k b u hbe q⟩
end
def trk (h : Heap) (H : Hp) : List Addr := (List.range h.objs.size).filter fun a => (H a).isSome
def hidT (h : Heap) (H : Hp) : Heap := PySem.W.hideAll h (trk h H)
theorem hidT_size (h : Heap) (H : Hp) : (hidT h H).objs.size = h.objs.size := PySem.W.hideAll_size _ _
theorem hidT_get {h : Heap} {H : Hp} {b : Addr} {o : Obj} (e : h.get? b = some o) (n : H b = none) : (hidT h H).get? b = some o :=
 PySem.W.hideAll_get _ e fun hm => by
   have q : (H b).isSome = true := (List.mem_filter.mp hm).2
   rw [n] at q; simp at q
theorem of_hidT {h : Heap} {H : Hp} {b : Addr} {o : Obj} (e : (hidT h H).get? b = some o) : h.get? b = some o /\ H b = none := by
 have e' : h.get? b = some o := PySem.W.of_hideAll (trk h H) e
 refine ⟨e', ?_⟩
 cases q : H b with
 | none => rfl
 | some x =>
   have hm : b ∈ trk h H := List.mem_filter.mpr ⟨List.mem_range.mpr (Heap.lt_size e'), by simp [q]⟩
   have z : (hidT h H).get? b = none := PySem.W.hideAll_none (trk h H) hm
   rw [z] at e; cases e
end L2
namespace L2
open PySem PySem.Spec PyProof.Rows
structure Mod (K : PySem.W.Frag) (mg : Str -> Option Value) (base : Heap) : Prop where
 kin : K.In base
 glob : base.Ns mainGlobals mg
 blt : ∃ mb, base.Ns builtinsNs mb /\ ∀ x : Str, x ≠ "__name__" -> mb x = bootBuiltins x
 nolimit : base.NoLimit
structure Cx where
 prog : Program
 w : World
 K : PySem.W.Frag
 mg : Str -> Option Value
 base : Heap
 A : Around
 N : List Str
 s_0 : Shared
 H_0 : Hp
 env : Env
 outer : List Env
 stack : List Env
 ex : List Addr
 fn : Str -> Bool
 calm : Bool
 pn : List (Addr × Obj)
 xe : Value -> Shared -> Prop
def frs (l : List Env) : List Addr := l.filterMap (·.frame)
abbrev Cx.fs (X : Cx) : List Addr := frs X.outer
def Vis (sc : Scope) (x : Str) : Prop := sc.names.lookup x = some .local \/ sc.names.lookup x = some .cell \/ sc.names.lookup x = some .free
def Loc (sc : Scope) (x : Str) : Prop := sc.names.lookup x = some .local \/ sc.names.lookup x = some .cell
def Look (env : Env) (h : Heap) (m : Str -> Option Value) (x : Str) (u : Value) : Prop :=
 (env.kindOf x = some .local /\ m x = some u) \/ ((env.kindOf x = some .cell \/ env.kindOf x = some .free) /\ ∃ c, env.cells.lookup x = some c /\ h.IsCell c (some u))
structure Cx.Ok (X : Cx) : Prop where
 mod : Mod X.K X.mg X.base
 kind : X.env.scope.kind = .function
 glob : X.env.globals = mainGlobals
 blt : X.env.builtins = builtinsNs
 above : X.s_0.heap.objs.size <= X.env.locals
 inj : ∀ x y c, X.env.cells.lookup x = some c -> X.env.cells.lookup y = some c -> x = y
 has : ∀ x, (X.env.kindOf x = some .cell \/ X.env.kindOf x = some .free) -> ∃ c, X.env.cells.lookup x = some c
 cab : ∀ x c, X.fn x = true -> X.env.cells.lookup x = some c -> X.s_0.heap.objs.size <= c
 hd : X.calm = true -> X.A.handled = none
 frames : X.A.frames = some X.stack
 stk : X.stack = X.outer \/ (X.stack = X.env :: X.outer /\ X.env.frame = some X.env.locals)
 exf : ∀ b ∈ X.ex, b ≠ X.env.locals /\ ∀ x c, X.env.cells.lookup x = some c -> c ≠ b
 bs : ∀ b o, X.base.get? b = some o -> X.s_0.heap.get? b = some o /\ X.H_0 b = none
 bsz : X.base.objs.size <= X.s_0.heap.objs.size
 noex : ∀ b o, X.base.get? b = some o -> b ∉ X.ex
 exfs : ∀ b ∈ X.ex, b ∉ X.fs
 funs : X.s_0.heap.FunFrames X.base X.outer
 frf : ∀ b ∈ X.fs, X.H_0 b = none
structure Inv (X : Cx) (pins : List (Addr × Obj)) (σ : List (Option V)) (H : Hp) (s : Shared) : Prop where
 ok : X.Ok
 os : s.os = X.s_0.os
 bare : AllBare s.gens
 base : Un X.fs X.ex X.H_0 H X.s_0.heap s.heap
 loc : ∃ m, s.heap.Ns X.env.locals m /\ ∀ (i : Nat) (x : Str) (v : V), X.N[i]? = some x -> σ[i]? = some (some v) -> Vis X.env.scope x -> ∃ u, RelV v u /\ Look X.env s.heap m x u
 cell : ∀ x c, X.env.cells.lookup x = some c -> ∃ v, s.heap.IsCell c v
 free : H X.env.locals = none
 freeC : ∀ x c, X.env.cells.lookup x = some c -> H c = none
 pin : ∀ p ∈ X.pn ++ pins, s.heap.get? p.1 = some p.2 /\ H p.1 = none /\ p.1 ≠ X.env.locals /\ p.1 ∉ X.fs /\ ∀ v, p.2.data ≠ .cell v
 hok : HOk X.prog X.w H s.heap
 len : σ.length = X.N.length
section
variable {X : Cx} {pins : List (Addr × Obj)} {σ : List (Option V)} {H H' : Hp} {s : Shared} {h' : Heap}
theorem Cx.Ok.nofr (ok : X.Ok) {b : Addr} {o : Obj} (e : X.base.get? b = some o) : b ∉ X.fs := fun hb => by
 have := (ok.funs.mem hb).1
 rw [e] at this; cases this
theorem Inv.bs (I : Inv X pins σ H s) : ∀ b o, X.base.get? b = some o -> s.heap.get? b = some o /\ H b = none := fun b o e =>
 ⟨I.base.keep b o (I.ok.bs b o e).1 (I.ok.bs b o e).2 (I.ok.nofr e) (I.ok.noex b o e), I.base.free b o (I.ok.bs b o e).1 (I.ok.bs b o e).2 (I.ok.noex b o e)⟩
theorem Inv.bk (I : Inv X pins σ H s) : ∀ b o, X.base.get? b = some o -> s.heap.get? b = some o := fun b o e => (I.bs b o e).1
theorem Inv.mod (I : Inv X pins σ H s) : Mod X.K X.mg X.base := I.ok.mod
theorem Inv.kIn (I : Inv X pins σ H s) : X.K.In s.heap := I.ok.mod.kin.keeps I.bk
theorem Inv.fr (I : Inv X pins σ H s) : ∃ m, Fr X.base X.env.locals s.heap m :=
 let ⟨m, hn, _⟩ := I.loc
 ⟨m, hn, I.bk, Nat.le_trans I.ok.bsz I.ok.above⟩
theorem Inv.lt (I : Inv X pins σ H s) : X.env.locals < s.heap.objs.size := let ⟨_, hn, _⟩ := I.loc; hn.lt
theorem Inv.sz (I : Inv X pins σ H s) : X.s_0.heap.objs.size <= s.heap.objs.size := Nat.le_trans I.ok.above (Nat.le_of_lt I.lt)
theorem Inv.nofs (I : Inv X pins σ H s) {a : Addr} (h : s.heap.objs.size <= a) : a ∉ X.fs := fun hb => by
 obtain ⟨_, o, ho, _⟩ := I.ok.funs.mem hb
 exact absurd (Nat.lt_of_lt_of_le (Heap.lt_size ho) (Nat.le_trans I.sz h)) (Nat.lt_irrefl _)
theorem Inv.cne (I : Inv X pins σ H s) : ∀ x c, X.env.cells.lookup x = some c -> c ≠ X.env.locals := fun x c e z => by
 obtain ⟨v, o, ho, hd⟩ := I.cell x c e
 obtain ⟨m, ⟨o', es, ep, ho', hd', _⟩, _⟩ := I.loc
 rw [z, ho'] at ho; cases ho; rw [hd'] at hd; cases hd
theorem Inv.funs (I : Inv X pins σ H s) : s.heap.FunFrames X.base X.outer := by
 have all : ∀ (l : List Env), (∀ b ∈ frs l, b ∈ X.fs) -> X.s_0.heap.FunFrames X.base l -> s.heap.FunFrames X.base l := by
   intro l
   induction l with
   | nil => intro _ _; trivial
   | cons env r ih =>
     intro hs hl
     obtain ⟨hk, ⟨L, o, hf, hn, ho, hd⟩, hr⟩ := hl
     have hL : L ∈ X.fs := hs L (by unfold frs; rw [List.filterMap_cons, hf]; exact List.mem_cons_self)
     obtain ⟨sl, e⟩ := I.base.slot L o ho (I.ok.frf L hL) hL fun z => I.ok.exfs L z hL
     exact ⟨hk, ⟨L, _, hf, hn, e, hd⟩, ih (fun b hb => hs b (by unfold frs; rw [List.filterMap_cons, hf]; exact List.mem_cons_of_mem _ hb)) hr⟩
 exact all X.outer (fun _ hb => hb) I.ok.funs
theorem Inv.stack (I : Inv X pins σ H s) : s.heap.FunFrames X.base X.stack := by
 rcases I.ok.stk with e | ⟨e, hf⟩
 . rw [e]; exact I.funs
 . rw [e]
   obtain ⟨m, hn, _⟩ := I.loc
   refine .cons (by rw [I.ok.kind]; decide) hf hn ?_ I.funs
   exact Heap.get?_none_of_le (Nat.le_trans I.ok.bsz I.ok.above)
theorem Inv.stkSub (I : Inv X pins σ H s) : ∀ b ∈ frs X.stack, b ∈ X.env.locals :: X.fs := fun b hb => by
 rcases I.ok.stk with e | ⟨e, hf⟩
 . rw [e] at hb; exact List.mem_cons_of_mem _ hb
 . rw [e] at hb
   unfold frs at hb
   rw [List.filterMap_cons, hf] at hb
   exact hb
theorem Inv.stkFree (I : Inv X pins σ H s) : ∀ b ∈ frs X.stack, H b = none := fun b hb => by
 rcases List.mem_cons.mp (I.stkSub b hb) with e | hb
 . rw [e]; exact I.free
 . obtain ⟨_, o, ho, _⟩ := I.ok.funs.mem hb
   exact I.base.free b o ho (I.ok.frf b hb) fun z => I.ok.exfs b z hb
theorem Inv.step {g' : Array GenState} {t' : Nat} {d' : Drawn} {ch : List Addr} (I : Inv X pins σ H s)
   (hch : ∀ b ∈ ch, (b ∈ X.ex \/ X.s_0.heap.objs.size <= b) /\ b ≠ X.env.locals /\ (∀ x c, X.env.cells.lookup x = some c -> c ≠ b) /\ ∀ p ∈ X.pn ++ pins, p.1 ≠ b)
   (keep : ∀ b o, b ≠ X.env.locals -> b ∉ X.fs -> b ∉ ch -> s.heap.get? b = some o -> H b = none -> h'.get? b = some o)
   (slot : ∀ b o, b ≠ X.env.locals -> b ∈ X.fs -> b ∉ ch -> s.heap.get? b = some o -> H b = none -> ∃ sl, h'.get? b = some { o with slots := sl }) (free : ∀ b o, b ∉ ch -> s.heap.get? b = some o -> H b = none -> H' b = none)
   (there : ∀ b o, b ∉ ch -> s.heap.get? b = some o -> ∃ o', h'.get? b = some o')
   (tups : ∀ b xs, H b = some (.tup xs) -> H' b = some (.tup xs)) (frzs : ∀ b o u, H b = some (.frz o u) -> H' b = some (.frz o u)) (tbls : ∀ b ps, H b = some (.tbl ps) -> ∃ more, H' b = some (.tbl (ps ++ more)))
   (ns : ∀ m, s.heap.Ns X.env.locals m -> h'.Ns X.env.locals m) (hok : HOk X.prog X.w H' h') (hg : AllBare g') :
   Inv X pins σ H' { s with heap := h', gens := g', drawn := d', toks := t' } := by
 have neL : ∀ b o, X.s_0.heap.get? b = some o -> b ≠ X.env.locals := fun b o e => Nat.ne_of_lt (Nat.lt_of_lt_of_le (Heap.lt_size e) I.ok.above)
 have neC : ∀ b o, X.s_0.heap.get? b = some o -> b ∉ X.ex -> b ∉ ch := fun b o e hx hb => by
   rcases (hch b hb).1 with z | z
   . exact hx z
   . exact absurd (Nat.lt_of_lt_of_le (Heap.lt_size e) z) (Nat.lt_irrefl _)
 have cellK : ∀ x c, X.env.cells.lookup x = some c -> ∀ v, s.heap.IsCell c v -> h'.IsCell c v := fun x c e v ⟨o, ho, hd⟩ => by
   have nch : c ∉ ch := fun z => (hch c z).2.2.1 x c e rfl
   by_cases hc : c ∈ X.fs
   . obtain ⟨sl, q⟩ := slot c o (I.cne x c e) hc nch ho (I.freeC x c e)
     exact ⟨_, q, hd⟩
   . exact ⟨o, keep c o (I.cne x c e) hc nch ho (I.freeC x c e), hd⟩
 refine ⟨I.ok, I.os, hg, ⟨fun b o e n hb hx => ?_, fun b o e n hb hx => ?_, fun b o e n hx => ?_, fun b o e hx => ?_, fun b xs e => tups b xs (I.base.tups b xs e), fun b o xs e => frzs b o xs (I.base.frzs b o xs e), fun b ps e => ?_⟩, ?_, fun x c e => ?_, ?_, fun x c e => ?_, fun p hp => ?_, hok, I.len⟩
 . exact keep b o (neL b o e) hb (neC b o e hx) (I.base.keep b o e n hb hx) (I.base.free b o e n hx)
 . obtain ⟨sl, e1⟩ := I.base.slot b o e n hb hx
   obtain ⟨sl', e2⟩ := slot b _ (neL b o e) hb (neC b o e hx) e1 (I.base.free b o e n hx)
   exact ⟨sl', e2⟩
 . obtain ⟨o', e1⟩ := I.base.there b o e hx
   exact free b o' (neC b o e hx) e1 (I.base.free b o e n hx)
 . obtain ⟨o', e1⟩ := I.base.there b o e hx
   exact there b o' (neC b o e hx) e1
 . obtain ⟨m1, e1⟩ := I.base.tbls b ps e
   obtain ⟨m2, e2⟩ := tbls b _ e1
   exact ⟨m1 ++ m2, by rw [e2, Array.append_assoc]⟩
 . obtain ⟨m, hn, hl⟩ := I.loc
   refine ⟨m, ns m hn, fun i x v e1 e2 e3 => ?_⟩
   obtain ⟨u, r, l⟩ := hl i x v e1 e2 e3
   refine ⟨u, r, ?_⟩
   rcases l with l | ⟨k, c, e, z⟩
   . exact .inl l
   . exact .inr ⟨k, c, e, cellK x c e _ z⟩
 . obtain ⟨v, z⟩ := I.cell x c e
   exact ⟨v, cellK x c e v z⟩
 . obtain ⟨m, ⟨o, _, _, ho, _⟩, _⟩ := I.loc
   exact free _ o (fun z => (hch _ z).2.1 rfl) ho I.free
 . obtain ⟨v, o, ho, hd⟩ := I.cell x c e
   exact free c o (fun z => (hch c z).2.2.1 x c e rfl) ho (I.freeC x c e)
 . obtain ⟨e, n, ne, nf, d⟩ := I.pin p hp
   have nch : p.1 ∉ ch := fun z => (hch p.1 z).2.2.2 p hp rfl
   exact ⟨keep p.1 p.2 ne nf nch e n, free p.1 p.2 nch e n, ne, nf, d⟩
theorem Inv.un {t' : Nat} (I : Inv X pins σ H s) (u : Un X.fs [] H H' s.heap h') (hok : HOk X.prog X.w H' h') : Inv X pins σ H' { s with heap := h', toks := t' } := by
 obtain ⟨m, ⟨o, es, ep, ho, r⟩, _⟩ := id I.loc
 obtain ⟨sl, hL⟩ := u.any ho I.free (by simp)
 exact I.step (g' := s.gens) (d' := s.drawn) (ch := []) (fun _ z => nomatch z) (fun b o _ hb _ e n => u.keep b o e n hb (by simp)) (fun b o _ hb _ e n => u.slot b o e n hb (by simp)) (fun b o _ e n => u.free b o e n (by simp)) (fun b o _ e => u.there b o e (by simp)) u.tups u.frzs u.tbls (fun m' hm => by
   obtain ⟨o', es', ep', ho', r'⟩ := hm
   rw [ho] at ho'; cases ho'
   exact ⟨_, es', ep', hL, r'⟩) hok I.bare
theorem Inv.call {g' : Array GenState} {t' : Nat} {d' : Drawn} {ch : List Addr} (I : Inv X pins σ H s) (u : Un (frs X.stack) ch H H' s.heap h') (hok : HOk X.prog X.w H' h') (hg : AllBare g')
   (hch : ∀ b ∈ ch, (b ∈ X.ex \/ X.s_0.heap.objs.size <= b) /\ b ≠ X.env.locals /\ (∀ x c, X.env.cells.lookup x = some c -> c ≠ b) /\ ∀ p ∈ X.pn ++ pins, p.1 ≠ b) :
   Inv X pins σ H' { s with heap := h', gens := g', drawn := d', toks := t' } := by
 obtain ⟨m, ⟨o, es, ep, ho, r⟩, _⟩ := id I.loc
 obtain ⟨sl, hL⟩ := u.any ho I.free fun z => (hch _ z).2.1 rfl
 exact I.step (ch := ch) hch (fun b o hL hb hc e n => u.keep b o e n (fun z => (List.mem_cons.mp (I.stkSub b z)).elim hL hb) hc) (fun b o _ _ hc e n => u.any e n hc) (fun b o hc e n => u.free b o e n hc) (fun b o hc e => u.there b o e hc) u.tups u.frzs u.tbls (fun m' hm => by
   obtain ⟨o', es', ep', ho', r'⟩ := hm
   rw [ho] at ho'; cases ho'
   exact ⟨_, es', ep', hL, r'⟩) hok hg
theorem Inv.turned {t' : Nat} {it : Addr} (I : Inv X pins σ H s) (k : ∀ b o, b ≠ it -> s.heap.get? b = some o -> h'.get? b = some o) (hn : H it = none) (hL : it ≠ X.env.locals)
   (h1 : it ∈ X.ex \/ X.s_0.heap.objs.size <= it) (h2 : ∀ x c, X.env.cells.lookup x = some c -> c ≠ it) (h3 : ∀ p ∈ X.pn ++ pins, p.1 ≠ it) : Inv X pins σ H { s with heap := h', toks := t' } := by
 have nit : ∀ b u, H b = some u -> b ≠ it := fun b u e z => by rw [z, hn] at e; cases e
 refine I.step (g' := s.gens) (d' := s.drawn) (ch := [it]) (fun b hb => ?_) (fun b o _ _ hc e _ => k b o (fun z => hc (by simp [z])) e) (fun b o _ _ hc e _ => ⟨o.slots, k b o (fun z => hc (by simp [z])) e⟩) (fun _ _ _ _ n => n)
   (fun b o hc e => ⟨o, k b o (fun z => hc (by simp [z])) e⟩) (fun _ _ e => e) (fun _ _ _ e => e) (fun b ps e => ⟨#[], by rw [e]; simp⟩) (fun m hm => ?_) (fun b u e => ?_) I.bare
 . have e : b = it := by simpa using hb
   subst e
   exact ⟨h1, hL, h2, h3⟩
 . obtain ⟨o, es, ep, ho, r⟩ := hm
   exact ⟨o, es, ep, k _ o (Ne.symm hL) ho, r⟩
 . refine (I.hok b u e).stay (fun c v hc q => k c v ?_ q) (fun _ q => q) fun _ _ q => q
   rcases hc with z | z
   . rw [z]; exact nit b u e
   . exact nit c _ z
theorem Inv.tok (I : Inv X pins σ H s) (t : Nat) : Inv X pins σ H { s with toks := t } := I.un (h' := s.heap) (t' := t) Un.refl I.hok
theorem Inv.kept {t' : Nat} (I : Inv X pins σ H s) (k : ∀ b u, s.heap.get? b = some u -> h'.get? b = some u) : Inv X pins σ H { s with heap := h', toks := t' } := I.un (Un.kept k) (I.hok.kept k)
theorem Inv.laid {a : Addr} {o : HO} {t' : Nat} (I : Inv X pins σ H s) (k : ∀ b u, s.heap.get? b = some u -> h'.get? b = some u) (hp : s.heap.objs.size <= a) (new : ObjOk X.prog X.w (upd H a o) h' a o) :
   Inv X pins σ (upd H a o) { s with heap := h', toks := t' } := I.un (Un.laid k hp (I.hok.fresh hp)) (I.hok.laid k hp new)
theorem Inv.write {x e : Addr} {o : HO} {t' : Nat} (I : Inv X pins σ H s) (mu : Mut (H x)) (he : e = x \/ H e = some (.own x)) (k : ∀ b u, b ≠ e -> s.heap.get? b = some u -> h'.get? b = some u) (heo : ∃ u, h'.get? e = some u)
   (new : ObjOk X.prog X.w (upd H x o) h' x o) : Inv X pins σ (upd H x o) { s with heap := h', toks := t' } := I.un (Un.write mu he k heo) (I.hok.write mu he k heo new)
theorem Inv.weak {σ' : List (Option V)} (I : Inv X pins σ H s) (hl : σ'.length = σ.length) (w : ∀ (i : Nat) v, σ'[i]? = some (some v) -> σ[i]? = some (some v)) : Inv X pins σ' H s :=
 ⟨I.ok, I.os, I.bare, I.base, let ⟨m, hn, hl'⟩ := I.loc; ⟨m, hn, fun i x v e1 e2 e3 => hl' i x v e1 (w i v e2) e3⟩, I.cell, I.free, I.freeC, I.pin, I.hok, hl.trans I.len⟩
theorem Inv.pins_of {pins' : List (Addr × Obj)} (I : Inv X pins σ H s) (h : ∀ p ∈ pins', s.heap.get? p.1 = some p.2 /\ H p.1 = none /\ p.1 ≠ X.env.locals /\ p.1 ∉ X.fs /\ ∀ v, p.2.data ≠ .cell v) : Inv X pins' σ H s :=
 ⟨I.ok, I.os, I.bare, I.base, I.loc, I.cell, I.free, I.freeC, fun p hp => (List.mem_append.mp hp).elim (fun z => I.pin p (List.mem_append_left _ z)) (h p), I.hok, I.len⟩
theorem nodup_ix {N : List Str} (hN : N.Nodup) {i j : Nat} {x : Str} (a : N[i]? = some x) (b : N[j]? = some x) : i = j := by
 obtain ⟨h1, e1⟩ := List.getElem?_eq_some_iff.mp a
 obtain ⟨h2, e2⟩ := List.getElem?_eq_some_iff.mp b
 exact (List.getElem_inj hN).mp (e1.trans e2.symm)
theorem store_ok2 {M : Model} {A : Around} {E : Value -> Shared -> Prop} {i : Nat} {x : Str} {v : V} {u : Value} {Q : Unit -> Shared -> Prop} (I : Inv X pins σ H s) (hN : X.N.Nodup) (hi : X.N[i]? = some x) (hx : Loc X.env.scope x) (r : RelV v u)
   (h : ∀ s', Inv X pins (σ.set i (some v)) H s' -> (∃ a, Heap.SameBut a s.heap s'.heap /\ (a = X.env.locals \/ X.env.cells.lookup x = some a)) -> Q () s') (hf : X.fn x = true \/ X.env.scope.names.lookup x = some .local := by first | exact .inl rfl | exact .inr rfl | assumption) : wpAny M A (storeName X.env x u) Q E s := by
 obtain ⟨m, hn, hl⟩ := id I.loc
 have hcls : (X.env.scope.kind == .class || (X.env.scope.kind == .module && X.env.locals != X.env.globals)) = false := by rw [I.ok.kind]; rfl
 have hiσ : i < σ.length := by rw [I.len]; exact (List.getElem?_eq_some_iff.mp hi).1
 have cne := I.cne
 have tracked : ∀ {a : Addr} {h' : Heap}, (∃ o, s.heap.get? a = some o /\ H a = none) -> Heap.SameBut a s.heap h' -> HOk X.prog X.w H h' := fun {a h'} ha hs b ob e => by
   obtain ⟨_, _, hfree⟩ := ha
   refine (I.hok b ob e).stay (fun c w' hc q => (hs.2 c ?_).trans q) (fun _ q => q) fun _ _ q => q
   rintro rfl
   rcases hc with rfl | hc
   . rw [hfree] at e; cases e
   . rw [hfree] at hc; cases hc
 rcases hx with hk | hk
 . refine wpAny_storeName_local hk hn (fun h' hn' hs => ?_) hcls
   obtain ⟨oL, _, _, hoL, _⟩ := id hn
   refine h _ ⟨I.ok, I.os, I.bare, ⟨fun b o e n hb hx => ?_, fun b o e n hb hx => ?_, I.base.free, fun b o e hx => ?_, I.base.tups, I.base.frzs, I.base.tbls⟩, ⟨_, hn', fun j y v' e1 e2 e3 => ?_⟩, fun y c e => ?_, I.free, I.freeC, fun p hp => ?_, tracked ⟨oL, hoL, I.free⟩ hs, by simpa using I.len⟩ ⟨_, hs, .inl rfl⟩
   . exact (hs.2 b (Nat.ne_of_lt (Nat.lt_of_lt_of_le (Heap.lt_size e) I.ok.above))).trans (I.base.keep b o e n hb hx)
   . obtain ⟨sl, e1⟩ := I.base.slot b o e n hb hx
     exact ⟨sl, (hs.2 b (Nat.ne_of_lt (Nat.lt_of_lt_of_le (Heap.lt_size e) I.ok.above))).trans e1⟩
   . obtain ⟨o', e1⟩ := I.base.there b o e hx
     exact ⟨o', (hs.2 b (Nat.ne_of_lt (Nat.lt_of_lt_of_le (Heap.lt_size e) I.ok.above))).trans e1⟩
   . by_cases hj : j = i
     . subst hj
       rw [hi] at e1; cases e1
       rw [List.getElem?_set_self hiσ] at e2
       cases e2
       exact ⟨u, r, .inl ⟨hk, by simp⟩⟩
     . rw [List.getElem?_set_ne (Ne.symm hj)] at e2
       obtain ⟨u', r', q⟩ := hl j y v' e1 e2 e3
       refine ⟨u', r', ?_⟩
       rcases q with ⟨k, e⟩ | ⟨k, c, e, z⟩
       . refine .inl ⟨k, ?_⟩
         have : y ≠ x := fun e => hj (nodup_ix hN e1 (e ▸ hi))
         simp [this, e]
       . exact .inr ⟨k, c, e, z.sameBut hs (cne y c e)⟩
   . obtain ⟨w', z⟩ := I.cell y c e
     exact ⟨w', z.sameBut hs (cne y c e)⟩
   . obtain ⟨e, n, ne, nf, d⟩ := I.pin p hp
     exact ⟨(hs.2 p.1 ne).trans e, n, ne, nf, d⟩
 . have hfn : X.fn x = true := by
     rcases hf with z | z
     . exact z
     . rw [z] at hk; cases hk
   obtain ⟨c, hc⟩ := I.ok.has x (.inl hk)
   obtain ⟨w', z⟩ := I.cell x c hc
   refine wpAny_storeName_cell I.ok.kind hk hc z (fun h' hc' hs => ?_)
   obtain ⟨oc, hoc, hocd⟩ := id z
   refine h { s with heap := h' } ⟨I.ok, I.os, I.bare, ⟨fun b o e n hb hx => ?_, fun b o e n hb hx => ?_, I.base.free, fun b o e hx => ?_, I.base.tups, I.base.frzs, I.base.tbls⟩, ⟨m, hn.sameBut hs (Ne.symm (cne x c hc)), fun j y v' e1 e2 e3 => ?_⟩, fun y c' e => ?_, I.free, I.freeC, fun p hp => ?_, tracked ⟨oc, hoc, I.freeC x c hc⟩ hs, by simpa using I.len⟩ ⟨c, hs, .inr hc⟩
   . exact (hs.2 b (Nat.ne_of_lt (Nat.lt_of_lt_of_le (Heap.lt_size e) (I.ok.cab x c hfn hc)))).trans (I.base.keep b o e n hb hx)
   . obtain ⟨sl, e1⟩ := I.base.slot b o e n hb hx
     exact ⟨sl, (hs.2 b (Nat.ne_of_lt (Nat.lt_of_lt_of_le (Heap.lt_size e) (I.ok.cab x c hfn hc)))).trans e1⟩
   . obtain ⟨o', e1⟩ := I.base.there b o e hx
     exact ⟨o', (hs.2 b (Nat.ne_of_lt (Nat.lt_of_lt_of_le (Heap.lt_size e) (I.ok.cab x c hfn hc)))).trans e1⟩
   . by_cases hj : j = i
     . subst hj
       rw [hi] at e1; cases e1
       rw [List.getElem?_set_self hiσ] at e2
       cases e2
       exact ⟨u, r, .inr ⟨.inl hk, c, hc, hc'⟩⟩
     . rw [List.getElem?_set_ne (Ne.symm hj)] at e2
       obtain ⟨u', r', q⟩ := hl j y v' e1 e2 e3
       refine ⟨u', r', ?_⟩
       rcases q with q | ⟨k, c', e, z'⟩
       . exact .inl q
       . refine .inr ⟨k, c', e, z'.sameBut hs ?_⟩
         rintro rfl
         exact hj (nodup_ix hN e1 (I.ok.inj _ _ _ e hc ▸ hi))
   . by_cases hcc : c' = c
     . subst hcc; exact ⟨_, hc'⟩
     . obtain ⟨w2, z2⟩ := I.cell y c' e
       exact ⟨w2, z2.sameBut hs hcc⟩
   . obtain ⟨e, n, ne, nf, d⟩ := I.pin p hp
     refine ⟨(hs.2 p.1 ?_).trans e, n, ne, nf, d⟩
     intro q
     rw [q, hoc] at e
     have q' : oc = p.2 := Option.some.inj e
     exact d w' (by rw [<- q']; exact hocd)
theorem store_ok {M : Model} {A : Around} {E : Value -> Shared -> Prop} {i : Nat} {x : Str} {v : V} {u : Value} {Q : Unit -> Shared -> Prop} (I : Inv X pins σ H s) (hN : X.N.Nodup) (hi : X.N[i]? = some x) (hx : Loc X.env.scope x) (r : RelV v u)
   (h : ∀ s', Inv X pins (σ.set i (some v)) H s' -> Q () s') (hf : X.fn x = true \/ X.env.scope.names.lookup x = some .local := by first | exact .inl rfl | exact .inr rfl | assumption) : wpAny M A (storeName X.env x u) Q E s :=
 store_ok2 I hN hi hx r (fun s' I' _ => h s' I') hf
theorem Inv.call' {s' : Shared} {ch : List Addr} (I : Inv X pins σ H s) (ho : s'.os = s.os) (u : Un (frs X.stack) ch H H' s.heap s'.heap) (hok : HOk X.prog X.w H' s'.heap) (hg : AllBare s'.gens)
   (hch : ∀ b ∈ ch, (b ∈ X.ex \/ X.s_0.heap.objs.size <= b) /\ b ≠ X.env.locals /\ (∀ x c, X.env.cells.lookup x = some c -> c ≠ b) /\ ∀ p ∈ X.pn ++ pins, p.1 ≠ b) : Inv X pins σ H' s' := by
 obtain ⟨h', g', d', t', o'⟩ := s'
 have e : o' = s.os := ho
 subst e
 exact I.call (g' := g') (t' := t') (d' := d') u hok hg hch
end
abbrev XK := Value -> Option Addr -> Hp -> Prop
abbrev St := List (Option V)
abbrev VK := V -> Hp -> Prop
abbrev TE := St -> Hp -> VK -> Prop
abbrev TT := St -> Hp -> (Bool -> Hp -> Prop) -> Prop
abbrev TA := St -> Hp -> (List V -> Hp -> Prop) -> Prop
structure Ends where
 nx : St -> Hp -> Prop
 rt : VK
 bk : St -> Hp -> Prop := fun _ _ => False
 ct : St -> Hp -> Prop := fun _ _ => False
abbrev TS := Ends -> St -> Hp -> Prop
def EP (X : Cx) (pins : List (Addr × Obj)) (σ : St) (Q : VK) (u : Value) (s' : Shared) : Prop := ∃ v H', Inv X pins σ H' s' /\ RelV v u /\ Q v H'
def TP (X : Cx) (pins : List (Addr × Obj)) (σ : St) (Q : Bool -> Hp -> Prop) (b : Bool) (s' : Shared) : Prop := ∃ H', Inv X pins σ H' s' /\ Q b H'
def AP (X : Cx) (pins : List (Addr × Obj)) (σ : St) (Q : List V -> Hp -> Prop) (us : List Value) (s' : Shared) : Prop := ∃ vs H', Inv X pins σ H' s' /\ Vals vs us /\ Q vs H'
def SP (X : Cx) (pins : List (Addr × Obj)) (D : Ends) (f : Flow) (s' : Shared) : Prop :=
 match f with
 | .next => ∃ σ' H', Inv X pins σ' H' s' /\ D.nx σ' H'
 | .brk => ∃ σ' H', Inv X pins σ' H' s' /\ D.bk σ' H'
 | .cont => ∃ σ' H', Inv X pins σ' H' s' /\ D.ct σ' H'
 | .ret u => ∃ v σ' H', Inv X pins σ' H' s' /\ RelV v u /\ D.rt v H'
def PE (X : Cx) (e : Expr) (t : TE) : Prop :=
 ∀ (pins : List (Addr × Obj)) (s : Shared) (σ : St) (H : Hp) (Q : VK), Inv X pins σ H s -> t σ H Q -> wpAny (model X.prog X.w) X.A (eval e X.env) (EP X pins σ Q) X.xe s
def PT (X : Cx) (e : Expr) (t : TT) : Prop :=
 ∀ (pins : List (Addr × Obj)) (s : Shared) (σ : St) (H : Hp) (Q : Bool -> Hp -> Prop), Inv X pins σ H s -> t σ H Q -> wpAny (model X.prog X.w) X.A (isTrue e X.env (eval e X.env)) (TP X pins σ Q) X.xe s
def PW (X : Cx) (e : Expr) (t : TT) : Prop :=
 ∀ (whole : Sem Value) (pins : List (Addr × Obj)) (s : Shared) (σ : St) (H : Hp) (Q : Bool -> Hp -> Prop), Inv X pins σ H s -> t σ H Q -> wpAny (model X.prog X.w) X.A (isTrue e X.env whole) (TP X pins σ Q) X.xe s
theorem PW.pt {X : Cx} {e : Expr} {t : TT} (h : PW X e t) : PT X e t := h _
def PA (X : Cx) (es : List Expr) (t : TA) : Prop :=
 ∀ (pos : Pos) (pins : List (Addr × Obj)) (s : Shared) (σ : St) (H : Hp) (Q : List V -> Hp -> Prop), Inv X pins σ H s -> t σ H Q -> wpAny (model X.prog X.w) X.A (spliced (backTo pos (starEach es X.env))) (AP X pins σ Q) X.xe s
def PS (X : Cx) (st : Stmt) (t : TS) : Prop :=
 ∀ (pins : List (Addr × Obj)) (s : Shared) (σ : St) (H : Hp) (D : Ends), Inv X pins σ H s -> t D σ H -> wpAny (model X.prog X.w) X.A (exec st X.env) (SP X pins D) X.xe s
def PSs (X : Cx) (st : List Stmt) (t : TS) : Prop :=
 ∀ (pins : List (Addr × Obj)) (s : Shared) (σ : St) (H : Hp) (D : Ends), Inv X pins σ H s -> t D σ H -> wpAny (model X.prog X.w) X.A (execs st X.env) (SP X pins D) X.xe s
theorem thn {α : Type} {t : Sem α} {Q Q' : α -> Shared -> Prop} {M : Model} {A : Around} {E : Value -> Shared -> Prop} {s : Shared} (h : wpAny M A t Q E s) (hQ : ∀ a s, Q a s -> Q' a s) : wpAny M A t Q' E s := wpAny_mono h hQ fun _ _ x => x
end L2
namespace L2
open PySem PySem.Spec PyProof.Rows
section
variable {X : Cx}
theorem bin {a b : Expr} {ta tb : TE} (ha : PE X a ta) (hb : PE X b tb) {pins : List (Addr × Obj)} {s : Shared} {σ : St} {H : Hp} {R : V -> V -> Hp -> Prop} (I : Inv X pins σ H s) (h : ta σ H fun x H1 => tb σ H1 fun y H2 => R x y H2)
   {α : Type} {Q : α -> Shared -> Prop} {f : Value -> Value -> Sem α}
   (hf : ∀ v u s2 x y H2, Inv X pins σ H2 s2 -> RelV x v -> RelV y u -> R x y H2 -> wpAny (model X.prog X.w) X.A (f v u) Q X.xe s2) :
   wpAny (model X.prog X.w) X.A (eval a X.env) (fun v s₁ => wpAny (model X.prog X.w) X.A (eval b X.env) (fun u s₂ => wpAny (model X.prog X.w) X.A (f v u) Q X.xe s₂) X.xe s₁) X.xe s := by
 refine thn (ha pins s σ H _ I h) fun v s1 ⟨x, H1, I1, r1, q1⟩ => ?_
 refine thn (hb pins s1 σ H1 _ I1 q1) fun u s2 ⟨y, H2, I2, r2, q2⟩ => ?_
 exact hf v u s2 x y H2 I2 r1 r2 q2
def tVar (i : Nat) : TE := fun σ H Q => ∃ v, σ[i]? = some (some v) /\ Q v H
def tC (v : V) : TE := fun _ H Q => Q v H
theorem pe_var {i : Nat} {x : Str} {pos : Pos} (hN : X.N[i]? = some x) (hv : Vis X.env.scope x) (hd : (x == ("__debug__" : Str)) = false := by decide) (hcd : (x == ("__classdict__" : Str)) = false := by decide) : PE X (.Name x pos) (tVar i) := by
 intro pins s σ H Q I h
 obtain ⟨v, e, h⟩ := h
 obtain ⟨m, hn, hl⟩ := I.loc
 obtain ⟨u, r, l⟩ := hl i x v hN e hv
 have fin : EP X pins σ Q u s := ⟨v, H, I, r, h⟩
 rcases l with ⟨hk, hm⟩ | ⟨hk, c, hc, hcell⟩
 . exact wpAny_Name (wpAny_loadName_local I.ok.kind hk hn hm fin) hd
 . rcases hk with hk | hk
   . exact wpAny_Name (wpAny_loadName_cell I.ok.kind hk hc hcell fin) hd
   . exact wpAny_Name (wpAny_loadName_free I.ok.kind hk hc hcell fin hcd) hd
theorem Zj {i j pos} : PE X (.Constant (.int i) j pos) (tC (.int i)) := fun _ _ _ H _ I h => wpAny_Constant_int ⟨.int i, H, I.tok _, ⟨_, rfl⟩, h⟩
theorem pe_bl {b j pos} : PE X (.Constant (.bool b) j pos) (tC (.bl b)) := fun _ _ _ H _ I h => Constant_bool ⟨.bl b, H, I, rfl, h⟩
theorem pe_non {j pos} : PE X (.Constant .none j pos) (tC .non) := fun _ _ _ H _ I h => Constant_none ⟨.non, H, I, rfl, h⟩
def Gl (X : Cx) (x : Str) : Prop := X.env.kindOf x = some .globalImplicit
theorem ld_glob {E : Value -> Shared -> Prop} {pins : List (Addr × Obj)} {s : Shared} {σ : St} {H : Hp} {x : Str} {u : Value} {pos : Pos} {Q : Value -> Shared -> Prop} (I : Inv X pins σ H s) (hg : Gl X x) (hm : X.mg x = some u) (h : Q u s)
   (hd : (x == ("__debug__" : Str)) = false := by decide) : wpAny (model X.prog X.w) X.A (eval (.Name x pos) X.env) Q E s :=
 Calls.Name_function_global I.ok.kind hg (Calls.loadGlobal_global (by rw [I.ok.glob]; exact I.mod.glob.keeps I.bk) hm h) hd
theorem ld_blt {E : Value -> Shared -> Prop} {pins : List (Addr × Obj)} {s : Shared} {σ : St} {H : Hp} {x : Str} {u : Value} {pos : Pos} {Q : Value -> Shared -> Prop} (I : Inv X pins σ H s) (hg : Gl X x) (hm : X.mg x = none) (hv : bootBuiltins x = some u) (h : Q u s)
   (hn : x ≠ "__name__" := by decide) (hd : (x == ("__debug__" : Str)) = false := by decide) : wpAny (model X.prog X.w) X.A (eval (.Name x pos) X.env) Q E s := by
 obtain ⟨mb, h1, h2⟩ := I.mod.blt
 exact Calls.Name_function_global I.ok.kind hg (Calls.loadGlobal_builtin (by rw [I.ok.glob]; exact I.mod.glob.keeps I.bk) hm (by rw [I.ok.blt]; exact h1.keeps I.bk) ((h2 x hn).trans hv) h) hd
theorem pe_glob {x : Str} {v : V} {u : Value} {pos : Pos} (hg : Gl X x) (hm : X.mg x = some u) (r : RelV v u) (hd : (x == ("__debug__" : Str)) = false := by decide) : PE X (.Name x pos) (tC v) :=
 fun _ _ _ H _ I h => ld_glob I hg hm ⟨v, H, I, r, h⟩ hd
variable {a b : Expr} {ta tb : TE} {pos : Pos}
def PC (X : Cx) (op : CmpOp) (a b : Expr) (t : TE) : Prop :=
 ∀ (pins : List (Addr × Obj)) (s : Shared) (σ : St) (H : Hp) (Q : VK), Inv X pins σ H s -> t σ H Q ->
   wpAny (model X.prog X.w) X.A (eval a X.env) (fun v s₁ => wpAny (model X.prog X.w) X.A (eval b X.env) (fun u s₂ => wpAny (model X.prog X.w) X.A (compareOp op v u) (EP X pins σ Q) X.xe s₂) X.xe s₁) X.xe s
theorem nobehind (b : Expr) {op : CmpOp} (h : op ≠ .In) (h2 : op ≠ .NotIn) : behindInMarks op b = false := by
 have e1 : (op == CmpOp.In) = false := by cases op <;> first | rfl | exact absurd rfl h
 have e2 : (op == CmpOp.NotIn) = false := by cases op <;> first | rfl | exact absurd rfl h2
 cases b <;> simp [behindInMarks, e1, e2]
def tIsN (ta : TE) : TE := fun σ H Q => ta σ H fun x H1 => Q (.bl (decide (x = .non))) H1
theorem RelV.none_iff {x : V} {v : Value} (r : RelV x v) : (v == Value.none) = decide (x = .non) := by
 cases x with
 | non => cases r; rfl
 | bl _ => cases r; rfl
 | int _ => obtain ⟨t, rfl⟩ := r; rfl
 | str _ => obtain ⟨t, rfl⟩ := r; rfl
 | byt _ => obtain ⟨t, rfl⟩ := r; rfl
 | flt _ => obtain ⟨t, rfl⟩ := r; rfl
 | ref _ => cases r; rfl
 | ty _ => cases r; rfl
theorem pc_isN {j pos'} (ha : PE X a ta) : PC X .Is a (.Constant .none j pos') (tIsN ta) := by
 intro pins s σ H Q I h
 refine thn (ha pins s σ H _ I h) fun v s1 ⟨x, H1, I1, r1, q1⟩ => ?_
 exact Constant_none (is_none_gen ⟨.bl _, H1, I1, by rw [r1.none_iff]; rfl, q1⟩)
def tB (t : TE) : TT := fun σ H Q => t σ H fun x H1 => ∃ c, x = .bl c /\ Q c H1
theorem pt_cmp {op : CmpOp} {t : TE} (h : PC X op a b t) (h1 : behindInMarks op b = false := by first | exact nobehind _ (by decide) (by decide) | rfl) : PT X (.Compare a [op] [b] pos) (tB t) := by
 intro pins s σ H Q I hw
 refine wpAny_isTrue_Compare1 (thn (h pins s σ H _ I hw) fun v s1 h1 => thn h1 fun u s2 h2 => thn h2 fun c s3 ⟨x, H1, I1, r1, q1⟩ => ?_) h1
 obtain ⟨d, rfl, q⟩ := q1
 cases r1
 exact wpAny_truthy_bool ⟨H1, I1, q⟩
theorem Yw {e : Expr} {t : TE} (h : PE X e t) (he : ∀ whole, isTrue e X.env whole = (do let v <- whole; standAt e.pos; holding [v] (truthy v)) := by intro _; rfl) : PT X e (tB t) := by
 intro pins s σ H Q I hw
 refine isTrue_plain (thn (h pins s σ H _ I hw) fun v s1 ⟨x, H1, I1, r1, q1⟩ => ?_) (he _)
 obtain ⟨d, rfl, q⟩ := q1
 cases r1
 exact wpAny_truthy_bool ⟨H1, I1, q⟩
variable {tA tB' : TT} {rest : List Expr}
def tAnd (t u : TT) : TT := fun σ H Q => t σ H fun c H1 => if c = true then u σ H1 Q else Q false H1
def tOr (t u : TT) : TT := fun σ H Q => t σ H fun c H1 => if c = true then Q true H1 else u σ H1 Q
def tNot (t : TT) : TT := fun σ H Q => t σ H fun c H1 => Q (!c) H1
theorem pw_and1 (ha : PT X a tA) : PW X (.BoolOp .And [a] pos) tA := by
 intro wh pins s σ H Q I h
 refine isTrue_and (thn (ha pins s σ H Q I h) fun c s1 e => ?_)
 cases c with
 | true => exact isTrue_and_nil e
 | false => exact e
theorem pw_or1 (ha : PT X a tA) : PW X (.BoolOp .Or [a] pos) tA := by
 intro wh pins s σ H Q I h
 refine isTrue_or (thn (ha pins s σ H Q I h) fun c s1 e => ?_)
 cases c with
 | false => exact isTrue_or_nil e
 | true => exact e
theorem pw_and (ha : PT X a tA) (hb : PW X (.BoolOp .And (b :: rest) pos) tB') : PW X (.BoolOp .And (a :: b :: rest) pos) (tAnd tA tB') := by
 intro wh pins s σ H Q I h
 refine isTrue_and (thn (ha pins s σ H _ I h) fun c s1 ⟨H1, I1, q1⟩ => ?_)
 cases c with
 | true => exact hb wh pins s1 σ H1 Q I1 q1
 | false => exact ⟨H1, I1, q1⟩
theorem pw_or (ha : PT X a tA) (hb : PW X (.BoolOp .Or (b :: rest) pos) tB') : PW X (.BoolOp .Or (a :: b :: rest) pos) (tOr tA tB') := by
 intro wh pins s σ H Q I h
 refine isTrue_or (thn (ha pins s σ H _ I h) fun c s1 ⟨H1, I1, q1⟩ => ?_)
 cases c with
 | true => exact ⟨H1, I1, q1⟩
 | false => exact hb wh pins s1 σ H1 Q I1 q1
theorem Vl (ha : PT X a tA) : PT X (.UnaryOp .Not a pos) (tNot tA) := by
 intro pins s σ H Q I h
 exact isTrue_not (ha pins s σ H (fun c H1 => Q (!c) H1) I h)
def tAndV (ta tb : TE) : TE := fun σ H Q => ta σ H fun x H1 => ∃ c, x = .bl c /\ if c = true then tb σ H1 Q else Q (.bl false) H1
def tOrV (ta tb : TE) : TE := fun σ H Q => ta σ H fun x H1 => ∃ c, x = .bl c /\ if c = true then Q (.bl true) H1 else tb σ H1 Q
def tNotV (ta : TE) : TE := fun σ H Q => ta σ H fun x H1 => ∃ c, x = .bl c /\ Q (.bl (!c)) H1
theorem pe_one {op} {t : TE} (h : PE X a t) : PE X (.BoolOp op [a] pos) t := fun pins s σ H Q I hw => BoolOp_one (h pins s σ H Q I hw)
theorem pe_and (ha : PE X a ta) (hb : PE X (.BoolOp .And (b :: rest) pos) tb) : PE X (.BoolOp .And (a :: b :: rest) pos) (tAndV ta tb) := by
 intro pins s σ H Q I h
 refine BoolOp_and (thn (ha pins s σ H _ I h) fun v s1 ⟨x, H1, I1, r1, q1⟩ => ?_)
 obtain ⟨c, rfl, q1⟩ := q1
 cases r1
 refine wpAny_truthy_bool ?_
 cases c with
 | true => exact hb pins s1 σ H1 Q I1 q1
 | false => exact ⟨.bl false, H1, I1, rfl, q1⟩
theorem pe_or (ha : PE X a ta) (hb : PE X (.BoolOp .Or (b :: rest) pos) tb) : PE X (.BoolOp .Or (a :: b :: rest) pos) (tOrV ta tb) := by
 intro pins s σ H Q I h
 refine BoolOp_or (thn (ha pins s σ H _ I h) fun v s1 ⟨x, H1, I1, r1, q1⟩ => ?_)
 obtain ⟨c, rfl, q1⟩ := q1
 cases r1
 refine wpAny_truthy_bool ?_
 cases c with
 | false => exact hb pins s1 σ H1 Q I1 q1
 | true => exact ⟨.bl true, H1, I1, rfl, q1⟩
theorem pe_not (ha : PE X a ta) : PE X (.UnaryOp .Not a pos) (tNotV ta) := by
 intro pins s σ H Q I h
 refine UnaryOp_ (thn (ha pins s σ H _ I h) fun v s1 ⟨x, H1, I1, r1, q1⟩ => ?_)
 obtain ⟨c, rfl, q1⟩ := q1
 cases r1
 exact not_of (wpAny_truthy_bool ⟨.bl (!c), H1, I1, rfl, q1⟩)
def tIf (t : TT) (ta tb : TE) : TE := fun σ H Q => t σ H fun c H1 => if c = true then ta σ H1 Q else tb σ H1 Q
theorem Vr {c : Expr} (hc : PT X c tA) (ha : PE X a ta) (hb : PE X b tb) : PE X (.IfExp c a b pos) (tIf tA ta tb) := by
 intro pins s σ H Q I h
 refine wpAny_IfExp (thn (hc pins s σ H _ I h) fun d s1 ⟨H1, I1, q1⟩ => ?_)
 cases d with
 | true => exact ha pins s1 σ H1 Q I1 q1
 | false => exact hb pins s1 σ H1 Q I1 q1
end
end L2
namespace L2
open PySem PySem.Spec PyProof.Rows
def SqL (K : PySem.W.Frag) (H : Hp) (a : Addr) (xs : List V) : Prop :=
 Rd H a (.lst xs) \/
   ∃ (o : Obj) (its : Array Value) (n : Nat), K.lookup a = some o /\ o.cls = .type "list" /\ o.dict = none /\ o.data = .seq its n /\ its.size <= sizeLine /\ Vals xs its.toList
def SqT (K : PySem.W.Frag) (H : Hp) (a : Addr) (xs : List V) : Prop :=
 Rd H a (.tup xs) \/
   ∃ (o : Obj) (its : Array Value) (n : Nat), K.lookup a = some o /\ o.cls = .type "tuple" /\ o.data = .seq its n /\ its.size <= sizeLine /\ Vals xs its.toList
def absV : Value -> Option V
 | .none => some .non
 | .bool b => some (.bl b)
 | .int i _ => some (.int i)
 | .str x _ => some (.str x)
 | .bytes b _ => some (.byt b)
 | .float b _ => some (.flt b)
 | .ref a => some (.ref a)
 | .type n => some (.ty n)
 | _ => none
theorem RelV.abs {x : V} {u : Value} (r : RelV x u) : absV u = some x := by
 cases x with
 | non => cases r; rfl
 | bl _ => cases r; rfl
 | int _ => obtain ⟨t, rfl⟩ := r; rfl
 | str _ => obtain ⟨t, rfl⟩ := r; rfl
 | byt _ => obtain ⟨t, rfl⟩ := r; rfl
 | flt _ => obtain ⟨t, rfl⟩ := r; rfl
 | ref _ => cases r; rfl
 | ty _ => cases r; rfl
theorem RelV.inj {x y : V} {u : Value} (r : RelV x u) (q : RelV y u) : x = y := Option.some.inj (r.abs.symm.trans q.abs)
theorem Vals.inj : ∀ {xs ys : List V} {us : List Value}, Vals xs us -> Vals ys us -> xs = ys
 | _, _, _, .nil, .nil => rfl
 | _, _, _, .cons r t, .cons r' t' => by rw [r.inj r', Vals.inj t t']
section
variable {X : Cx} {pins : List (Addr × Obj)} {σ : St} {H : Hp} {s : Shared} {a : Addr} {xs ys : List V}
theorem SqL.of {K : PySem.W.Frag} (h : H a = some (.lst xs)) : SqL K H a xs := .inl (.inl h)
theorem SqT.of {K : PySem.W.Frag} (h : H a = some (.tup xs)) : SqT K H a xs := .inl (.inl h)
theorem Inv.list (I : Inv X pins σ H s) (h : SqL X.K H a xs) : ∃ its : List Value, Vals xs its /\ PlainL s.heap a its.toArray /\ xs.length <= sizeLine := by
 rcases h with h | ⟨o, its, n, hk, hc, hd, hs, hz, r⟩
 . obtain ⟨z, its, n, r, e⟩ := h.ok I.hok
   exact ⟨its, r, ⟨_, n, e, rfl, rfl, rfl⟩, z⟩
 . refine ⟨its.toList, r, ⟨o, n, I.kIn a o hk, hc, hd, by simpa using hs⟩, ?_⟩
   have e := r.length
   simp only [Array.length_toList] at e
   omega
theorem Inv.tuple (I : Inv X pins σ H s) (h : SqT X.K H a xs) : ∃ its : List Value, Vals xs its /\ IsTup s.heap a its.toArray /\ xs.length <= sizeLine := by
 rcases h with h | ⟨o, its, n, hk, hc, hs, hz, r⟩
 . obtain ⟨z, its, r, p⟩ := h.ok I.hok
   exact ⟨its, r, p, z⟩
 . refine ⟨its.toList, r, ⟨o, I.kIn a o hk, hc, n, by simpa using hs⟩, ?_⟩
   have e := r.length
   simp only [Array.length_toList] at e
   omega
theorem Inv.list_inj (I : Inv X pins σ H s) (h : SqL X.K H a xs) (h' : SqL X.K H a ys) : xs = ys := by
 obtain ⟨its, r, ⟨o, n, e, _, _, d⟩, _⟩ := I.list h
 obtain ⟨its', r', ⟨o', n', e', _, _, d'⟩, _⟩ := I.list h'
 rw [e] at e'; cases e'
 rw [d] at d'
 injection d' with d1 _
 have : its = its' := by simpa using congrArg Array.toList d1
 subst this
 exact r.inj r'
end
abbrev Cx.wish (X : Cx) (E : Value -> Shared -> Prop) : Cx := { X with xe := E }
abbrev Cx.nox (X : Cx) : Cx := X.wish fun _ _ => False
theorem Cx.Ok.wish {X : Cx} (ok : X.Ok) (E : Value -> Shared -> Prop) : (X.wish E).Ok :=
 ⟨ok.mod, ok.kind, ok.glob, ok.blt, ok.above, ok.inj, ok.has, ok.cab, ok.hd, ok.frames, ok.stk, ok.exf, ok.bs, ok.bsz, ok.noex, ok.exfs, ok.funs, ok.frf⟩
theorem Cx.Ok.unwish {X : Cx} {E : Value -> Shared -> Prop} (ok : (X.wish E).Ok) : X.Ok :=
 ⟨ok.mod, ok.kind, ok.glob, ok.blt, ok.above, ok.inj, ok.has, ok.cab, ok.hd, ok.frames, ok.stk, ok.exf, ok.bs, ok.bsz, ok.noex, ok.exfs, ok.funs, ok.frf⟩
section
variable {X : Cx} {pins : List (Addr × Obj)} {σ : St} {H : Hp} {s : Shared} {E : Value -> Shared -> Prop}
theorem Inv.wish (I : Inv X pins σ H s) (E : Value -> Shared -> Prop) : Inv (X.wish E) pins σ H s := ⟨I.ok.wish E, I.os, I.bare, I.base, I.loc, I.cell, I.free, I.freeC, I.pin, I.hok, I.len⟩
theorem Inv.unwish (I : Inv (X.wish E) pins σ H s) : Inv X pins σ H s := ⟨I.ok.unwish, I.os, I.bare, I.base, I.loc, I.cell, I.free, I.freeC, I.pin, I.hok, I.len⟩
theorem SP.unwish {D : Ends} {f : Flow} {s' : Shared} (h : SP (X.wish E) pins D f s') : SP X pins D f s' := by
 cases f with
 | next => obtain ⟨σ', H', I, q⟩ := h; exact ⟨σ', H', I.unwish, q⟩
 | brk => obtain ⟨σ', H', I, q⟩ := h; exact ⟨σ', H', I.unwish, q⟩
 | cont => obtain ⟨σ', H', I, q⟩ := h; exact ⟨σ', H', I.unwish, q⟩
 | ret u => obtain ⟨v, σ', H', I, r, q⟩ := h; exact ⟨v, σ', H', I.unwish, r, q⟩
theorem PSs.nox {st : List Stmt} {t : TS} (h : PSs X.nox st t) : PSs X st t := fun pins s σ H D I hw =>
 wpAny_mono (h pins s σ H D (I.wish _) hw) (fun _ _ q => q.unwish) fun _ _ z => False.elim z
end
section
variable {X : Cx} {st : Stmt} {rest : List Stmt} {t u : TS} {e : Expr} {te : TE} {pos : Pos}
def tNext : TS := fun D σ H => D.nx σ H
def tSeq (t u : TS) : TS := fun D σ H => t { D with nx := u D } σ H
theorem Zo : PSs X [] tNext := fun _ _ σ H _ I h => wpAny_execs_nil ⟨σ, H, I, h⟩
theorem Za (h1 : PS X st t) (h2 : PSs X rest u) : PSs X (st :: rest) (tSeq t u) := by
 intro pins s σ H D I h
 refine wpAny_execs_cons (thn (h1 pins s σ H { D with nx := u D } I h) fun f s1 q => ?_)
 cases f with
 | next =>
   obtain ⟨σ', H', I', q⟩ := q
   exact h2 pins s1 σ' H' D I' q
 | ret v => exact q
 | brk => exact q
 | cont => exact q
theorem Zc (h1 : PS X st t) : PSs X [st] t := by
 intro pins s σ H D I h
 refine wpAny_execs_cons (thn (h1 pins s σ H D I h) fun f s1 q => ?_)
 cases f with
 | next => exact wpAny_execs_nil q
 | ret v => exact q
 | brk => exact q
 | cont => exact q
theorem Inv.quiet {pins : List (Addr × Obj)} {σ : St} {H : Hp} {s : Shared} (I : Inv X pins σ H s) : interactive X.env = false := by simp [interactive, I.ok.kind]
def tDrop (te : TE) : TS := fun D σ H => te σ H fun _ H1 => D.nx σ H1
theorem Yt (he : PE X e te) (hs : swapsWith e none pos.line X.env = pure false := by rfl) : PS X (.Expr e pos) (tDrop te) := by
 intro pins s σ H D I h
 exact wpAny_Expr_any (thn (he pins s σ H _ I h) fun v s1 ⟨x, H1, I1, r1, q1⟩ => ⟨σ, H1, I1, q1⟩) I.quiet hs
def tRet (te : TE) : TS := fun D σ H => te σ H D.rt
theorem Zg (he : PE X e te) : PS X (.Return (some e) pos) (tRet te) := by
 intro pins s σ H D I h
 exact wpAny_Return_some (thn (he pins s σ H _ I h) fun v s1 ⟨x, H1, I1, r1, q1⟩ => ⟨x, σ, H1, I1, r1, q1⟩)
def tIfS (c : TT) (t u : TS) : TS := fun D σ H => c σ H fun b H1 => if b = true then t D σ H1 else u D σ H1
theorem Yf {c : Expr} {a b : List Stmt} {tc : TT} (hc : PT X c tc) (ha : PSs X a t) (hb : PSs X b u) : PS X (.If c a b pos) (tIfS tc t u) := by
 intro pins s σ H D I h
 refine wpAny_If (thn (hc pins s σ H _ I h) fun d s1 ⟨H1, I1, q1⟩ => ?_)
 cases d with
 | true => exact ha pins s1 σ H1 D I1 q1
 | false => exact hb pins s1 σ H1 D I1 q1
end
abbrev TG := V -> St -> Hp -> (St -> Hp -> Prop) -> Prop
abbrev TGs := List V -> St -> Hp -> (St -> Hp -> Prop) -> Prop
def PG (X : Cx) (target : Expr) (t : TG) : Prop :=
 ∀ (pins : List (Addr × Obj)) (s : Shared) (σ : St) (H : Hp) (v : V) (u : Value) (Q : St -> Hp -> Prop), Inv X pins σ H s -> RelV v u -> t v σ H Q ->
   wpAny (model X.prog X.w) X.A (assign target X.env u) (fun _ s' => ∃ σ' H', Inv X pins σ' H' s' /\ Q σ' H') X.xe s
def PGs (X : Cx) (ts : List Expr) (t : TGs) : Prop :=
 ∀ (pins : List (Addr × Obj)) (s : Shared) (σ : St) (H : Hp) (vs : List V) (us : List Value) (Q : St -> Hp -> Prop), Inv X pins σ H s -> Vals vs us -> t vs σ H Q ->
   wpAny (model X.prog X.w) X.A (assignInOrder ((assignEach ts X.env).map (·.2)) us) (fun _ s' => ∃ σ' H', Inv X pins σ' H' s' /\ Q σ' H') X.xe s
abbrev TSet := V -> V -> V -> Hp -> (Hp -> Prop) -> Prop
def PSet (X : Cx) (t : TSet) : Prop :=
 ∀ (pins : List (Addr × Obj)) (s : Shared) (σ : St) (H : Hp) (o i v : V) (ov iv u : Value) (Q : Hp -> Prop), Inv X pins σ H s -> RelV o ov -> RelV i iv -> RelV v u -> t o i v H Q ->
   wpAny (model X.prog X.w) X.A (setItem ov iv u) (fun _ s' => ∃ H', Inv X pins σ H' s' /\ Q H') X.xe s
abbrev TIp := V -> V -> Hp -> VK -> Prop
def PIp (X : Cx) (op : Operator) (t : TIp) : Prop :=
 ∀ (pins : List (Addr × Obj)) (s : Shared) (σ : St) (H : Hp) (x y : V) (v u : Value) (Q : VK), Inv X pins σ H s -> RelV x v -> RelV y u -> t x y H Q ->
   wpAny (model X.prog X.w) X.A (inplaceOp op v u) (EP X pins σ Q) X.xe s
section
variable {X : Cx} {pos : Pos}
def gName (i : Nat) : TG := fun v σ H Q => Q (σ.set i (some v)) H
theorem Zp {i : Nat} {x : Str} (hN : X.N.Nodup) (hi : X.N[i]? = some x) (hx : Loc X.env.scope x) (hf : X.fn x = true \/ X.env.scope.names.lookup x = some .local := by first | exact .inl rfl | exact .inr rfl | assumption) : PG X (.Name x pos) (gName i) := by
 intro pins s σ H v u Q I r h
 exact wpAny_assign_Name (store_ok I hN hi hx r (fun s' I' => ⟨_, H, I', h⟩) hf)
def gNil : TGs := fun vs σ H Q => vs = [] /\ Q σ H
def gCons (t : TG) (u : TGs) : TGs := fun vs σ H Q => ∃ v r, vs = v :: r /\ t v σ H fun σ' H' => u r σ' H' Q
theorem Qh : PGs X [] gNil := by
 intro pins s σ H vs us Q I r h
 obtain ⟨e, h⟩ := h
 subst e
 cases r
 exact assignInOrder_nil ⟨σ, H, I, h⟩
theorem Ys {e : Expr} {es : List Expr} {t : TG} {u : TGs} (h1 : PG X e t) (h2 : PGs X es u)
   (hs : (assignEach (e :: es) X.env).map (·.2) = assign e X.env :: (assignEach es X.env).map (·.2) := by rfl) : PGs X (e :: es) (gCons t u) := by
 intro pins s σ H vs us Q I r h
 obtain ⟨v, vr, e1, h⟩ := h
 subst e1
 cases r with
 | cons r rr =>
   rw [hs]
   refine assignInOrder_cons (thn (h1 pins s σ H _ _ _ I r h) fun _ s1 ⟨σ1, H1, I1, q1⟩ => ?_)
   exact h2 pins s1 σ1 H1 _ _ Q I1 rr q1
def gTup (K : PySem.W.Frag) (n : Nat) (t : TGs) : TG := fun v σ H Q => ∃ a xs, v = .ref a /\ SqT K H a xs /\ xs.length = n /\ t xs σ H Q
theorem pg_tup {es : List Expr} {k : Nat} {t : TGs} {n : Nat} (hc : X.calm = true) (h : PGs X es t)
   (hn : (assignEach es X.env).length = n := by rfl) (hst : (assignEach es X.env).findIdx? (·.1) = none := by rfl) : PG X (.Tuple es k pos) (gTup X.K n t) := by
 intro pins s σ H v u Q I r hw
 obtain ⟨a, xs, e1, hq, hl, hw⟩ := hw
 subst e1
 cases r
 obtain ⟨its, rv, ht, hz⟩ := I.tuple hq
 refine assign_Tuple_tuple (I.ok.hd hc) ht (by simp [hn, <- hl, rv.length]) hst fun h' hx => ?_
 have I1 : Inv X pins σ H { s with heap := h' } := I.kept (t' := s.toks) fun b o e => hx b o (Nat.ne_of_lt (Heap.lt_size e)) e
 exact h pins _ σ H xs _ Q I1 (by simpa using rv) hw
def gSub (to ti : TE) (t : TSet) : TG := fun v σ H Q => to σ H fun o H1 => ti σ H1 fun i H2 => t o i v H2 fun H3 => Q σ H3
theorem pg_sub {o i : Expr} {to ti : TE} {t : TSet} (ho : PE X o to) (hi : PE X i ti) (hs : PSet X t)
   (ha : ∀ v, assign (.Subscript o i pos) X.env v = (do
     let ov <- holding [v] (eval o X.env)
     let iv <- holding [v, ov] (eval i X.env)
     standAt pos
     holding [v, ov, iv] (setItem ov iv v)
     release [v, ov, iv] []) := by intro _; rfl) : PG X (.Subscript o i pos) (gSub to ti t) := by
 intro pins s σ H v u Q I r h
 rw [ha]
 refine wpAny_bind (wpAny_holding (thn (ho pins s σ H _ I h) fun ov s1 ⟨x, H1, I1, r1, q1⟩ => ?_))
 refine wpAny_bind (wpAny_holding (thn (hi pins s1 σ H1 _ I1 q1) fun iv s2 ⟨y, H2, I2, r2, q2⟩ => ?_))
 refine wpAny_bind (wpAny_standAt (wpAny_bind (wpAny_holding (thn (hs pins s2 σ H2 x y v ov iv u _ I2 r1 r2 r q2) fun _ s3 ⟨H3, I3, q3⟩ => ?_))))
 exact wpAny_release ⟨σ, H3, I3, q3⟩
def tAsg (te : TE) (g : TG) : TS := fun D σ H => te σ H fun x H1 => g x σ H1 D.nx
theorem ps_asg {tg e : Expr} {te : TE} {g : TG} (he : PE X e te) (hg : PG X tg g) (hs : swapsWithSole [tg] e pos.line X.env = pure false := by rfl) (hw : swappedStores [tg] e X.env = pure none := by rfl)
   (h1 : (assignEach [tg] X.env).map (·.2) = [assign tg X.env] := by rfl) : PS X (.Assign [tg] e pos) (tAsg te g) := by
 intro pins s σ H D I h
 refine wpAny_Assign_stores (thn (he pins s σ H _ I h) fun v s1 ⟨x, H1, I1, r1, q1⟩ => ?_) hs hw
 rw [h1]
 exact thn (hg pins s1 σ H1 x v _ I1 r1 q1) fun _ s2 q => q
theorem Zr {i : Nat} {x : Str} {e : Expr} {te : TE} {pos' : Pos} (hN : X.N.Nodup) (hi : X.N[i]? = some x) (hx : Loc X.env.scope x) (he : PE X e te) (hs : swapsWith e (some (.Name x pos')) pos.line X.env = pure false := by rfl) (hf : X.fn x = true \/ X.env.scope.names.lookup x = some .local := by first | exact .inl rfl | exact .inr rfl | assumption) :
   PS X (.Assign [.Name x pos'] e pos) (tAsg te (gName i)) := by
 intro pins s σ H D I h
 refine wpAny_Assign_Name (thn (he pins s σ H _ I h) fun v s1 ⟨y, H1, I1, r1, q1⟩ => ?_) hs
 exact store_ok I1 hN hi hx r1 (fun s2 I2 => ⟨_, H1, I2, q1⟩) hf
def tAug (i : Nat) (te : TE) (ti : TIp) : TS := fun D σ H => ∃ x, σ[i]? = some (some x) /\ te σ H fun y H1 => ti x y H1 fun z H2 => D.nx (σ.set i (some z)) H2
theorem ps_aug {i : Nat} {x : Str} {e : Expr} {te : TE} {op : Operator} {ti : TIp} {pos' : Pos} (hN : X.N.Nodup) (hi : X.N[i]? = some x) (hx : Loc X.env.scope x) (he : PE X e te) (ho : PIp X op ti) (hf : X.fn x = true \/ X.env.scope.names.lookup x = some .local := by first | exact .inl rfl | exact .inr rfl | assumption) :
   PS X (.AugAssign (.Name x pos') op e pos) (tAug i te ti) := by
 intro pins s σ H D I h
 obtain ⟨v, e1, h⟩ := h
 obtain ⟨m, hn, hl⟩ := I.loc
 have vis : Vis X.env.scope x := by rcases hx with k | k; exact .inl k; exact .inr (.inl k)
 obtain ⟨u, r, l⟩ := hl i x v hi e1 vis
 refine wpAny_AugAssign_Name ?_
 have go : wpAny (model X.prog X.w) X.A (eval e X.env) (fun w s₂ => wpAny (model X.prog X.w) X.A (inplaceOp op u w) (fun r s₃ => wpAny (model X.prog X.w) X.A (storeName X.env x r) (fun _ => SP X pins D .next) X.xe s₃) X.xe s₂) X.xe s := by
   refine thn (he pins s σ H _ I h) fun w s1 ⟨y, H1, I1, r1, q1⟩ => ?_
   refine thn (ho pins s1 σ H1 v y u w _ I1 r r1 q1) fun z s2 ⟨zv, H2, I2, r2, q2⟩ => ?_
   exact store_ok I2 hN hi hx r2 (fun s3 I3 => ⟨_, H2, I3, q2⟩) hf
 rcases l with ⟨hk, hm⟩ | ⟨hk, c, hc, hcell⟩
 . exact wpAny_loadName_local I.ok.kind hk hn hm go
 . rcases hk with hk | hk
   . exact wpAny_loadName_cell I.ok.kind hk hc hcell go
   . rcases hx with k | k
     . have : X.env.scope.names.lookup x = some .free := hk
       rw [k] at this; cases this
     . have : X.env.scope.names.lookup x = some .free := hk
       rw [k] at this; cases this
def ipI (f : Int -> Int -> Int) : TIp := fun x y H Q => ∃ i j, x = .int i /\ y = .int j /\ Q (.int (f i j)) H
theorem ip_add : PIp X .Add (ipI fun i j => i + j) := by
 intro pins s σ H x y v u Q I r1 r2 h
 obtain ⟨i, j, e1, e2, q⟩ := h
 subst e1; subst e2
 obtain ⟨t, rfl⟩ := r1
 obtain ⟨t', rfl⟩ := r2
 exact iadd_int ⟨.int _, H, I.tok _, ⟨_, rfl⟩, q⟩
end
section
variable {X : Cx} {pos : Pos}
def tWhile (c : TT) (tb : TS) : TS := fun D σ H => ∃ W : Nat -> St -> Hp -> Prop, (∃ m, W m σ H) /\ ∀ m σ H, W m σ H ->
 c σ H fun b H1 => if b = true then ∃ N : St -> Hp -> Prop, (∀ σ' H', N σ' H' -> ∃ m', m' < m /\ W m' σ' H') /\ tb { D with nx := N, ct := N, bk := D.nx } σ H1 else D.nx σ H1
theorem ps_while {c : Expr} {body : List Stmt} {tc : TT} {tb : TS} (hp : PassesOwn (model X.prog X.w) X.A X.env X.xe) (hc : PT X c tc) (hb : PSs X body tb) : PS X (.While c body [] pos) (tWhile tc tb) := by
 intro pins s σ H D I h
 obtain ⟨W, ⟨m0, w0⟩, turn⟩ := h
 refine wpAny_While (codeAny_whileLoop (fun n s' => ∃ σ' H', Inv X pins σ' H' s' /\ W n σ' H') ?_ m0 ⟨σ, H, I, w0⟩)
 rintro n s1 ⟨σ1, H1, I1, w1⟩
 refine wpAny_passesOwn hp (thn (hc pins s1 σ1 H1 _ I1 (turn n σ1 H1 w1)) fun b s2 ⟨H2, I2, q2⟩ => ?_)
 cases b with
 | true =>
   obtain ⟨N, hN, q2⟩ := q2
   rw [if_pos rfl]
   refine wpAny_passesOwn hp (thn (hb pins s2 σ1 H2 _ I2 q2) fun f s3 q3 => ?_)
   cases f with
   | next =>
     obtain ⟨σ3, H3, I3, n3⟩ := q3
     obtain ⟨m', hm, w3⟩ := hN σ3 H3 n3
     exact ⟨m', hm, σ3, H3, I3, w3⟩
   | cont =>
     obtain ⟨σ3, H3, I3, n3⟩ := q3
     obtain ⟨m', hm, w3⟩ := hN σ3 H3 n3
     exact ⟨m', hm, σ3, H3, I3, w3⟩
   | brk => exact q3
   | ret v => exact q3
 | false =>
   rw [if_neg Bool.false_ne_true]
   exact wpAny_execs_nil ⟨σ1, H2, I2, q2⟩
end
structure It where
 go : Nat -> Hp -> Prop
 yld : Nat -> Hp -> V -> Hp -> Prop
 stop : Nat -> Hp -> Prop
def FpOk (X : Cx) (pins : List (Addr × Obj)) (H : Hp) (b : Addr) : Prop :=
 H b = none /\ b ≠ X.env.locals /\ b ∉ X.fs /\ (b ∈ X.ex \/ X.s_0.heap.objs.size <= b) /\ (∀ x c, X.env.cells.lookup x = some c -> c ≠ b) /\ ∀ p ∈ X.pn ++ pins, p.1 ≠ b
theorem Inv.fpOk {X : Cx} {pins : List (Addr × Obj)} {σ : St} {H H' : Hp} {s : Shared} {b : Addr} (I : Inv X pins σ H s) (hb : s.heap.objs.size <= b) (hn : H' b = none) : FpOk X pins H' b := by
 refine ⟨hn, Nat.ne_of_gt (Nat.lt_of_lt_of_le I.lt hb), I.nofs hb, .inr (Nat.le_trans I.sz hb), fun x c e z => ?_, fun p hp z => ?_⟩
 . obtain ⟨v, q⟩ := I.cell x c e
   exact absurd (Nat.lt_of_lt_of_le q.lt (by rw [z]; exact hb)) (Nat.lt_irrefl _)
 . exact absurd (Nat.lt_of_lt_of_le (Heap.lt_size (I.pin p hp).1) (by rw [z]; exact hb)) (Nat.lt_irrefl _)
structure Turn (P : Program) (w : World) (K : PySem.W.Frag) (tg : Expr) (J : It) (fp : List Addr) (it : Addr) (tn : Nat -> Heap -> Prop) : Prop where
 mem : it ∈ fp
 obj : ∀ i h, tn i h -> ∀ b ∈ fp, ∃ o, h.get? b = some o /\ ∀ v, o.data ≠ .cell v
 keep : ∀ i h h', tn i h -> (∀ b ∈ fp, ∀ o, h.get? b = some o -> h'.get? b = some o) -> tn i h'
 item : ∀ (X : Cx), X.prog = P -> X.w = w -> X.K = K -> X.calm = true -> ∀ (i : Nat) (pins : List (Addr × Obj)) (s : Shared) (σ : St) (H : Hp) (E : Value -> Shared -> Prop), Inv X pins σ H s -> (∀ b ∈ fp, FpOk X pins H b) -> tn i s.heap -> J.go i H ->
   wpAny (model P w) X.A (pyNext (.ref it)) (fun r s1 => ∃ u, r = some u /\
     wpAny (model P w) X.A (letOwnedTupleGo tg (.ref it) u) (fun _ s2 => ∃ x H', Inv X pins σ H' s2 /\ RelV x u /\ J.yld i H x H' /\ tn (i + 1) s2.heap /\ ∀ b ∈ fp, H' b = none) E s1) E s
 done : ∀ (X : Cx), X.prog = P -> X.w = w -> X.K = K -> X.calm = true -> ∀ (i : Nat) (pins : List (Addr × Obj)) (s : Shared) (σ : St) (H : Hp) (E : Value -> Shared -> Prop), Inv X pins σ H s -> (∀ b ∈ fp, FpOk X pins H b) -> tn i s.heap -> J.stop i H ->
   wpAny (model P w) X.A (pyNext (.ref it)) (fun r s1 => r = none /\ Inv X pins σ H s1) E s
 self : ∀ (A : Around) (i : Nat) (s : Shared) (Q : Value -> Shared -> Prop) (E : Value -> Shared -> Prop), tn i s.heap -> Q (.ref it) s -> wpAny (model P w) A (pyIter (.ref it)) Q E s
abbrev TI := St -> Hp -> (It -> Hp -> Prop) -> Prop
def PIE (X : Cx) (pins : List (Addr × Obj)) (σ : St) (tg : Expr) (R : It -> Hp -> Prop) (itv : Value) (s2 : Shared) : Prop :=
 ∃ (it : Addr) (fp : List Addr) (tn : Nat -> Heap -> Prop) (J : It) (H' : Hp), itv = .ref it /\ Inv X pins σ H' s2 /\ Turn X.prog X.w X.K tg J fp it tn /\ tn 0 s2.heap /\ (∀ b ∈ fp, FpOk X pins H' b) /\ R J H'
def PI (X : Cx) (tg iter : Expr) (wi : TI) : Prop :=
 ∀ (pins : List (Addr × Obj)) (s : Shared) (σ : St) (H : Hp) (R : It -> Hp -> Prop), Inv X pins σ H s -> wi σ H R ->
   wpAny (model X.prog X.w) X.A (eval iter X.env) (fun v s1 => wpAny (model X.prog X.w) X.A (pyIter v) (PIE X pins σ tg R) X.xe s1) X.xe s
theorem go_of {M : Model} {A : Around} {E : Value -> Shared -> Prop} {s : Shared} {tg : Expr} {it : Addr} {u : Value} {o : Obj} {n : String} {vs : Array Value} {Q : Unit -> Shared -> Prop} (ho : s.heap.get? it = some o) (hc : o.cls = .type n) (hd : o.data = .fields vs)
   (hn : ["enumerate", "zip", "dict_itemiterator", "dict_reverseitemiterator", "odict_iterator", "itertools.zip_longest", "itertools.pairwise"].contains n = false) (hQ : Q () s) : wpAny M A (letOwnedTupleGo tg (.ref it) u) Q E s := by
 unfold letOwnedTupleGo
 cases tg <;> first
   | exact wpAny_pure hQ
   | (cases u <;> first
       | exact wpAny_pure hQ
       | (refine wpAny_bind (wpAny_load ho ?_)
          rw [hc, hd]
          show wpAny M A (if (["enumerate", "zip", "dict_itemiterator", "dict_reverseitemiterator", "odict_iterator", "itertools.zip_longest", "itertools.pairwise"].contains n && vs[0]? == some (rawInt _)) = true then _ else _) Q E s
          rw [if_neg (by intro h; rw [hn, Bool.false_and] at h; cases h)]
          exact wpAny_pure hQ))
def Itl (K : PySem.W.Frag) (a : Addr) : It :=
 ⟨fun i H => ∃ xs x, SqL K H a xs /\ xs[i]? = some x, fun i H x H' => H' = H /\ ∀ xs, SqL K H a xs -> xs[i]? = some x, fun i H => ∃ xs, SqL K H a xs /\ xs.length <= i⟩
def Itr (lo : Int) (n : Nat) : It := ⟨fun i _ => i < n, fun i H x H' => H' = H /\ x = .int (lo + i), fun i _ => n <= i⟩
theorem turn_list {P : Program} {w : World} {K : PySem.W.Frag} {tg : Expr} (a it : Addr) : Turn P w K tg (Itl K a) [it] it (fun i h => h.IsListIter it a i) where
 mem := by simp
 obj := fun i h st b hb => by
   have e : b = it := by simpa using hb
   subst e
   obtain ⟨o, e, c, d⟩ := st
   exact ⟨o, e, fun v z => by rw [d] at z; cases z⟩
 keep := fun i h h' st k => st.at fun o e => k it (by simp) o e
 item := by
   intro X hP hw hK hc i pins s σ H E I hf st hg
   subst hP hw hK
   obtain ⟨xs, x, hq, hx⟩ := hg
   obtain ⟨its, rv, p, hz⟩ := I.list hq
   obtain ⟨u, hu, ru⟩ := rv.get hx
   obtain ⟨f0, f1, f2, f3, f4, f5⟩ := hf it (by simp)
   refine wpAny_pyNext_list_item st p.isList (x := u) (by simpa using hu) fun h' st' sb => ?_
   have I1 : Inv X pins σ H { s with heap := h' } := I.turned (t' := s.toks) (fun b o hb e => (sb.2 b hb).trans e) f0 f1 f3 f4 f5
   obtain ⟨o, e, c, d⟩ := id st'
   exact ⟨u, rfl, go_of (s := { s with heap := h' }) e c d (by decide) ⟨x, H, I1, ru, ⟨rfl, fun ys hy => by rw [I.list_inj hy hq]; exact hx⟩, st', fun b hb => (hf b hb).1⟩⟩
 done := by
   intro X hP hw hK hc i pins s σ H E I hf st hg
   subst hP hw hK
   obtain ⟨xs, hq, hx⟩ := hg
   obtain ⟨its, rv, p, hz⟩ := I.list hq
   obtain ⟨f0, f1, f2, f3, f4, f5⟩ := hf it (by simp)
   have hl := rv.length
   exact wpAny_pyNext_list_end (I.ok.hd hc) st p.isList (by simp; omega) fun h' eb => ⟨rfl, I.turned (t' := s.toks) (fun b o hb e => eb b o hb e) f0 f1 f3 f4 f5⟩
 self := fun _ _ _ _ _ st h => wpAny_pyIter_listiter st h
theorem turn_range {P : Program} {w : World} {K : PySem.W.Frag} {tg : Expr} (it : Addr) (lo : Int) (n : Nat) : Turn P w K tg (Itr lo n) [it] it (fun i h => IsRangeIter h it (lo + (i : Nat) * 1) ((n : Int) - (i : Nat)) 1) where
 mem := by simp
 obj := fun i h st b hb => by
   have e : b = it := by simpa using hb
   subst e
   exact ⟨_, st, fun v z => by
     have z' : Data.fields _ = Data.cell v := z
     cases z'⟩
 keep := fun i h h' st k => k it (by simp) _ st
 item := by
   intro X hP hw hK hc i pins s σ H E I hf st hg
   subst hP hw hK
   obtain ⟨f0, f1, f2, f3, f4, f5⟩ := hf it (by simp)
   have W := Walks.range (prog := X.prog) (w := X.w) (I.ok.hd hc) it lo 1 n
   refine W.item i s _ _ hg st fun v h' tk hv st' kk => ?_
   obtain ⟨t, rfl⟩ := hv
   have I1 : Inv X pins σ H { s with heap := h', toks := tk } := I.turned (fun b o hb e => kk b o (by simpa using hb) e) f0 f1 f3 f4 f5
   refine ⟨_, rfl, go_of (s := { s with heap := h', toks := tk }) (n := "range_iterator") st' rfl rfl (by decide) ⟨.int (lo + i), H, I1, ⟨t, ?_⟩, ⟨rfl, rfl⟩, st', fun b hb => (hf b hb).1⟩⟩
   rw [Int.mul_one]
 done := by
   intro X hP hw hK hc i pins s σ H E I hf st hg
   subst hP hw hK
   obtain ⟨f0, f1, f2, f3, f4, f5⟩ := hf it (by simp)
   exact wpAny_pyNext_range_end (I.ok.hd hc) st (by have : n <= i := hg; omega) fun h' eb => ⟨rfl, I.turned (t' := s.toks) (fun b o hb e => eb b o hb e) f0 f1 f3 f4 f5⟩
 self := fun _ _ _ _ _ st h => wpAny_pyIter_rangeiter st h
end L2
namespace L2
open PySem PySem.Spec PyProof.Rows
section
variable {X : Cx} {tg : Expr}
def iList (K : PySem.W.Frag) (tl : TE) : TI := fun σ H R => tl σ H fun x H1 => ∃ a, x = .ref a /\ (∃ xs, SqL K H1 a xs) /\ R (Itl K a) H1
theorem pi_list {l : Expr} {tl : TE} (hl : PE X l tl) : PI X tg l (iList X.K tl) := by
 intro pins s σ H R I h
 refine thn (hl pins s σ H _ I h) fun v s1 ⟨x, H1, I1, r1, q1⟩ => ?_
 obtain ⟨a, e, ⟨xs, hq⟩, q⟩ := q1
 subst e
 cases r1
 obtain ⟨its, rv, p, hz⟩ := I1.list hq
 refine wpAny_pyIter_list p.isList ?_
 refine ⟨s1.heap.objs.size, [s1.heap.objs.size], _, _, H1, rfl, I1.kept (t' := s1.toks) fun b o e => Heap.get?_push_of_some _ e, turn_list a _, ⟨_, Heap.get?_push_size _ rfl, rfl, rfl⟩, fun b hb => ?_, q⟩
 have e : b = s1.heap.objs.size := by simpa using hb
 subst e
 exact I1.fpOk (Nat.le_refl _) (I1.hok.fresh (Nat.le_refl _))
theorem range_it {pins : List (Addr × Obj)} {σ : St} {H : Hp} {s : Shared} {R : It -> Hp -> Prop} {E : Value -> Shared -> Prop} {lo hi : Int} {t u v : Tok} {tk : Nat} (I : Inv X pins σ H s) (h1 : -(2 ^ 62) <= lo) (h2 : lo < 2 ^ 62) (h3 : -(2 ^ 62) <= hi) (h4 : hi < 2 ^ 62)
   (q : R (Itr lo (hi - lo).toNat) H) : wpAny (model X.prog X.w) X.A (pyIter (.ref s.heap.objs.size)) (PIE X pins σ tg R) E { s with heap := s.heap.push { cls := .type "range", data := .fields #[.int lo t, .int hi u, .int 1 v] }, toks := tk } := by
 refine wpAny_pyIter_range (IsRange.new ..) (small_one h1 h2 h3 h4) ?_
 have I1 : Inv X pins σ H { s with heap := s.heap.push { cls := .type "range", data := .fields #[.int lo t, .int hi u, .int 1 v] }, toks := tk } := I.kept fun b o e => Heap.get?_push_of_some _ e
 refine ⟨(s.heap.push { cls := .type "range", data := .fields #[.int lo t, .int hi u, .int 1 v] }).objs.size, [(s.heap.push { cls := .type "range", data := .fields #[.int lo t, .int hi u, .int 1 v] }).objs.size], _, _, H, rfl,
   I1.kept (t' := tk) fun b o e => Heap.get?_push_of_some _ e, turn_range _ lo (hi - lo).toNat, ?_, fun b hb => ?_, q⟩
 . have e1 : lo + ((0 : Nat) : Int) * 1 = lo := by simp
   have e2 : (((hi - lo).toNat : Nat) : Int) - ((0 : Nat) : Int) = Builtin.Range.rangeSize lo hi 1 := by rw [rangeSize_one]; split <;> omega
   show IsRangeIter _ _ (lo + ((0 : Nat) : Int) * 1) ((((hi - lo).toNat : Nat) : Int) - ((0 : Nat) : Int)) 1
   rw [e1, e2]
   exact Heap.get?_push_size _ rfl
 . have e : b = (s.heap.push { cls := .type "range", data := .fields #[.int lo t, .int hi u, .int 1 v] }).objs.size := by simpa using hb
   subst e
   exact I1.fpOk (Nat.le_refl _) (I1.hok.fresh (Nat.le_refl _))
def iRng1 (ta : TA) : TI := fun σ H R => ta σ H fun vs H1 => ∃ j : Int, vs = [.int j] /\ -(2 ^ 62) <= j /\ j < 2 ^ 62 /\ R (Itr 0 j.toNat) H1
def iRng2 (ta : TA) : TI := fun σ H R => ta σ H fun vs H1 => ∃ i j : Int, vs = [.int i, .int j] /\ (-(2 ^ 62) <= i /\ i < 2 ^ 62 /\ -(2 ^ 62) <= j /\ j < 2 ^ 62) /\ R (Itr i (j - i).toNat) H1
theorem Xe {a : Expr} {ta : TA} {p pos : Pos} (hg : Gl X "range") (hm : X.mg "range" = none) (ha : PA X [a] ta) (hs : starEach [a] X.env = [(false, eval a X.env)] := by rfl) : PI X tg (.Call (.Name "range" p) [a] [] pos) (iRng1 ta) := by
 intro pins s σ H R I h
 refine Call_ (ld_blt I hg hm boot_range (PyProof.Rows.callWith_type1 (thn (ha pos pins s σ H _ I h) fun us s1 ⟨vs, H1, I1, r1, q1⟩ => ?_) hs rfl))
 obtain ⟨j, e, q1, q2, q⟩ := q1
 subst e
 cases r1 with
 | cons r rr =>
   cases rr
   obtain ⟨t, rfl⟩ := r
   exact call_range_1 (range_it I1 (by omega) (by omega) q1 q2 (by simpa using q))
theorem pi_range2 {a b : Expr} {ta : TA} {p pos : Pos} (hg : Gl X "range") (hm : X.mg "range" = none) (ha : PA X [a, b] ta) (hs : starEach [a, b] X.env = [(false, eval a X.env), (false, eval b X.env)] := by rfl) (hs2 : starEach [b] X.env = [(false, eval b X.env)] := by rfl) :
   PI X tg (.Call (.Name "range" p) [a, b] [] pos) (iRng2 ta) := by
 intro pins s σ H R I h
 refine Call_ (ld_blt I hg hm boot_range (PyProof.Rows.callWith_type1 (thn (ha pos pins s σ H _ I h) fun us s1 ⟨vs, H1, I1, r1, q1⟩ => ?_) (by rw [hs, hs2]) (by rw [hs2]; rfl)))
 obtain ⟨i, j, e, ⟨q1, q2, q3, q4⟩, q⟩ := q1
 subst e
 cases r1 with
 | cons r rr =>
   cases rr with
   | cons r' rr =>
     cases rr
     obtain ⟨t, rfl⟩ := r
     obtain ⟨t', rfl⟩ := r'
     exact call_range_2 (range_it I1 q1 q2 q3 q4 q)
def tFor (wi : TI) (g : TG) (tb : TS) : TS := fun D σ H => wi σ H fun J H1 => ∃ W : Nat -> Nat -> St -> Hp -> Prop, (∃ m, W 0 m σ H1) /\ ∀ i m σ H, W i m σ H ->
 (J.stop i H /\ D.nx σ H) \/ (J.go i H /\ ∃ N : St -> Hp -> Prop, (∀ σ' H', N σ' H' -> ∃ m', m' < m /\ W (i + 1) m' σ' H') /\ ∀ x H', J.yld i H x H' -> g x σ H' fun σ2 H2 => tb { D with nx := N, ct := N, bk := D.nx } σ2 H2)
def pinsAt (fp : List Addr) (h : Heap) : List (Addr × Obj) := fp.filterMap fun b => (h.get? b).map fun o => (b, o)
theorem mem_pinsAt {fp : List Addr} {h : Heap} {b : Addr} {o : Obj} (hb : b ∈ fp) (e : h.get? b = some o) : (b, o) ∈ pinsAt fp h := List.mem_filterMap.mpr ⟨b, hb, by rw [e]; rfl⟩
theorem of_pinsAt {fp : List Addr} {h : Heap} {p : Addr × Obj} (hp : p ∈ pinsAt fp h) : p.1 ∈ fp /\ h.get? p.1 = some p.2 := by
 obtain ⟨b, hb, e⟩ := List.mem_filterMap.mp hp
 cases q : h.get? b with
 | none => rw [q] at e; cases e
 | some o =>
   rw [q] at e
   have e' : (b, o) = p := Option.some.inj e
   subst e'
   exact ⟨hb, q⟩
theorem Inv.pinned {pins : List (Addr × Obj)} {σ : St} {H : Hp} {s : Shared} {fp : List Addr} (I : Inv X pins σ H s) (hf : ∀ b ∈ fp, FpOk X pins H b) (ho : ∀ b ∈ fp, ∃ o, s.heap.get? b = some o /\ ∀ v, o.data ≠ .cell v) : Inv X (pins ++ pinsAt fp s.heap) σ H s :=
 I.pins_of fun p hp => (List.mem_append.mp hp).elim (fun z => I.pin p (List.mem_append_right _ z)) fun z => by
   obtain ⟨hb, e⟩ := of_pinsAt z
   obtain ⟨f0, f1, f2, _⟩ := hf p.1 hb
   obtain ⟨o, e', d⟩ := ho p.1 hb
   rw [e] at e'; cases e'
   exact ⟨e, f0, f1, f2, d⟩
theorem Inv.unpinned {pins pl : List (Addr × Obj)} {σ : St} {H : Hp} {s : Shared} (I : Inv X (pins ++ pl) σ H s) : Inv X pins σ H s := I.pins_of fun p hp => I.pin p (List.mem_append_right _ (List.mem_append_left _ hp))
theorem Xr {iter : Expr} {body : List Stmt} {wi : TI} {g : TG} {tb : TS} {pos : Pos} (hp : PassesOwn (model X.prog X.w) X.A X.env X.xe) (hc : X.calm = true) (hi : PI X tg iter wi) (hg : PG X tg g) (hb : PSs X body tb)
   (hs : ∀ x, foldedSetIterable iter X.env x = pure x := by intro _; rfl) : PS X (.For tg iter body [] pos) (tFor wi g tb) := by
 intro pins s σ H D I h
 refine wpAny_For (thn (hi pins s σ H _ I h) fun v s1 h1 => thn h1 fun itv s2 h2 => ?_) hs
 obtain ⟨it, fp, tn, J, H2, e, I2, T, st2, f2, W, ⟨m0, w0⟩, turn⟩ := h2
 subst e
 -- what stays true of the iterator's objects through the loop
 have stat : ∀ {H' : Hp}, (∀ b ∈ fp, H' b = none) -> ∀ b ∈ fp, FpOk X pins H' b := fun hn b hb => ⟨hn b hb, (f2 b hb).2⟩
 refine codeAny_forLoop_any (fun n s' => ∃ i σ' H', Inv X pins σ' H' s' /\ tn i s'.heap /\ (∀ b ∈ fp, H' b = none) /\ W i n σ' H') ?_ m0 ⟨0, σ, H2, I2, st2, fun b hb => (f2 b hb).1, w0⟩
 rintro n s3 ⟨i, σ3, H3, I3, st3, fr3, w3⟩
 rcases turn i n σ3 H3 w3 with ⟨stop, qn⟩ | ⟨go, N, hN, step⟩
 . refine wpAny_passesOwn hp (thn (T.done X rfl rfl rfl hc i pins s3 σ3 H3 X.xe I3 (stat fr3) st3 stop) fun r s4 ⟨hr, I4⟩ => ?_)
   subst hr
   exact wpAny_execs_nil ⟨σ3, H3, I4, qn⟩
 . refine wpAny_passesOwn hp (thn (T.item X rfl rfl rfl hc i pins s3 σ3 H3 X.xe I3 (stat fr3) st3 go) fun r s4 ⟨u, hr, h4⟩ => ?_)
   subst hr
   refine wpAny_passesOwn hp (thn h4 fun _ s5 ⟨x, H5, I5, r5, y5, st5, fr5⟩ => ?_)
   have I5' := I5.pinned (stat fr5) (T.obj _ _ st5)
   refine wpAny_passesOwn hp (thn (hg _ s5 σ3 H5 x u _ I5' r5 (step x H5 y5)) fun _ s6 ⟨σ6, H6, I6, q6⟩ => ?_)
   refine wpAny_passesOwn hp (thn (hb _ s6 σ6 H6 _ I6 q6) fun f s7 q7 => ?_)
   have again : ∀ {σ7 : St} {H7 : Hp}, Inv X (pins ++ pinsAt fp s5.heap) σ7 H7 s7 -> N σ7 H7 -> ∃ m, m < n /\ ∃ i σ' H', Inv X pins σ' H' s7 /\ tn i s7.heap /\ (∀ b ∈ fp, H' b = none) /\ W i m σ' H' := fun {σ7 H7} I7 n7 => by
     obtain ⟨m', hm, w7⟩ := hN σ7 H7 n7
     refine ⟨m', hm, i + 1, σ7, H7, I7.unpinned, T.keep _ _ _ st5 fun b hb o e => (I7.pin (b, o) (List.mem_append_right _ (List.mem_append_right _ (mem_pinsAt hb e)))).1, fun b hb => ?_, w7⟩
     obtain ⟨o, e, d⟩ := T.obj _ _ st5 b hb
     exact (I7.pin (b, o) (List.mem_append_right _ (List.mem_append_right _ (mem_pinsAt hb e)))).2.1
   cases f with
   | next => obtain ⟨σ7, H7, I7, n7⟩ := q7; exact again I7 n7
   | cont => obtain ⟨σ7, H7, I7, n7⟩ := q7; exact again I7 n7
   | brk => obtain ⟨σ7, H7, I7, q7⟩ := q7; exact ⟨σ7, H7, I7.unpinned, q7⟩
   | ret v => obtain ⟨x7, σ7, H7, I7, r7, q7⟩ := q7; exact ⟨x7, σ7, H7, I7.unpinned, r7, q7⟩
end
theorem for_list {K : PySem.W.Frag} {a : Addr} {xs : List V} {g : TG} {tb : TS} {D : Ends} {σ : St} {H : Hp} (Pv : Nat -> St -> Hp -> Prop) (h0 : Pv 0 σ H) (hl : ∀ i σ H, i <= xs.length -> Pv i σ H -> SqL K H a xs)
   (hs : ∀ i x σ H, xs[i]? = some x -> Pv i σ H -> g x σ H fun σ2 H2 => tb { D with nx := Pv (i + 1), ct := Pv (i + 1), bk := D.nx } σ2 H2) (hd : ∀ σ H, Pv xs.length σ H -> D.nx σ H) :
   ∃ W : Nat -> Nat -> St -> Hp -> Prop, (∃ m, W 0 m σ H) /\ ∀ i m σ H, W i m σ H ->
     ((Itl K a).stop i H /\ D.nx σ H) \/ ((Itl K a).go i H /\ ∃ N : St -> Hp -> Prop, (∀ σ' H', N σ' H' -> ∃ m', m' < m /\ W (i + 1) m' σ' H') /\ ∀ x H', (Itl K a).yld i H x H' -> g x σ H' fun σ2 H2 => tb { D with nx := N, ct := N, bk := D.nx } σ2 H2) := by
 refine ⟨fun i m σ H => m = xs.length - i /\ i <= xs.length /\ Pv i σ H, ⟨xs.length, by simp, Nat.zero_le _, h0⟩, ?_⟩
 rintro i m σ H ⟨rfl, hi, p⟩
 have q := hl i σ H hi p
 by_cases hlt : i < xs.length
 . refine .inr ⟨⟨xs, xs[i], q, by simp [hlt]⟩, Pv (i + 1), fun σ' H' p' => ⟨xs.length - (i + 1), by omega, rfl, hlt, p'⟩, fun x H' y => ?_⟩
   obtain ⟨e, y⟩ := y
   subst e
   exact hs i x σ _ (y xs q) p
 . have e : i = xs.length := by omega
   subst e
   exact .inl ⟨⟨xs, q, Nat.le_refl _⟩, hd σ H p⟩
theorem Ud {lo : Int} {n : Nat} {g : TG} {tb : TS} {D : Ends} {σ : St} {H : Hp} (Pv : Nat -> St -> Hp -> Prop) (h0 : Pv 0 σ H)
   (hs : ∀ i σ H, i < n -> Pv i σ H -> g (.int (lo + i)) σ H fun σ2 H2 => tb { D with nx := Pv (i + 1), ct := Pv (i + 1), bk := D.nx } σ2 H2) (hd : ∀ σ H, Pv n σ H -> D.nx σ H) :
   ∃ W : Nat -> Nat -> St -> Hp -> Prop, (∃ m, W 0 m σ H) /\ ∀ i m σ H, W i m σ H ->
     ((Itr lo n).stop i H /\ D.nx σ H) \/ ((Itr lo n).go i H /\ ∃ N : St -> Hp -> Prop, (∀ σ' H', N σ' H' -> ∃ m', m' < m /\ W (i + 1) m' σ' H') /\ ∀ x H', (Itr lo n).yld i H x H' -> g x σ H' fun σ2 H2 => tb { D with nx := N, ct := N, bk := D.nx } σ2 H2) := by
 refine ⟨fun i m σ H => m = n - i /\ i <= n /\ Pv i σ H, ⟨n, by simp, Nat.zero_le _, h0⟩, ?_⟩
 rintro i m σ H ⟨rfl, hi, p⟩
 by_cases hlt : i < n
 . refine .inr ⟨hlt, Pv (i + 1), fun σ' H' p' => ⟨n - (i + 1), by omega, rfl, hlt, p'⟩, fun x H' y => ?_⟩
   obtain ⟨e, y⟩ := y
   subst e y
   exact hs i σ _ hlt p
 . have e : i = n := by omega
   subst e
   exact .inl ⟨Nat.le_refl _, hd σ H p⟩
end L2
namespace L2
open PySem PySem.Spec PyProof.Rows
abbrev R2 := V -> V -> Hp -> VK -> Prop
def OpR (X : Cx) (f : Value -> Value -> Sem Value) (r : R2) : Prop :=
 ∀ (pins : List (Addr × Obj)) (s : Shared) (σ : St) (H : Hp) (x y : V) (v u : Value) (Q : VK), Inv X pins σ H s -> RelV x v -> RelV y u -> r x y H Q ->
   wpAny (model X.prog X.w) X.A (f v u) (EP X pins σ Q) X.xe s
def UnR (X : Cx) (f : Value -> Sem Value) (r : V -> Hp -> VK -> Prop) : Prop :=
 ∀ (pins : List (Addr × Obj)) (s : Shared) (σ : St) (H : Hp) (x : V) (v : Value) (Q : VK), Inv X pins σ H s -> RelV x v -> r x H Q ->
   wpAny (model X.prog X.w) X.A (f v) (EP X pins σ Q) X.xe s
def Xw (X : Cx) (f : Value) (r : List V -> Hp -> VK -> Prop) : Prop :=
 ∀ (pins : List (Addr × Obj)) (s : Shared) (σ : St) (H : Hp) (xs : List V) (us : List Value) (Q : VK), Inv X pins σ H s -> Vals xs us -> r xs H Q ->
   wpAny (model X.prog X.w) X.A (call f us) (EP X pins σ Q) X.xe s
def tOp (r : R2) (ta tb : TE) : TE := fun σ H Q => ta σ H fun x H1 => tb σ H1 fun y H2 => r x y H2 Q
def tUn (r : V -> Hp -> VK -> Prop) (ta : TE) : TE := fun σ H Q => ta σ H fun x H1 => r x H1 Q
def rI (C : Int -> Int -> Prop) (g : Int -> Int -> V) : R2 := fun x y H Q => ∃ i j, x = .int i /\ y = .int j /\ C i j /\ Q (g i j) H
def rI0 (g : Int -> Int -> V) : R2 := fun x y H Q => ∃ i j, x = .int i /\ y = .int j /\ Q (g i j) H
def rU (g : Int -> V) : V -> Hp -> VK -> Prop := fun x H Q => ∃ i, x = .int i /\ Q (g i) H
section
variable {X : Cx} {a b c : Expr} {ta tb tc : TE} {pos : Pos}
theorem binT (ha : PE X a ta) (hb : PE X b tb) {pins : List (Addr × Obj)} {s : Shared} {σ : St} {H : Hp} {R : V -> V -> Hp -> Prop} (I : Inv X pins σ H s)
   (h : ta σ H fun x H1 => tb σ H1 fun y H2 => R x y H2) {Q : Value -> Shared -> Prop} {f : Value -> Value -> Sem Value}
   (hf : ∀ v u s2 x y H2, Inv X pins σ H2 s2 -> RelV x v -> RelV y u -> R x y H2 -> wpAny (model X.prog X.w) X.A (f v u) Q X.xe s2) :
   wpAny (model X.prog X.w) X.A (eval a X.env) (fun v s₁ => wpAny (model X.prog X.w) X.A (eval b X.env) (fun u s₂ => wpAny (model X.prog X.w) X.A (f v u) Q X.xe s₂) X.xe s₁) X.xe s := by
 refine thn (ha pins s σ H _ I h) fun v s1 ⟨x, H1, I1, r1, q1⟩ => ?_
 refine thn (hb pins s1 σ H1 _ I1 q1) fun u s2 ⟨y, H2, I2, r2, q2⟩ => ?_
 exact hf v u s2 x y H2 I2 r1 r2 q2
theorem Xh {op : Operator} {r : R2} (ho : OpR X (binaryOp op) r) (ha : PE X a ta) (hb : PE X b tb) : PE X (.BinOp a op b pos) (tOp r ta tb) := by
 intro pins s σ H Q I h
 exact wpAny_BinOp (binT ha hb I h fun v u s2 x y H2 I2 rx ry q => ho pins s2 σ H2 x y v u Q I2 rx ry q)
theorem pe_un {op : UnaryOp} {r : V -> Hp -> VK -> Prop} (ho : UnR X (unaryOp op) r) (ha : PE X a ta) : PE X (.UnaryOp op a pos) (tUn r ta) := by
 intro pins s σ H Q I h
 exact UnaryOp_ (thn (ha pins s σ H _ I h) fun v s1 ⟨x, H1, I1, r1, q1⟩ => ho pins s1 σ H1 x v Q I1 r1 q1)
theorem opI {f : Value -> Value -> Sem Value} {C : Int -> Int -> Prop} {g : Int -> Int -> Int}
   (rule : ∀ (i j : Int) (t u : Tok) (s : Shared) (Q : Value -> Shared -> Prop) (E : Value -> Shared -> Prop), C i j -> Q (.int (g i j) s.toks) { s with toks := s.toks + 1 } -> wpAny (model X.prog X.w) X.A (f (.int i t) (.int j u)) Q E s) :
   OpR X f (rI C fun i j => .int (g i j)) := by
 intro pins s σ H x y v u Q I rx ry h
 obtain ⟨i, j, rfl, rfl, hc, q⟩ := h
 obtain ⟨t, rfl⟩ := rx
 obtain ⟨t', rfl⟩ := ry
 exact rule i j t t' s _ _ hc ⟨.int (g i j), H, I.tok _, ⟨_, rfl⟩, q⟩
theorem opI0 {f : Value -> Value -> Sem Value} {g : Int -> Int -> Int}
   (rule : ∀ (i j : Int) (t u : Tok) (s : Shared) (Q : Value -> Shared -> Prop) (E : Value -> Shared -> Prop), Q (.int (g i j) s.toks) { s with toks := s.toks + 1 } -> wpAny (model X.prog X.w) X.A (f (.int i t) (.int j u)) Q E s) :
   OpR X f (rI0 fun i j => .int (g i j)) := by
 intro pins s σ H x y v u Q I rx ry h
 obtain ⟨i, j, rfl, rfl, q⟩ := h
 obtain ⟨t, rfl⟩ := rx
 obtain ⟨t', rfl⟩ := ry
 exact rule i j t t' s _ _ ⟨.int (g i j), H, I.tok _, ⟨_, rfl⟩, q⟩
theorem opB0 {f : Value -> Value -> Sem Value} {g : Int -> Int -> Bool}
   (rule : ∀ (i j : Int) (t u : Tok) (s : Shared) (Q : Value -> Shared -> Prop) (E : Value -> Shared -> Prop), Q (.bool (g i j)) s -> wpAny (model X.prog X.w) X.A (f (.int i t) (.int j u)) Q E s) :
   OpR X f (rI0 fun i j => .bl (g i j)) := by
 intro pins s σ H x y v u Q I rx ry h
 obtain ⟨i, j, rfl, rfl, q⟩ := h
 obtain ⟨t, rfl⟩ := rx
 obtain ⟨t', rfl⟩ := ry
 exact rule i j t t' s _ _ ⟨.bl (g i j), H, I, rfl, q⟩
theorem two_pow_nn (k : Nat) : (0 : Int) <= 2 ^ k := by
 rw [two_pow_cast]
 exact Int.natCast_nonneg _
theorem op_add : OpR X (binaryOp .Add) (rI0 fun i j => .int (i + j)) := opI0 fun _ _ _ _ _ _ _ q => add_int q
theorem op_sub : OpR X (binaryOp .Sub) (rI0 fun i j => .int (i - j)) := opI0 fun _ _ _ _ _ _ _ q => sub_int q
theorem op_mod : OpR X (binaryOp .Mod) (rI (fun _ j => 0 < j) fun i j => .int (i % j)) := opI fun i j _ _ _ _ _ hc q => by
 have h1 : (0 : Int) < j := hc
 exact mod_int' (by omega) (by rw [Int.fmod_eq_emod_of_nonneg i (by omega)]; exact q)
theorem op_shr : OpR X (binaryOp .RShift) (rI (fun _ j => 0 <= j) fun i j => .int (i / 2 ^ j.toNat)) := opI fun i j _ _ _ _ _ hc q =>
 rshift_int hc (by rw [Int.fdiv_eq_ediv_of_nonneg i (two_pow_nn _)]; exact q)
theorem op_and : OpR X (binaryOp .BitAnd) (rI0 fun i j => .int (Builtin.bitAnd i j)) := opI0 fun _ _ _ _ _ _ _ q => and_int q
theorem unI {f : Value -> Sem Value} {g : Int -> Int}
   (rule : ∀ (i : Int) (t : Tok) (s : Shared) (Q : Value -> Shared -> Prop) (E : Value -> Shared -> Prop), Q (.int (g i) s.toks) { s with toks := s.toks + 1 } -> wpAny (model X.prog X.w) X.A (f (.int i t)) Q E s) :
   UnR X f (rU fun i => .int (g i)) := by
 intro pins s σ H x v Q I rx h
 obtain ⟨i, rfl, q⟩ := h
 obtain ⟨t, rfl⟩ := rx
 exact rule i t s _ _ ⟨.int (g i), H, I.tok _, ⟨_, rfl⟩, q⟩
theorem un_neg : UnR X (unaryOp .USub) (rU fun i => .int (-i)) := unI fun _ _ _ _ _ q => neg_int q
end
def scal : V -> V -> Bool
 | .non, .non => true | .non, .int _ => true | .int _, .non => true | .non, .bl _ => true | .bl _, .non => true | .non, .str _ => true | .str _, .non => true
 | .int _, .int _ => true | .bl _, .bl _ => true | .str _, .str _ => true | .byt _, .byt _ => true
 | .int _, .str _ => true | .str _, .int _ => true | .bl _, .str _ => true | .str _, .bl _ => true
 | _, _ => false
def rEq : R2 := fun x y H Q => scal x y = true /\ Q (.bl (decide (x = y))) H
def rNe : R2 := fun x y H Q => scal x y = true /\ Q (.bl (!decide (x = y))) H
theorem dec_int {i j : Int} : decide (V.int i = V.int j) = (i == j) := by
 rw [Bool.eq_iff_iff]
 simp
theorem dec_bl {i j : Bool} : decide (V.bl i = V.bl j) = (i == j) := by
 rw [Bool.eq_iff_iff]
 simp
theorem dec_str {i j : Str} : decide (V.str i = V.str j) = (i == j) := by
 rw [Bool.eq_iff_iff]
 simp
theorem dec_byt {i j : Array UInt8} : decide (V.byt i = V.byt j) = (i.toList == j.toList) := by
 rw [Bool.eq_iff_iff]
 cases i
 cases j
 simp
section
variable {X : Cx} {a b c : Expr} {ta tb tc : TE} {pos : Pos}
theorem Yo {pins : List (Addr × Obj)} {σ : St} {H : Hp} {s : Shared} {Q : VK} {k k' : Bool} (I : Inv X pins σ H s) (q : Q (.bl k) H) (e : k = k') : EP X pins σ Q (.bool k') s := by
 subst e
 exact ⟨.bl k, H, I, rfl, q⟩
theorem Yr : OpR X (compareOp .Eq) rEq := by
 intro pins s σ H x y v u Q I rx ry h
 obtain ⟨hs, q⟩ := h
 cases x with
 | non =>
   cases rx
   cases y with
   | non => cases ry; exact PySem.EqNone.eq_none_none (Yo I q (by simp))
   | bl j => cases ry; exact PySem.EqNone.eq_none_bool (Yo I q (by simp))
   | int j => obtain ⟨t', rfl⟩ := ry; exact PySem.EqNone.eq_none_int (Yo I q (by simp))
   | str j => obtain ⟨t', rfl⟩ := ry; exact PySem.EqNone.eq_none_str (Yo I q (by simp))
   | _ => exact absurd (show false = true from hs) Bool.false_ne_true
 | bl i =>
   cases rx
   cases y with
   | non => cases ry; exact PySem.EqNone.eq_bool_none (Yo I q (by simp))
   | bl j => cases ry; exact eq_bool (Yo I q dec_bl)
   | str j => obtain ⟨t', rfl⟩ := ry; exact PySem.EqMixed.eq_bool_str (Yo I q (by simp))
   | _ => exact absurd (show false = true from hs) Bool.false_ne_true
 | int i =>
   obtain ⟨t, rfl⟩ := rx
   cases y with
   | non => cases ry; exact PySem.EqNone.eq_int_none (Yo I q (by simp))
   | int j => obtain ⟨t', rfl⟩ := ry; exact eq_int (Yo I q dec_int)
   | str j => obtain ⟨t', rfl⟩ := ry; exact PySem.EqMixed.eq_int_str (Yo I q (by simp))
   | _ => exact absurd (show false = true from hs) Bool.false_ne_true
 | str i =>
   obtain ⟨t, rfl⟩ := rx
   cases y with
   | non => cases ry; exact PySem.EqNone.eq_str_none (Yo I q (by simp))
   | bl j => cases ry; exact PySem.EqMixed.eq_str_bool (Yo I q (by simp))
   | int j => obtain ⟨t', rfl⟩ := ry; exact PySem.EqMixed.eq_str_int (Yo I q (by simp))
   | str j => obtain ⟨t', rfl⟩ := ry; exact eq_str (Yo I q dec_str)
   | _ => exact absurd (show false = true from hs) Bool.false_ne_true
 | byt i =>
   obtain ⟨t, rfl⟩ := rx
   cases y with
   | byt j => obtain ⟨t', rfl⟩ := ry; exact PySem.W.eq_bytes (Yo I q dec_byt)
   | _ => exact absurd (show false = true from hs) Bool.false_ne_true
 | _ => cases y <;> exact absurd (show false = true from hs) Bool.false_ne_true
theorem op_ne : OpR X (compareOp .NotEq) rNe := by
 intro pins s σ H x y v u Q I rx ry h
 obtain ⟨hs, q⟩ := h
 cases x with
 | non =>
   cases rx
   cases y with
   | non => cases ry; exact PySem.EqNone.ne_none_none (Yo I q (by simp))
   | bl j => cases ry; exact PySem.EqNone.ne_none_bool (Yo I q (by simp))
   | int j => obtain ⟨t', rfl⟩ := ry; exact PySem.EqNone.ne_none_int (Yo I q (by simp))
   | str j => obtain ⟨t', rfl⟩ := ry; exact PySem.EqNone.ne_none_str (Yo I q (by simp))
   | _ => exact absurd (show false = true from hs) Bool.false_ne_true
 | bl i =>
   cases rx
   cases y with
   | non => cases ry; exact PySem.EqNone.ne_bool_none (Yo I q (by simp))
   | bl j => cases ry; exact ne_bool (Yo I q (congrArg not dec_bl))
   | str j => obtain ⟨t', rfl⟩ := ry; exact PySem.EqMixed.ne_bool_str (Yo I q (by simp))
   | _ => exact absurd (show false = true from hs) Bool.false_ne_true
 | int i =>
   obtain ⟨t, rfl⟩ := rx
   cases y with
   | non => cases ry; exact PySem.EqNone.ne_int_none (Yo I q (by simp))
   | int j => obtain ⟨t', rfl⟩ := ry; exact ne_int (Yo I q (congrArg not dec_int))
   | str j => obtain ⟨t', rfl⟩ := ry; exact PySem.EqMixed.ne_int_str (Yo I q (by simp))
   | _ => exact absurd (show false = true from hs) Bool.false_ne_true
 | str i =>
   obtain ⟨t, rfl⟩ := rx
   cases y with
   | non => cases ry; exact PySem.EqNone.ne_str_none (Yo I q (by simp))
   | bl j => cases ry; exact PySem.EqMixed.ne_str_bool (Yo I q (by simp))
   | int j => obtain ⟨t', rfl⟩ := ry; exact PySem.EqMixed.ne_str_int (Yo I q (by simp))
   | str j => obtain ⟨t', rfl⟩ := ry; exact ne_str (Yo I q (congrArg not dec_str))
   | _ => exact absurd (show false = true from hs) Bool.false_ne_true
 | byt i =>
   obtain ⟨t, rfl⟩ := rx
   cases y with
   | byt j => obtain ⟨t', rfl⟩ := ry; exact PySem.W.ne_bytes (Yo I q (congrArg not dec_byt))
   | _ => exact absurd (show false = true from hs) Bool.false_ne_true
 | _ => cases y <;> exact absurd (show false = true from hs) Bool.false_ne_true
theorem op_lt : OpR X (compareOp .Lt) (rI0 fun i j => .bl (decide (i < j))) := opB0 fun _ _ _ _ _ _ _ q => lt_int q
theorem op_le : OpR X (compareOp .LtE) (rI0 fun i j => .bl (decide (i <= j))) := opB0 fun _ _ _ _ _ _ _ q => le_int q
theorem op_gt : OpR X (compareOp .Gt) (rI0 fun i j => .bl (decide (j < i))) := opB0 fun _ _ _ _ _ _ _ q => gt_int q
theorem op_ge : OpR X (compareOp .GtE) (rI0 fun i j => .bl (decide (j <= i))) := opB0 fun _ _ _ _ _ _ _ q => ge_int q
theorem Zt (b : Expr) {op : CmpOp} (h : op ≠ .In := by decide) (h2 : op ≠ .NotIn := by decide) : behindInMarks op b = false := by
 have e1 : (op == CmpOp.In) = false := by cases op <;> first | rfl | exact absurd rfl h
 have e2 : (op == CmpOp.NotIn) = false := by cases op <;> first | rfl | exact absurd rfl h2
 cases b <;> simp [behindInMarks, e1, e2]
theorem Ua {op : CmpOp} {r : R2} (ho : OpR X (compareOp op) r) (ha : PE X a ta) (hb : PE X b tb) (hm : behindInMarks op b = false) : PE X (.Compare a [op] [b] pos) (tOp r ta tb) := by
 intro pins s σ H Q I h
 exact wpAny_Compare1 (binT ha hb I h fun v u s2 x y H2 I2 rx ry q => ho pins s2 σ H2 x y v u Q I2 rx ry q) hm
def tTest (t : TE) : TT := fun σ H Q => t σ H fun x H' => ∃ k, x = .bl k /\ Q k H'
theorem Zq {op : CmpOp} {r : R2} (ho : OpR X (compareOp op) r) (ha : PE X a ta) (hb : PE X b tb) (hm : behindInMarks op b = false) : PT X (.Compare a [op] [b] pos) (tTest (tOp r ta tb)) := by
 intro pins s σ H Q I h
 refine wpAny_isTrue_Compare1 (thn (ha pins s σ H _ I h) fun v s1 ⟨x, H1, I1, r1, q1⟩ => thn (hb pins s1 σ H1 _ I1 q1) fun u s2 ⟨y, H2, I2, r2, q2⟩ =>
   thn (ho pins s2 σ H2 x y v u _ I2 r1 r2 q2) fun c s3 ⟨z, H3, I3, r3, k, e, q3⟩ => ?_) hm
 subst e
 cases r3
 exact wpAny_truthy_bool ⟨H3, I3, q3⟩
theorem line63 : (sizeLine : Nat) < 2 ^ 63 := by rw [sizeLine_eq]; decide
theorem vals1 {x : V} {us : List Value} (r : Vals [x] us) : ∃ u, us = [u] /\ RelV x u := by
 cases r with
 | cons r1 r2 => cases r2; exact ⟨_, rfl, r1⟩
end
end L2
namespace L2
open PySem PySem.Spec PyProof.Rows
structure ObjM (h : Heap) (x dx C : Addr) (mA : Str -> Option Value) : Prop where
 obj : h.get? x = some (PySem.W.instObj C dx)
 ns : h.Ns1 dx mA
 ne : dx ≠ x
theorem lookIn_ns {h : Heap} {dx : Addr} {mA : Str -> Option Value} (n : h.Ns1 dx mA) : ∃ od, h.get? dx = some od /\ ∀ name, PySem.W.lookIn name od = some (mA name) := by
 obtain ⟨o, es, ep, ho, hd, hk, _, hm⟩ := n
 refine ⟨o, ho, fun name => ?_⟩
 have e := hm name
 unfold nsFind findBy at e
 rw [<- Array.find?_toList] at e
 unfold PySem.W.lookIn
 rw [hd]
 dsimp only
 split
 . rename_i y q
   rw [q] at e
   exact congrArg some e
 . rename_i q
   rw [q] at e
   have a : es.toList.any (·.refKey) = false := by
     rw [List.any_eq_false]
     intro y hy
     obtain ⟨z, t, hkey⟩ := hk y (Array.mem_toList_iff.mp hy)
     simp [DictEntry.refKey, hkey]
   have a' : ¬ es.toList.any (·.refKey) = true := by rw [a]; exact Bool.false_ne_true
   rw [if_neg a']
   exact congrArg some e
theorem ObjM.look {h : Heap} {x dx C : Addr} {mA : Str -> Option Value} (I : ObjM h x dx C mA) : ∃ od, PySem.W.InstAt h x (PySem.W.instObj C dx) C (some od) /\ ∀ name, PySem.W.lookIn name od = some (mA name) :=
 let ⟨od, ho, hl⟩ := lookIn_ns I.ns
 ⟨od, ⟨I.obj, rfl, rfl, ho⟩, hl⟩
section
variable {prog : Program} {w : World} {A : Around} {E : Value -> Shared -> Prop} {s : Shared} {K : PySem.W.Frag} {x dx C f : Addr} {mA : Str -> Option Value} {name : Str} {v : Value}
theorem Zh {expr : Bool} {Q : Value -> Shared -> Prop} (X : K.In s.heap) (I : ObjM s.heap x dx C mA) (hg : PySem.W.plainGet K C name = true) (hh : PySem.W.hasDictIn K C = true)
   (ha : PySem.W.findIn K (.ref C) name = some none) (hv : mA name = some v) (hv' : PySem.W.handedIn v = true) (h : Q v { s with toks := s.toks + 1 }) :
   wpAny (model prog w) A (getAttr (.ref x) name expr) Q E s := by
 obtain ⟨od, J, hl⟩ := I.look
 exact PySem.W.get_value X J (PySem.W.plainGet_of hg).1 (PySem.W.findObj_own hh ha rfl (by rw [hl, hv])) hv' h
theorem get_meth {pl : Sem Bool} {Q : Value × List Value -> Shared -> Prop} (X : K.In s.heap) (I : ObjM s.heap x dx C mA) (hg : PySem.W.plainGet K C name = true)
   (hf : PySem.W.findIn K (.ref C) name = some (some (.ref f))) (ht : PySem.W.isFn K (.ref f) = true) (hv : mA name = none) (h : Q (.ref f, [.ref x]) s) :
   wpAny (model prog w) A (getMethod (.ref x) name pl) Q E s := by
 obtain ⟨od, J, hl⟩ := I.look
 exact PySem.W.method_fn X J (PySem.W.plainGet_of hg).1 (PySem.W.plainGet_of hg).2 hf (beq_iff_eq.mp ht) (by show (PySem.W.lookIn name od).map (·.isSome) = some false; rw [hl, hv]; rfl) h
theorem set_map {ns : List Str} {Q : Unit -> Shared -> Prop} (X : K.In s.heap) (I : ObjM s.heap x dx C mA)
   (hs : PySem.W.findIn K (.ref C) "__setattr__" = some (some (.builtin "object.__setattr__"))) (hp : PySem.W.plainOver K C = true) (ht : PySem.W.takerIn K C name = some none) (hh : PySem.W.hasDictIn K C = true)
   (hw : PySem.Within mA ns) (hsz : ns.length <= sizeLine)
   (h : ∀ h', ObjM h' x dx C (fun y => if y = name then some v else mA y) -> Heap.SameBut dx s.heap h' -> Q () { s with heap := h', toks := s.toks + 2 }) :
   wpAny (model prog w) A (setAttr (.ref x) name v) Q E s := by
 obtain ⟨od, J, hl⟩ := I.look
 refine PySem.W.set_plain X J hs (PySem.W.osa_open (s := { s with toks := s.toks + 1 }) (r := none) X J hp ht fun b => ?_)
 obtain ⟨cd, hc, hd'⟩ := PySem.W.any_some hh
 have hx : s.heap.get? x = some ⟨.ref C, some dx, .plain, #[]⟩ := I.obj
 refine wpAny_bind (wpAny_pure (wpAny_bind (wpAny_bind (wpAny_loadPart hx (wpAny_bind (PySem.W.Looks.here (s := { s with toks := s.toks + 1 }) (PySem.W.looks_clsIn X hc) ?_))))))
 rw [hd']
 refine wpAny_pure (a := some dx) (wpAny_bind (wpAny_pure (wpAny_bind ?_)))
 refine wpAny_nsSet1 (s := { s with toks := s.toks + 1 }) I.ns fun h' hn2 hs2 => ?_
 obtain ⟨oD, esD, epD, hoD, hdD, hcD⟩ := hn2.count (PySem.Within.cons name v hw)
 refine wpAny_bind (wpAny_lookBehind hoD (by rw [hdD]; exact pastItsLine_dict (Nat.le_trans hcD (by rw [List.length_cons]; omega))) ?_)
 exact wpAny_pure (h _ ⟨(hs2.2 _ (Ne.symm I.ne)).trans I.obj, hn2, I.ne⟩ hs2)
theorem make_map {R : Result -> Shared -> Prop} {vs : List Value} {kw : List (Str × Value)} (X : K.In s.heap) (hm : PySem.W.makesIn K C = true)
   (hi : PySem.W.findIn K (.ref C) "__init__" = some (some (.ref f))) (hf : PySem.W.typeIn K (.ref f) = some (.type "function"))
   (h : codeAny (model prog w) (A.under (.builtin "type.__call__" ⟨.ref C :: vs, kw⟩)) (.call (.ref f) ⟨.ref (s.heap.objs.size + 1) :: vs, kw⟩) (PySem.W.InitBack (s.heap.objs.size + 1) R)
     { s with heap := (s.heap.push PySem.W.emptyDict).push (PySem.W.instObj C s.heap.objs.size) }) :
   codeAny (model prog w) A (.call (.ref C) ⟨vs, kw⟩) R s := by
 obtain ⟨hh, g, d, t, os⟩ := s
 exact PySem.W.make_core (PySem.W.makes_of X hm) (PySem.W.looks_findIn X hi) (fun self => PySem.W.bind_fn X self hf) (.inl rfl) h
end
def putF (f : Str) (v : V) : List (Str × V) -> List (Str × V)
 | [] => [(f, v)]
 | (g, x) :: r => if g = f then (g, v) :: r else (g, x) :: putF f v r
theorem Ym (f g : Str) (v : V) : ∀ fs : List (Str × V), (putF f v fs).lookup g = if g = f then some v else fs.lookup g
 | [] => by
   show List.lookup g [(f, v)] = _
   by_cases h : g = f
   . have hb : (g == f) = true := beq_iff_eq.mpr h
     simp only [List.lookup, hb, if_pos h]
   . have hb : (g == f) = false := beq_eq_false_iff_ne.mpr h
     simp only [List.lookup, hb, if_neg h]
 | (k, x) :: r => by
   have ih := Ym f g v r
   rw [show putF f v ((k, x) :: r) = (if k = f then (k, v) :: r else (k, x) :: putF f v r) from rfl]
   by_cases hk : k = f
   . rw [if_pos hk]
     by_cases h : g = k
     . have hb : (g == k) = true := beq_iff_eq.mpr h
       simp only [List.lookup, hb, if_pos (h.trans hk)]
     . have hb : (g == k) = false := beq_eq_false_iff_ne.mpr h
       simp only [List.lookup, hb, if_neg (fun e : g = f => h (e.trans hk.symm))]
   . rw [if_neg hk]
     by_cases h : g = k
     . have hb : (g == k) = true := beq_iff_eq.mpr h
       simp only [List.lookup, hb, if_neg (fun e : g = f => hk (h.symm.trans e))]
     . have hb : (g == k) = false := beq_eq_false_iff_ne.mpr h
       simp only [List.lookup, hb]
       exact ih
theorem keys_putF (f : Str) (v : V) : ∀ fs : List (Str × V), f ∈ (putF f v fs).map (·.1) /\ ∀ g, g ∈ fs.map (·.1) -> g ∈ (putF f v fs).map (·.1)
 | [] => ⟨by simp [putF], fun g h => by simp at h⟩
 | (k, x) :: r => by
   obtain ⟨i1, i2⟩ := keys_putF f v r
   rw [show putF f v ((k, x) :: r) = (if k = f then (k, v) :: r else (k, x) :: putF f v r) from rfl]
   by_cases hk : k = f
   . rw [if_pos hk]
     subst hk
     exact ⟨by simp, fun g h => by simpa using h⟩
   . rw [if_neg hk]
     refine ⟨?_, fun g h => ?_⟩
     . rw [List.map_cons]
       exact List.mem_cons_of_mem _ i1
     . rw [List.map_cons] at h ⊢
       rcases List.mem_cons.mp h with e | e
       . exact List.mem_cons.mpr (.inl e)
       . exact List.mem_cons_of_mem _ (i2 g e)
theorem length_putF (f : Str) (v : V) : ∀ fs : List (Str × V), (putF f v fs).length <= fs.length + 1
 | [] => by simp [putF]
 | (k, x) :: r => by
   have ih := length_putF f v r
   rw [show putF f v ((k, x) :: r) = (if k = f then (k, v) :: r else (k, x) :: putF f v r) from rfl]
   by_cases hk : k = f
   . rw [if_pos hk, List.length_cons, List.length_cons]; omega
   . rw [if_neg hk, List.length_cons, List.length_cons]; omega
theorem RelO.some_of {v : V} {o : Option Value} (r : RelO (some v) o) : ∃ u, o = some u /\ RelV v u := by
 cases o with
 | none => exact (show False from r).elim
 | some u => exact ⟨u, rfl, r⟩
theorem RelO.none_of {o : Option Value} (r : RelO none o) : o = none := by
 cases o with
 | none => rfl
 | some u => exact (show False from r).elim
theorem handed_of {v : V} {u : Value} (r : RelV v u) : PySem.W.handedIn u = true := by
 cases v with
 | non => cases (show u = Value.none from r); rfl
 | bl b => cases (show u = Value.bool b from r); rfl
 | int i => obtain ⟨t, e⟩ := (show ∃ t, u = Value.int i t from r); cases e; rfl
 | str x => obtain ⟨t, e⟩ := (show ∃ t, u = Value.str x t from r); cases e; rfl
 | byt b => obtain ⟨t, e⟩ := (show ∃ t, u = Value.bytes b t from r); cases e; rfl
 | flt b => obtain ⟨t, e⟩ := (show ∃ t, u = Value.float b t from r); cases e; rfl
 | ref a => cases (show u = Value.ref a from r); rfl
 | ty n => cases (show u = Value.type n from r); rfl
section
variable {P : Program} {w : World} {H H' : Hp} {h h' : Heap} {a C dx : Addr} {fs fs' : List (Str × V)}
theorem ins_get (hok : HOk P w H h) (e : H a = some (.ins C dx fs)) : ∃ mA, ObjM h a dx C mA /\ (∀ f, RelO (fs.lookup f) (mA f)) /\ PySem.Within mA (fs.map (·.1)) /\ fs.length <= 1000 /\ H dx = some (.own a) := by
 obtain ⟨d, z, ne, ob, mA, n, r, q⟩ := (show ObjOk P w H h a (.ins C dx fs) from hok a _ e)
 exact ⟨mA, ⟨ob, n, ne⟩, r, q, z, d⟩
end
structure Cls (K : PySem.W.Frag) (C : Addr) : Prop where
 pg : PySem.W.plainGet K C Str.empty = true
 hd : PySem.W.hasDictIn K C = true
 po : PySem.W.plainOver K C = true
 sa : PySem.W.findIn K (.ref C) "__setattr__" = some (some (.builtin "object.__setattr__"))
theorem Cls.get {K : PySem.W.Frag} {C : Addr} (c : Cls K C) (f : Str) : PySem.W.plainGet K C f = true := c.pg
def NoAttr (K : PySem.W.Frag) (C : Addr) (f : Str) : Prop := PySem.W.findIn K (.ref C) f = some none
theorem NoAttr.taker {K : PySem.W.Frag} {C : Addr} {f : Str} (n : NoAttr K C f) : PySem.W.takerIn K C f = some none := by
 unfold PySem.W.takerIn
 rw [show PySem.W.findIn K (.ref C) f = some none from n]
 rfl
structure Meth (K : PySem.W.Frag) (C : Addr) (m : Str) (f : Addr) : Prop where
 at_ : PySem.W.findIn K (.ref C) m = some (some (.ref f))
 fn : PySem.W.isFn K (.ref f) = true
 kp : PySem.W.keepIn K (.ref f) = true
section
variable {X : Cx} {pins : List (Addr × Obj)} {σ : St} {H : Hp} {s : Shared} {a C dx : Addr} {fs : List (Str × V)} {f : Str} {v : V} {A : Around} {E : Value -> Shared -> Prop}
theorem getattr_ok {b : Bool} {Q : Value -> Shared -> Prop} (I : Inv X pins σ H s) (e : H a = some (.ins C dx fs)) (c : Cls X.K C) (n : NoAttr X.K C f) (l : fs.lookup f = some v)
   (h : ∀ u s', Inv X pins σ H s' -> RelV v u -> Q u s') : wpAny (model X.prog X.w) A (getAttr (.ref a) f b) Q E s := by
 obtain ⟨mA, O, r, _, _, _⟩ := ins_get I.hok e
 obtain ⟨u, hu, ru⟩ := RelO.some_of (v := v) (o := mA f) (by rw [<- l]; exact r f)
 exact Zh I.kIn O (c.get f) c.hd n hu (handed_of ru) (h u _ (I.tok _) ru)
theorem getmeth_ok {m : Str} {g : Addr} {pl : Sem Bool} {Q : Value × List Value -> Shared -> Prop} (I : Inv X pins σ H s) (e : H a = some (.ins C dx fs)) (c : Cls X.K C) (k : Meth X.K C m g) (l : fs.lookup m = none)
   (h : Q (.ref g, [.ref a]) s) : wpAny (model X.prog X.w) A (getMethod (.ref a) m pl) Q E s := by
 obtain ⟨mA, O, r, _, _, _⟩ := ins_get I.hok e
 have hn : mA m = none := RelO.none_of (by rw [<- l]; exact r m)
 exact get_meth I.kIn O (c.get m) k.at_ k.fn hn h
theorem setattr_ok {y : V} {u : Value} {Q : Unit -> Shared -> Prop} (I : Inv X pins σ H s) (e : H a = some (.ins C dx fs)) (c : Cls X.K C) (n : NoAttr X.K C f) (hl : fs.length < 1000) (ry : RelV y u)
   (h : ∀ s', Inv X pins σ (upd H a (.ins C dx (putF f y fs))) s' -> Q () s') : wpAny (model X.prog X.w) A (setAttr (.ref a) f u) Q E s := by
 obtain ⟨mA, O, r, wi, _, ho⟩ := ins_get I.hok e
 have hz : (fs.map (·.1)).length <= sizeLine := by rw [List.length_map, sizeLine_eq]; omega
 refine set_map I.kIn O c.sa c.po n.taker c.hd wi hz fun h' O' sb => h _ ?_
 have hd : ∃ o, h'.get? dx = some o := let ⟨o, _, _, e', _⟩ := O'.ns; ⟨o, e'⟩
 refine I.write (x := a) (e := dx) (by rw [e]; exact True.intro) (.inr ho) (fun b q hb z => (sb.2 b hb).trans z) hd ?_
 refine ⟨by rw [Zl O.ne]; exact ho, ?_, O.ne, O'.obj, _, O'.ns, fun g => ?_, fun g hg => ?_⟩
 . have := length_putF f y fs; omega
 . show RelO ((putF f y fs).lookup g) (if g = f then some u else mA g)
   rw [Ym]
   by_cases q : g = f
   . rw [if_pos q, if_pos q]; exact ry
   . rw [if_neg q, if_neg q]; exact r g
 . by_cases q : g = f
   . rw [q]; exact (keys_putF f y fs).1
   . refine (keys_putF f y fs).2 g (wi g fun z => hg ?_)
     show (if g = f then some u else mA g) = none
     rw [if_neg q]; exact z
theorem Inv.made (I : Inv X pins σ H s) : Inv X pins σ (upd (upd H s.heap.objs.size (.own (s.heap.objs.size + 1))) (s.heap.objs.size + 1) (.ins C s.heap.objs.size []))
   { s with heap := (s.heap.push PySem.W.emptyDict).push (PySem.W.instObj C s.heap.objs.size) } := by
 have e1 : (s.heap.push PySem.W.emptyDict).get? s.heap.objs.size = some PySem.W.emptyDict := Heap.get?_push_size s.heap rfl
 have e2 : ((s.heap.push PySem.W.emptyDict).push (PySem.W.instObj C s.heap.objs.size)).get? (s.heap.objs.size + 1) = some (PySem.W.instObj C s.heap.objs.size) := by
   have := Heap.get?_push_size (s.heap.push PySem.W.emptyDict) (o := PySem.W.instObj C s.heap.objs.size) rfl
   rwa [Heap.size_push] at this
 have e3 : (s.heap.push PySem.W.emptyDict).Ns s.heap.objs.size (fun _ => none) := ⟨PySem.W.emptyDict, #[], _, e1, rfl, (fun e he => absurd he (by simp)), fun _ => rfl⟩
 have I1 := I.laid (a := s.heap.objs.size) (o := .own (s.heap.objs.size + 1)) (h' := s.heap.push PySem.W.emptyDict) (t' := s.toks) (fun b u q => Heap.get?_push_of_some _ q) (Nat.le_refl _) ⟨_, e1⟩
 refine I1.laid (a := s.heap.objs.size + 1) (o := .ins C s.heap.objs.size []) (t' := s.toks) (fun b u q => Heap.get?_push_of_some _ q) (Nat.le_of_eq (Heap.size_push _ _)) ?_
 have ne : s.heap.objs.size ≠ s.heap.objs.size + 1 := Nat.ne_of_lt (Nat.lt_succ_self _)
 refine ⟨by rw [Zl ne, Zb], Nat.zero_le _, ne, e2, fun _ => none, (Heap.Ns1.of_empty e3).at fun o q => Heap.get?_push_of_some _ q, fun _ => True.intro, fun y hy => absurd rfl hy⟩
theorem attr_of {prog : Program} {w : World} {env : Env} {e : Expr} {f : Str} {pos : Pos} {s : Shared} {Q : Value -> Shared -> Prop} (hb : attributeBase e f env (eval e env) = eval e env)
   (h : wpAny (model prog w) A (eval e env) (fun o s₁ => wpAny (model prog w) A (getAttr o f true) Q E s₁) E s) : wpAny (model prog w) A (eval (.Attribute e f pos) env) Q E s :=
 Attribute_any_ h (by rw [arm_eval_Attribute, hb])
end
def tFld (K : PySem.W.Frag) (ta : TE) (f : Str) : TE := fun σ H Q => ta σ H fun x H1 => ∃ a C dx fs v, x = .ref a /\ H1 a = some (.ins C dx fs) /\ Cls K C /\ NoAttr K C f /\ fs.lookup f = some v /\ Q v H1
def sFld (K : PySem.W.Frag) (ta tv : TE) (f : Str) : TS := fun D σ H => tv σ H fun y H1 => ta σ H1 fun x H2 => ∃ a C dx fs, x = .ref a /\ H2 a = some (.ins C dx fs) /\ Cls K C /\ NoAttr K C f /\ fs.length < 1000 /\
 D.nx σ (upd H2 a (.ins C dx (putF f y fs)))
def InOp (X : Cx) (op : Operator) (rd : V -> V -> Hp -> VK -> Prop) : Prop :=
 ∀ (pins : List (Addr × Obj)) (s : Shared) (σ : St) (H : Hp) (x y : V) (u v : Value) (Q : VK), Inv X pins σ H s -> RelV x u -> RelV y v -> rd x y H Q -> wpAny (model X.prog X.w) X.A (inplaceOp op u v) (EP X pins σ Q) X.xe s
def sFldAug (K : PySem.W.Frag) (ta tv : TE) (rd : V -> V -> Hp -> VK -> Prop) (f : Str) : TS := fun D σ H => ta σ H fun x H1 => ∃ a C dx fs v, x = .ref a /\ H1 a = some (.ins C dx fs) /\ Cls K C /\ NoAttr K C f /\ fs.lookup f = some v /\
 tv σ H1 fun y H2 => rd v y H2 fun z H3 => ∃ dx' fs', H3 a = some (.ins C dx' fs') /\ fs'.length < 1000 /\ D.nx σ (upd H3 a (.ins C dx' (putF f z fs')))
section
variable {X : Cx} {o e value : Expr} {f : Str} {pos pos' tpos : Pos} {ta tv : TE}
theorem pe_fld (he : PE X e ta) (hb : attributeBase e f X.env (eval e X.env) = eval e X.env) : PE X (.Attribute e f pos) (tFld X.K ta f) := by
 intro pins s σ H Q I h
 refine attr_of hb (thn (he pins s σ H _ I h) fun u s1 ⟨x, H1, I1, rx, a, C, dx, fs, v, ex, ea, c, n, l, q⟩ => ?_)
 subst ex
 obtain rfl : u = Value.ref a := rx
 exact getattr_ok I1 ea c n l fun u' s2 I2 ru => ⟨v, H1, I2, ru, q⟩
theorem ps_fld (ha : PE X o ta) (hv : PE X value tv) (hs : swapsWith value (some (.Attribute o f pos')) pos.line X.env = pure false) : PS X (.Assign [.Attribute o f pos'] value pos) (sFld X.K ta tv f) := by
 intro pins s σ H D I h
 refine plainObj_wpAny_Assign_Attribute (thn (hv pins s σ H _ I h) fun u s1 ⟨y, H1, I1, ry, q⟩ => thn (ha pins s1 σ H1 _ I1 q) fun ov s2 ⟨x, H2, I2, rx, a, C, dx, fs, ex, ea, c, n, l, q2⟩ => ?_) hs
 subst ex
 obtain rfl : ov = Value.ref a := rx
 exact setattr_ok I2 ea c n l ry fun s3 I3 => ⟨σ, _, I3, q2⟩
theorem ps_fldaug {op : Operator} {rd : V -> V -> Hp -> VK -> Prop} (ha : PE X o ta) (hv : PE X value tv) (hop : InOp X op rd) : PS X (.AugAssign (.Attribute o f tpos) op value pos) (sFldAug X.K ta tv rd f) := by
 intro pins s σ H D I h
 refine wpAny_AugAssign_AttributeAny (thn (ha pins s σ H _ I h) fun ov s1 ⟨x, H1, I1, rx, a, C, dx, fs, v, ex, ea, c, n, l, q⟩ => ?_)
 subst ex
 obtain rfl : ov = Value.ref a := rx
 refine getattr_ok I1 ea c n l fun u s2 I2 ru => thn (hv pins s2 σ H1 _ I2 q) fun w3 s3 ⟨y, H2, I3, ry, q3⟩ => thn (hop pins s3 σ H2 v y u w3 _ I3 ru ry q3) fun w4 s4 ⟨z, H3, I4, rz, dx', fs', ea', l', q4⟩ => ?_
 exact setattr_ok I4 ea' c n l' rz fun s5 I5 => ⟨σ, _, I5, q4⟩
theorem methcall_of {pl : Sem Bool} {m : Str} {apos : Pos} {args : List Expr} {pins : List (Addr × Obj)} {s : Shared} {σ : St} {H : Hp} {Q : Value -> Shared -> Prop} {te : TE} (he : PE X e te) (I : Inv X pins σ H s)
   (h : te σ H fun x H1 => ∃ a C dx fs g, x = .ref a /\ H1 a = some (.ins C dx fs) /\ Cls X.K C /\ Meth X.K C m g /\ fs.lookup m = none /\
     ∀ s1, Inv X pins σ H1 s1 -> wpAny (model X.prog X.w) X.A (callWith pos (.ref g) [.ref a] (backTo pos (starEach args X.env)) (backToKw pos (keywordEach [] X.env))) Q X.xe s1)
   (ht : eval (.Call (.Attribute e m apos) args [] pos) X.env = (do
     let ov <- eval e X.env
     standAt apos.atName
     let (f, first) <- holding [ov] (getMethod ov m pl)
     callWith pos f first (backTo pos (starEach args X.env)) (backToKw pos (keywordEach [] X.env)))) :
   wpAny (model X.prog X.w) X.A (eval (.Call (.Attribute e m apos) args [] pos) X.env) Q X.xe s := by
 refine PySem.W.methodCall_KW (pl := pl) (thn (he pins s σ H _ I h) fun u s1 ⟨x, H1, I1, rx, a, C, dx, fs, g, ex, ea, c, k, l, q⟩ => ?_) ht
 subst ex
 obtain rfl : u = Value.ref a := rx
 exact getmeth_ok I1 ea c k l (q s1 I1)
end
section
variable {X : Cx} {pins : List (Addr × Obj)} {σ : St} {H : Hp} {s : Shared} {A : Around} {E : Value -> Shared -> Prop} {Q : Value -> Shared -> Prop} {c : Value} {b : Bool}
end
end L2
namespace L2
open PySem PySem.Spec PyProof.Rows
structure Room (k : Nat) (A : Around) : Prop where
 hd : A.handled = none
 dp : A.depth + 3 * k + 5 < recursionLimit
 un : A.units + 16 * k + 200 < cLine
theorem Room.mono {j k : Nat} {A : Around} (r : Room k A) (h : j <= k) : Room j A := ⟨r.hd, by have := r.dp; omega, by have := r.un; omega⟩
theorem Room.deeper {k : Nat} {A : Around} (r : Room (k + 1) A) (env : Env) : Room k (A.deeper env) :=
 ⟨r.hd, by have := r.dp; show A.depth + 1 + 3 * k + 5 < _; omega, by have := r.un; show A.units + 3 + 16 * k + 200 < _; omega⟩
theorem make_depth {A : Around} {C : Addr} {us : List Value} {kw : List (Str × Value)} : (A.under (.builtin "type.__call__" ⟨.ref C :: us, kw⟩)).depth = A.depth + 1 := by
 first | rfl | simp [Around.under, Code.weight, Code.isCreation, Code.isGuard, Code.isCaller, Code.frames, Code.isFrame, guardIds]
theorem make_units {A : Around} {C : Addr} {us : List Value} {kw : List (Str × Value)} : (A.under (.builtin "type.__call__" ⟨.ref C :: us, kw⟩)).units = A.units + 1 := by
 first | rfl | simp [Around.under, Code.cUnits, Code.frames, Code.isFrame]
theorem Room.make {k : Nat} {A : Around} (r : Room (k + 1) A) (C : Addr) (us : List Value) (kw : List (Str × Value)) : Room k (A.under (.builtin "type.__call__" ⟨.ref C :: us, kw⟩)) :=
 ⟨r.hd, by have := r.dp; rw [make_depth]; omega, by have := r.un; rw [make_units]; omega⟩
theorem Room.depth {k : Nat} {A : Around} (r : Room k A) : A.depth < recursionLimit := by have := r.dp; omega
theorem Room.units {k : Nat} {A : Around} (r : Room k A) : A.units + 64 < cLine := by have := r.un; omega
def tNil : TA := fun _ H Q => Q [] H
def tCons (ta : TE) (tr : TA) : TA := fun σ H Q => ta σ H fun x H1 => tr σ H1 fun xs H2 => Q (x :: xs) H2
section
variable {X : Cx} {e : Expr} {es : List Expr} {te : TE} {t : TA} {pos : Pos}
theorem Vc : PA X [] tNil := fun _ _ _ _ H Q I h => Calls.spliced_nil ⟨[], H, I, .nil, h⟩
theorem Vm (ha : PE X e te) (hr : PA X es t) (hs : starEach (e :: es) X.env = (false, eval e X.env) :: starEach es X.env := by rfl) : PA X (e :: es) (tCons te t) := by
 intro pos pins s σ H Q I h
 rw [hs]
 show wpAny _ _ (spliced ((false, eval e X.env) :: backTo pos (starEach es X.env))) _ _ s
 refine Calls.spliced_cons (thn (ha pins s σ H _ I h) fun u s1 ⟨x, H1, I1, r1, q1⟩ => ?_)
 exact thn (hr pos pins s1 σ H1 _ I1 q1) fun us s2 ⟨xs, H2, I2, r2, q2⟩ => ⟨x :: xs, H2, I2, .cons r1 r2, q2⟩
def tTup (t : TA) : TE := fun σ H Q => t σ H fun xs H1 => xs.length <= sizeLine /\ ∀ p, H1 p = none -> Q (.ref p) (upd H1 p (.tup xs))
def tLst (t : TA) : TE := fun σ H Q => t σ H fun xs H1 => xs.length <= sizeLine /\ ∀ p, H1 p = none -> Q (.ref p) (upd H1 p (.lst xs))
theorem pe_tup {x1} (h : PA X es t) : PE X (.Tuple es x1 pos) (tTup t) := by
 intro pins s σ H Q I hq
 refine wpAny_Tuple_spliced (thn (h pos pins s σ H _ I hq) fun us s1 ⟨xs, H1, I1, r, z, q⟩ => ⟨by rw [<- r.length]; exact z, ?_⟩)
 have hf : H1 s1.heap.objs.size = none := I1.hok.fresh (Nat.le_refl _)
 refine ⟨.ref s1.heap.objs.size, upd H1 s1.heap.objs.size (.tup xs), I1.laid (t' := s1.toks) (fun b u e => Heap.get?_push_of_some _ e) (Nat.le_refl _) ?_, rfl, q _ hf⟩
 exact ⟨z, us, r, ⟨_, Heap.get?_push_size _ rfl, rfl, _, rfl⟩⟩
theorem Zx (h : PA X es t) : PE X (.List es pos) (tLst t) := by
 intro pins s σ H Q I hq
 refine wpAny_List_spliced (thn (h pos pins s σ H _ I hq) fun us s1 ⟨xs, H1, I1, r, z, q⟩ => ⟨by rw [<- r.length]; exact z, ?_⟩)
 have hf : H1 s1.heap.objs.size = none := I1.hok.fresh (Nat.le_refl _)
 refine ⟨.ref s1.heap.objs.size, upd H1 s1.heap.objs.size (.lst xs), I1.laid (t' := s1.toks) (fun b u e => Heap.get?_push_of_some _ e) (Nat.le_refl _) ?_, rfl, q _ hf⟩
 exact ⟨z, us, 0, r, Heap.get?_push_size _ rfl⟩
end
abbrev Sp := List V -> Hp -> VK -> XK -> Prop
abbrev CXT := List Env -> Hp -> Shared -> XK -> Value -> Shared -> Prop
structure Env0 (P : Program) (w : World) (K : PySem.W.Frag) (mg : Str -> Option Value) (base : Heap) (A : Around) (outer : List Env) (s : Shared) (H : Hp) : Prop where
 frames : A.frames = some outer
 mod : Mod K mg base
 bs : ∀ b o, base.get? b = some o -> s.heap.get? b = some o /\ H b = none
 bsz : base.objs.size <= s.heap.objs.size
 funs : s.heap.FunFrames base outer
 frf : ∀ b ∈ frs outer, H b = none
 hok : HOk P w H s.heap
 bare : AllBare s.gens
def CE (outer : List Env) (P : Program) (w : World) (H : Hp) (s : Shared) (Q : VK) (u : Value) (s' : Shared) : Prop :=
 ∃ v H', s'.os = s.os /\ AllBare s'.gens /\ Un (frs outer) [] H H' s.heap s'.heap /\ HOk P w H' s'.heap /\ RelV v u /\ Q v H'
def CR (CX : CXT) (outer : List Env) (P : Program) (w : World) (H : Hp) (s : Shared) (Q : VK) (E : XK) (r : Result) (s' : Shared) : Prop :=
 match r with
 | .ok (.ret u) => CE outer P w H s Q u s'
 | .ok _ => False
 | .error e => CX outer H s E e s'
structure FnOk (P : Program) (w : World) (K : PySem.W.Frag) (mg : Str -> Option Value) (base : Heap) (CX : CXT) (k : Nat) (f : Addr) (fd : FuncData) (ps : List Str) (sp : Sp) : Prop where
 len : ∀ vs H Q E, sp vs H Q E -> vs.length = ps.length
 run : ∀ (A : Around) (outer : List Env) (s : Shared) (H : Hp) (args : Args) (us : List Value) (vs : List V) (Q : VK) (E : XK), Room k A -> Env0 P w K mg base A outer s H -> BindsTo s fd args (ps.zip us) -> Vals vs us -> sp vs H Q E ->
   codeAny (model P w) A (.call (.ref f) args) (CR CX outer P w H s Q E) s
theorem Env0.make {P : Program} {w : World} {K : PySem.W.Frag} {mg : Str -> Option Value} {base : Heap} {A : Around} {outer : List Env} {s : Shared} {H : Hp} (e : Env0 P w K mg base A outer s H) (C : Addr) (us : List Value) (kw : List (Str × Value)) :
   Env0 P w K mg base (A.under (.builtin "type.__call__" ⟨.ref C :: us, kw⟩)) outer s H := ⟨by first | exact e.frames | (simpa [Around.under, Code.envs, Code.isFrame, pushEnvs] using e.frames), e.mod, e.bs, e.bsz, e.funs, e.frf, e.hok, e.bare⟩
section
variable {X : Cx} {pins : List (Addr × Obj)} {σ : St} {H : Hp} {s s' : Shared}
theorem Inv.env0 (I : Inv X pins σ H s) : Env0 X.prog X.w X.K X.mg X.base X.A X.stack s H :=
 ⟨I.ok.frames, I.ok.mod, I.bs, Nat.le_trans I.ok.bsz I.sz, I.stack, I.stkFree, I.hok, I.bare⟩
theorem Inv.after {Q : VK} {u : Value} (I : Inv X pins σ H s) (h : CE X.stack X.prog X.w H s Q u s') : EP X pins σ Q u s' := by
 obtain ⟨v, H', os, bare, un, hok, r, q⟩ := h
 obtain ⟨hh, g, d, t, os'⟩ := s'
 obtain rfl : os' = s.os := os
 exact ⟨v, H', I.call (h' := hh) (g' := g) (d' := d) (t' := t) (ch := []) un hok bare (fun b z => absurd z (by simp)), r, q⟩
end
def tCall (sp : Sp) (dvs : List V) (E : XK) (t : TA) : TE := fun σ H Q => t σ H fun vs H1 => sp (vs ++ dvs) H1 Q E
def tMeth (C : Addr) (m : Str) (sp : Sp) (dvs : List V) (E : XK) (ta : TE) (t : TA) : TE := fun σ H Q => ta σ H fun x H1 => ∃ a dx fs, x = .ref a /\ H1 a = some (.ins C dx fs) /\ fs.lookup m = none /\
 t σ H1 fun vs H2 => sp (x :: (vs ++ dvs)) H2 Q E
def tMake (C : Addr) (sp : Sp) (dvs : List V) (E : XK) (t : TA) : TE := fun σ H Q => t σ H fun vs H1 => ∀ x dx, H1 x = none -> H1 dx = none -> dx ≠ x ->
 sp (.ref x :: (vs ++ dvs)) (upd (upd H1 dx (.own x)) x (.ins C dx [])) (fun v H2 => v = .non /\ Q (.ref x) H2) E
def Binds (K : PySem.W.Frag) (fd : FuncData) (ps : List Str) (ds : List Value) : Prop :=
 ∀ (s : Shared) (us : List Value), K.In s.heap -> (us ++ ds).length = ps.length -> BindsTo s fd ⟨us, []⟩ (ps.zip (us ++ ds))
theorem Binds.all {K : PySem.W.Frag} {fd : FuncData} {ps : List Str} (h : ∀ us : List Value, us.length = ps.length -> bindArgs fd ⟨us, []⟩ = pure (ps.zip us)) : Binds K fd ps [] := fun s us _ hl => by
 rw [List.append_nil] at hl ⊢
 exact .of_eq (h us hl)
def Passes (CX : CXT) (X : Cx) (E : XK) : Prop := ∀ (pins : List (Addr × Obj)) (σ : St) (H : Hp) (s : Shared) (e : Value) (s' : Shared), Inv X pins σ H s -> CX X.stack H s E e s' -> X.xe e s'
section
variable {X : Cx} {CX : CXT} {k : Nat} {f C : Addr} {fd : FuncData} {ps : List Str} {sp : Sp} {dvs : List V} {ds : List Value} {E : XK} {x m : Str} {p pos apos : Pos} {e o : Expr} {es : List Expr} {ta : TE} {t : TA}
theorem run_fn {pins : List (Addr × Obj)} {σ : St} {H : Hp} {s : Shared} {Q : VK} {us : List Value} {vs : List V} (F : FnOk X.prog X.w X.K X.mg X.base CX k f fd ps sp) (hr : Room k X.A) (hb : Binds X.K fd ps ds) (hd : Vals dvs ds) (hx : Passes CX X E)
   (I : Inv X pins σ H s) (r : Vals vs us) (h : sp (vs ++ dvs) H Q E) : wpAny (model X.prog X.w) X.A (call (.ref f) us) (EP X pins σ Q) X.xe s := by
 have r2 : Vals (vs ++ dvs) (us ++ ds) := r.append hd
 have hl : (us ++ ds).length = ps.length := by rw [<- r2.length]; exact F.len _ _ _ _ h
 refine wpAny_call (codeAny_mono (F.run X.A X.stack s H ⟨us, []⟩ (us ++ ds) (vs ++ dvs) Q E hr I.env0 (hb s us I.kIn hl) r2 h) fun r s' hq => ?_)
 cases r with
 | error e => exact hx pins σ H s e s' I hq
 | ok fl =>
   cases fl with
   | ret u => exact I.after hq
   | next => exact False.elim hq
   | brk => exact False.elim hq
   | cont => exact False.elim hq
theorem pe_call (F : FnOk X.prog X.w X.K X.mg X.base CX k f fd ps sp) (hr : Room k X.A) (hg : Gl X x) (hm : X.mg x = some (.ref f)) (hk : PySem.W.keepIn X.K (.ref f) = true) (hb : Binds X.K fd ps ds) (hd : Vals dvs ds) (hx : Passes CX X E)
   (ha : PA X (e :: es) t) (hdb : (x == ("__debug__" : Str)) = false := by decide) (he : starEach (e :: es) X.env = (false, eval e X.env) :: starEach es X.env := by rfl) (hpl : (backTo pos (starEach es X.env)).any (·.1) = false := by rfl) :
   PE X (.Call (.Name x p) (e :: es) [] pos) (tCall sp dvs E t) := by
 intro pins s σ H Q I h
 refine wpAny_Call_Name_kw (ld_glob I hg hm ?_ hdb)
 refine PySem.W.callWith_K (h₀ := X.base) I.ok.mod.kin hk (thn (ha pos pins s σ H _ I h) fun us s1 ⟨vs, H1, I1, r, q⟩ => ⟨I1.kIn, ?_⟩) he hpl
 exact run_fn F hr hb hd hx I1 r q
theorem pe_meth {pl : Sem Bool} (he : PE X o ta) (c : Cls X.K C) (hm : Meth X.K C m f) (F : FnOk X.prog X.w X.K X.mg X.base CX k f fd ps sp) (hr : Room k X.A) (hb : Binds X.K fd ps ds) (hd : Vals dvs ds) (hx : Passes CX X E) (ha : PA X (e :: es) t)
   (hst : starEach (e :: es) X.env = (false, eval e X.env) :: starEach es X.env := by rfl) (hpl : (backTo pos (starEach es X.env)).any (·.1) = false := by rfl)
   (ht : eval (.Call (.Attribute o m apos) (e :: es) [] pos) X.env = (do
     let ov <- eval o X.env
     standAt apos.atName
     let (f, first) <- holding [ov] (getMethod ov m pl)
     callWith pos f first (backTo pos (starEach (e :: es) X.env)) (backToKw pos (keywordEach [] X.env))) := by rfl) :
   PE X (.Call (.Attribute o m apos) (e :: es) [] pos) (tMeth C m sp dvs E ta t) := by
 intro pins s σ H Q I h
 refine PySem.W.methodCall_KW (pl := pl) (thn (he pins s σ H _ I h) fun u s1 ⟨x, H1, I1, rx, a, dx, fs, ex, ea, l, q⟩ => ?_) ht
 subst ex
 obtain rfl : u = Value.ref a := rx
 refine getmeth_ok I1 ea c hm l ?_
 refine PySem.W.callWith_K (first := [.ref a]) (h₀ := X.base) I.ok.mod.kin hm.kp (thn (ha pos pins s1 σ H1 _ I1 q) fun us s2 ⟨vs, H2, I2, r, q2⟩ => ⟨I2.kIn, ?_⟩) hst hpl
 exact run_fn (us := .ref a :: us) (vs := .ref a :: vs) F hr hb hd hx I2 (.cons rfl r) q2
theorem pe_meth0 {pl : Sem Bool} (he : PE X o ta) (c : Cls X.K C) (hm : Meth X.K C m f) (F : FnOk X.prog X.w X.K X.mg X.base CX k f fd ps sp) (hr : Room k X.A) (hb : Binds X.K fd ps ds) (hd : Vals dvs ds) (hx : Passes CX X E)
   (ht : eval (.Call (.Attribute o m apos) [] [] pos) X.env = (do
     let ov <- eval o X.env
     standAt apos.atName
     let (f, first) <- holding [ov] (getMethod ov m pl)
     callWith pos f first (backTo pos (starEach [] X.env)) (backToKw pos (keywordEach [] X.env))) := by rfl) :
   PE X (.Call (.Attribute o m apos) [] [] pos) (tMeth C m sp dvs E ta tNil) := by
 intro pins s σ H Q I h
 refine PySem.W.methodCall_KW (pl := pl) (thn (he pins s σ H _ I h) fun u s1 ⟨x, H1, I1, rx, a, dx, fs, ex, ea, l, q⟩ => ?_) ht
 subst ex
 obtain rfl : u = Value.ref a := rx
 refine getmeth_ok I1 ea c hm l ?_
 exact PySem.W.callWith_K0 (first := [.ref a]) I1.kIn hm.kp (run_fn (us := [.ref a]) (vs := [.ref a]) F hr hb hd hx I1 (.cons rfl .nil) q)
structure Mk (K : PySem.W.Frag) (C f : Addr) : Prop where
 makes : PySem.W.makesIn K C = true
 init : PySem.W.findIn K (.ref C) "__init__" = some (some (.ref f))
 fn : PySem.W.isFn K (.ref f) = true
 kp : PySem.W.keepIn K (.ref C) = true
theorem run_make {pins : List (Addr × Obj)} {σ : St} {H : Hp} {s : Shared} {Q : VK} {us : List Value} {vs : List V} (M : Mk X.K C f) (F : FnOk X.prog X.w X.K X.mg X.base CX k f fd ps sp) (hr : Room (k + 1) X.A) (hb : Binds X.K fd ps ds) (hd : Vals dvs ds)
   (hx : Passes CX X E) (I : Inv X pins σ H s) (r : Vals vs us)
   (h : ∀ x dx, H x = none -> H dx = none -> dx ≠ x -> sp (.ref x :: (vs ++ dvs)) (upd (upd H dx (.own x)) x (.ins C dx [])) (fun v H2 => v = .non /\ Q (.ref x) H2) E) :
   wpAny (model X.prog X.w) X.A (call (.ref C) us) (EP X pins σ Q) X.xe s := by
 have hq := h (s.heap.objs.size + 1) s.heap.objs.size (I.hok.fresh (Nat.le_succ _)) (I.hok.fresh (Nat.le_refl _)) (Nat.ne_of_lt (Nat.lt_succ_self _))
 have I2 := Inv.made (C := C) I
 have r2 : Vals (V.ref (s.heap.objs.size + 1) :: (vs ++ dvs)) (Value.ref (s.heap.objs.size + 1) :: (us ++ ds)) := .cons rfl (r.append hd)
 have hl : (Value.ref (s.heap.objs.size + 1) :: us ++ ds).length = ps.length := by
   have e := r2.length
   rw [F.len _ _ _ _ hq] at e
   exact e.symm
 refine wpAny_call (make_map (f := f) I.kIn M.makes M.init (beq_iff_eq.mp M.fn) (codeAny_mono (F.run _ X.stack _ _ ⟨Value.ref (s.heap.objs.size + 1) :: us, []⟩ (Value.ref (s.heap.objs.size + 1) :: (us ++ ds)) _ _ E (hr.make C us [])
   (I2.env0.make C us []) (hb _ (Value.ref (s.heap.objs.size + 1) :: us) I2.kIn hl) r2 hq) fun r s' hq' => ?_))
 cases r with
 | error e => exact hx pins σ _ _ e s' I2 hq'
 | ok fl =>
   cases fl with
   | ret u =>
     obtain ⟨v, H', I3, rv, ev, q3⟩ := I2.after hq'
     subst ev
     exact ⟨rv, ⟨V.ref (s.heap.objs.size + 1), H', I3, rfl, q3⟩⟩
   | next => exact False.elim hq'
   | brk => exact False.elim hq'
   | cont => exact False.elim hq'
theorem pe_make (M : Mk X.K C f) (F : FnOk X.prog X.w X.K X.mg X.base CX k f fd ps sp) (hr : Room (k + 1) X.A) (hg : Gl X x) (hm : X.mg x = some (.ref C)) (hb : Binds X.K fd ps ds) (hd : Vals dvs ds) (hx : Passes CX X E)
   (ha : PA X (e :: es) t) (hdb : (x == ("__debug__" : Str)) = false := by decide) (he : starEach (e :: es) X.env = (false, eval e X.env) :: starEach es X.env := by rfl) (hpl : (backTo pos (starEach es X.env)).any (·.1) = false := by rfl) :
   PE X (.Call (.Name x p) (e :: es) [] pos) (tMake C sp dvs E t) := by
 intro pins s σ H Q I h
 refine wpAny_Call_Name_kw (ld_glob I hg hm ?_ hdb)
 refine PySem.W.callWith_K (h₀ := X.base) I.ok.mod.kin M.kp (thn (ha pos pins s σ H _ I h) fun us s1 ⟨vs, H1, I1, r, q⟩ => ⟨I1.kIn, ?_⟩) he hpl
 exact run_make M F hr hb hd hx I1 r q
theorem pe_make0 (M : Mk X.K C f) (F : FnOk X.prog X.w X.K X.mg X.base CX k f fd ps sp) (hr : Room (k + 1) X.A) (hg : Gl X x) (hm : X.mg x = some (.ref C)) (hb : Binds X.K fd ps ds) (hd : Vals dvs ds) (hx : Passes CX X E)
   (hdb : (x == ("__debug__" : Str)) = false := by decide) : PE X (.Call (.Name x p) [] [] pos) (tMake C sp dvs E tNil) := by
 intro pins s σ H Q I h
 refine wpAny_Call_Name_kw (ld_glob I hg hm ?_ hdb)
 exact PySem.W.callWith_K0 I.kIn M.kp (run_make (us := []) M F hr hb hd hx I .nil h)
end
section
variable {X : Cx} {CX : CXT} {k : Nat} {f C : Addr} {fd : FuncData} {ps ks : List Str} {sp : Sp} {E : XK} {x m : Str} {p pos apos kpos : Pos} {e o : Expr} {es : List Expr} {kws : List Keyword} {te ta : TE} {t tk : TA} {nm : Option Str}
variable {g : List Value -> List Value -> List Value} {gV : List V -> List V -> List V}
end
structure FnScope (N P : List Str) (sc : Scope) : Prop where
 kind : sc.kind = .function
 co : sc.isCoroutine = false
 gen : sc.isGenerator = false
 nd : N.Nodup
 pre : N.take P.length = P
 par : ∀ x ∈ P, sc.names.lookup x = some .local \/ sc.names.lookup x = some .cell
 nofree : ∀ y ∈ sc.names, y.2 ≠ .free
theorem bindL_out {kindOf : Str -> Option NameKind} {x : Str} : ∀ {binds : List (Str × Value)} {m : Str -> Option Value}, (∀ v, (x, v) ∉ binds) -> bindL kindOf binds m x = m x
 | [], _, _ => rfl
 | (n, v) :: r, m, h => by
   unfold bindL
   rw [bindL_out fun w hw => h w (List.mem_cons_of_mem _ hw)]
   split
   . have : x ≠ n := by rintro rfl; exact h v List.mem_cons_self
     simp [this]
   . rfl
theorem bindC_out {kindOf : Str -> Option NameKind} {x : Str} : ∀ {binds : List (Str × Value)} {m : Str -> Option Value}, (∀ v, (x, v) ∉ binds) -> bindC kindOf binds m x = m x
 | [], _, _ => rfl
 | (n, v) :: r, m, h => by
   unfold bindC
   rw [bindC_out fun w hw => h w (List.mem_cons_of_mem _ hw)]
   split
   . rfl
   . have : x ≠ n := by rintro rfl; exact h v List.mem_cons_self
     simp [this]
theorem bindL_get {kindOf : Str -> Option NameKind} {x : Str} {v : Value} : ∀ {P : List Str} {vs : List Value} {i : Nat} {m : Str -> Option Value}, P.Nodup -> P[i]? = some x -> vs[i]? = some v -> kindOf x = some .local ->
   bindL kindOf (P.zip vs) m x = some v
 | [], _, _, _, _, h, _, _ => by simp at h
 | _ :: _, [], _, _, _, _, h, _ => by simp at h
 | p :: P, w :: vs, 0, m, nd, h1, h2, hk => by
   simp at h1 h2; subst h1; subst h2
   show bindL kindOf ((p, w) :: P.zip vs) m p = _
   unfold bindL
   rw [bindL_out fun v hv => (List.nodup_cons.mp nd).1 (List.of_mem_zip hv).1, if_pos hk]
   simp
 | p :: P, w :: vs, i + 1, m, nd, h1, h2, hk => by
   show bindL kindOf ((p, w) :: P.zip vs) m x = _
   unfold bindL
   exact bindL_get (i := i) (List.nodup_cons.mp nd).2 (by simpa using h1) (by simpa using h2) hk
theorem bindC_get {kindOf : Str -> Option NameKind} {x : Str} {v : Value} : ∀ {P : List Str} {vs : List Value} {i : Nat} {m : Str -> Option Value}, P.Nodup -> P[i]? = some x -> vs[i]? = some v -> kindOf x ≠ some .local ->
   bindC kindOf (P.zip vs) m x = some v
 | [], _, _, _, _, h, _, _ => by simp at h
 | _ :: _, [], _, _, _, _, h, _ => by simp at h
 | p :: P, w :: vs, 0, m, nd, h1, h2, hk => by
   simp at h1 h2; subst h1; subst h2
   show bindC kindOf ((p, w) :: P.zip vs) m p = _
   unfold bindC
   rw [bindC_out fun v hv => (List.nodup_cons.mp nd).1 (List.of_mem_zip hv).1, if_neg hk]
   simp
 | p :: P, w :: vs, i + 1, m, nd, h1, h2, hk => by
   show bindC kindOf ((p, w) :: P.zip vs) m x = _
   unfold bindC
   exact bindC_get (i := i) (List.nodup_cons.mp nd).2 (by simpa using h1) (by simpa using h2) hk
def start (N : List Str) (vs : List V) : St := vs.map some ++ List.replicate (N.length - vs.length) none
def cxOf (CX : CXT) (P : Program) (w : World) (K : PySem.W.Frag) (mg : Str -> Option Value) (base : Heap) (N : List Str) (qual : Str) (scope : Scope) (f : Addr) (cd : Value) (A : Around) (outer : List Env) (s : Shared) (H : Hp) (E : XK) : Cx where
 prog := P
 w := w
 K := K
 mg := mg
 base := base
 A := A.deeper (envOfC qual scope s.heap.objs.size f cd)
 N := N
 s_0 := s
 H_0 := H
 env := envOfC qual scope s.heap.objs.size f cd
 outer := outer
 stack := envOfC qual scope s.heap.objs.size f cd :: outer
 ex := []
 calm := true
 fn := fun _ => true
 pn := []
 xe := fun e s' => wpAny (model P w) (A.deeper (envOfC qual scope s.heap.objs.size f cd)) (leaving (envOfC qual scope s.heap.objs.size f cd) e) (fun _ s'' => CX outer H s E e s'') (fun e' s'' => CX outer H s E e' s'') s'
theorem cell_has {sc : Scope} {n : Nat} {x : Str} (h : sc.names.lookup x = some .cell) : ∃ c, (cellsFrom n sc.names []).lookup x = some c := by
 have q := PySem.W.cellsFrom_some sc.names n [] (.inl h)
 exact Option.isSome_iff_exists.mp q
theorem inv_start {CX : CXT} {P : Program} {w : World} {K : PySem.W.Frag} {mg : Str -> Option Value} {base : Heap} {N ps : List Str} {qual : Str} {scope : Scope} {f : Addr} {cd : Value} {A : Around} {outer : List Env} {s s1 : Shared} {H : Hp} {E : XK} {us : List Value} {vs : List V}
   (S : FnScope N ps scope) (hd : A.handled = none) (e0 : Env0 P w K mg base A outer s H) (hl : vs.length = ps.length) (r : Vals vs us)
   (x : InCallC s s.heap.objs.size (bindL (envOfC qual scope s.heap.objs.size f cd).kindOf (ps.zip us) fun _ => none) (cellsFrom (s.heap.objs.size + 1) scope.names []) (bindC (envOfC qual scope s.heap.objs.size f cd).kindOf (ps.zip us) fun _ => none) s1) :
   Inv (cxOf CX P w K mg base N qual scope f cd A outer s H E) [] (start N vs) H s1 := by
 have hpl : ps.length <= N.length := by have := congrArg List.length S.pre; rw [List.length_take] at this; omega
 obtain ⟨h1, tk, rfl, hk⟩ := x.done
 have noA : ∀ b : Addr, b ∉ (cxOf CX P w K mg base N qual scope f cd A outer s H E).ex := fun b z => absurd (show b ∈ ([] : List Addr) from z) (by simp)
 refine ⟨⟨e0.mod, S.kind, rfl, rfl, Nat.le_refl _, fun y z c h1 h2 => ?_, fun y hy => ?_, fun y c _ h => ?_, fun _ => hd, Around.frames_deeper e0.frames, .inr ⟨rfl, rfl⟩, fun b z => absurd z (noA b), e0.bs, e0.bsz, fun b _ _ => noA b, fun b z => absurd z (noA b), e0.funs, e0.frf⟩,
   rfl, e0.bare, Un.kept hk, ⟨_, x.toInCall.ns, fun i y v h1 h2 h3 => ?_⟩, fun y c h => ⟨_, x.cell y c h⟩, e0.hok.fresh (Nat.le_refl _), fun y c h => ?_, fun p hp => absurd (show p ∈ ([] : List (Addr × Obj)) from hp) (by simp), e0.hok.kept hk, ?_⟩
 . exact name_of_addr x.apart (PySem.mem_of_lookup h1) (PySem.mem_of_lookup h2)
 . have hy : scope.names.lookup y = some .cell \/ scope.names.lookup y = some .free := hy
   rcases hy with hy | hy
   . exact cell_has hy
   . exact absurd rfl (S.nofree _ (PySem.mem_of_lookup hy))
 . exact Nat.le_of_lt (x.above y c (PySem.mem_of_lookup h))
 . have hi : i < vs.length := by
     unfold start at h2
     by_cases hi : i < vs.length
     . exact hi
     . rw [List.getElem?_append_right (by simpa using hi)] at h2
       rw [List.getElem?_replicate] at h2
       split at h2 <;> cases h2
   have ha : vs[i]? = some v := by
     unfold start at h2
     rw [List.getElem?_append_left (by simpa using hi), List.getElem?_map] at h2
     cases e : vs[i]? with
     | none => rw [e] at h2; cases h2
     | some a => rw [e] at h2; cases h2; rfl
   obtain ⟨u, hu, rv⟩ := r.get ha
   have hp : ps[i]? = some y := by
     rw [<- S.pre, List.getElem?_take_of_lt (by omega)]; exact h1
   have ndP : ps.Nodup := by rw [<- S.pre]; exact S.nd.sublist (List.take_sublist _ _)
   refine ⟨u, rv, ?_⟩
   rcases S.par y (List.mem_of_getElem? hp) with k | k
   . exact .inl ⟨k, bindL_get ndP hp hu k⟩
   . obtain ⟨c, e⟩ := cell_has (n := s.heap.objs.size + 1) k
     refine .inr ⟨.inl k, c, e, ?_⟩
     have q := x.cell y c e
     rw [bindC_get ndP hp hu (by show scope.names.lookup y ≠ _; rw [k]; decide)] at q
     exact q
 . exact e0.hok.fresh (Nat.le_of_lt (x.above y c (PySem.mem_of_lookup h)))
 . unfold start
   show _ = N.length
   rw [List.length_append, List.length_map, List.length_replicate]
   omega
theorem fn_of {CX : CXT} {P : Program} {w : World} {K : PySem.W.Frag} {mg : Str -> Option Value} {base : Heap} {k : Nat} {f : Addr} {name qual : Str} {params : Arguments} {body : List Stmt} {scope : Scope} {dV kV doc pm cdv ct oc : Value} {an od : Option Addr}
   {osl : Array (Option Value)} {N ps : List Str} {sp : Sp} (lk : K.lookup f = some ⟨oc, od, .func (PySem.W.fnOf name qual params body scope dV kV doc pm an cdv ct), osl⟩) (hcd : PySem.W.codeIn K cdv qual = true) (S : FnScope N ps scope)
   (len : ∀ vs H Q E, sp vs H Q E -> vs.length = ps.length)
   (hbody : ∀ (A : Around) (outer : List Env) (s : Shared) (H : Hp) (vs : List V) (Q : VK) (E : XK), Room k (A.deeper (envOfC qual scope s.heap.objs.size f cdv)) -> sp vs H Q E ->
     ∃ t, PSs (cxOf CX P w K mg base N qual scope f cdv A outer s H E) body t /\ t { nx := fun _ H' => Q .non H', rt := Q } (start N vs) H) :
   FnOk P w K mg base CX (k + 1) f (PySem.W.fnOf name qual params body scope dV kV doc pm an cdv ct) ps sp := by
 refine ⟨len, fun A outer s H args us vs Q E hr e0 hb r hsp => ?_⟩
 have hl := len _ _ _ _ hsp
 have KX : K.In s.heap := e0.mod.kin.keeps fun b o e => (e0.bs b o e).1
 have lim : s.heap.NoLimit := e0.mod.nolimit.keeps fun b o e => (e0.bs b o e).1
 have hkind : ∀ y ∈ ps.zip us, scope.names.lookup y.1 = some .local \/ (scope.names.lookup y.1 = some .cell /\ ((cellsFrom (s.heap.objs.size + 1) scope.names []).lookup y.1).isSome = true) := fun ⟨n, v⟩ hy => by
   rcases S.par n (List.of_mem_zip hy).1 with q | q
   . exact .inl q
   . exact .inr ⟨q, PySem.W.cellsFrom_some _ _ _ (.inl q)⟩
 refine codeAny_call_function hr.depth (KX _ _ lk) rfl S.co S.gen rfl (PySem.W.codeRec_of KX hcd) (hb _ _ _ _ ?_)
 refine wpAny_newFunctionEnv_cells S.kind hkind fun env he s1 x => ?_
 subst he
 refine ⟨lim.keeps x.toInCall.keep, codeAny_func ?_⟩
 obtain ⟨t, ht, hq⟩ := hbody A outer s H vs Q E (hr.deeper _) hsp
 have I : Inv (cxOf CX P w K mg base N qual scope f cdv A outer s H E) [] (start N vs) H s1 := inv_start S hr.hd e0 hl r x
 refine wpAny_mono (ht [] s1 (start N vs) H _ I hq) (fun fl s' hs => ?_) fun e s' hs => hs
 have fin : ∀ {σ' : St} {H' : Hp} {v : V} {u : Value}, Inv (cxOf CX P w K mg base N qual scope f cdv A outer s H E) [] σ' H' s' -> RelV v u -> Q v H' -> CE outer P w H s Q u s' :=
   fun {σ' H' v u} J rv q => ⟨v, H', J.os, J.bare, J.base, J.hok, rv, q⟩
 cases fl with
 | ret u =>
   obtain ⟨v, σ', H', J, rv, q⟩ := hs
   exact fin J rv q
 | next =>
   obtain ⟨σ', H', J, q⟩ := hs
   exact fin (v := V.non) (u := Value.none) J rfl q
 | brk =>
   obtain ⟨_, _, _, q⟩ := hs
   exact False.elim q
 | cont =>
   obtain ⟨_, _, _, q⟩ := hs
   exact False.elim q
end L2
namespace L2
open PySem PySem.Spec PyProof.Rows
section
variable {X : Cx} {x : Str} {p pos : Pos} {e : Expr} {es : List Expr} {t : TA} {id T : String} {r : List V -> Hp -> VK -> Prop}
def tCB (r : List V -> Hp -> VK -> Prop) (t : TA) : TE := fun σ H Q => t σ H fun vs H1 => r vs H1 Q
theorem Zv (hc : Xw X (.builtin id) r) (hg : Gl X x) (hm : X.mg x = none) (hv : bootBuiltins x = some (.builtin id)) (ha : PA X (e :: es) t) (hn : x ≠ "__name__" := by decide) (hdb : (x == ("__debug__" : Str)) = false := by decide)
   (he : starEach (e :: es) X.env = (false, eval e X.env) :: starEach es X.env := by rfl) (hpl : (backTo pos (starEach es X.env)).any (·.1) = false := by rfl) : PE X (.Call (.Name x p) (e :: es) [] pos) (tCB r t) := by
 intro pins s σ H Q I h
 refine wpAny_Call_Name_kw (ld_blt I hg hm hv ?_ hn hdb)
 exact PyProof.Rows.callWith_builtin1 (thn (ha pos pins s σ H _ I h) fun us s1 ⟨vs, H1, I1, r1, q1⟩ => hc pins s1 σ H1 vs us Q I1 r1 q1) he hpl
theorem pe_callTy (hc : Xw X (.type T) r) (hg : Gl X x) (hm : X.mg x = none) (hv : bootBuiltins x = some (.type T)) (ha : PA X (e :: es) t) (hn : x ≠ "__name__" := by decide) (hdb : (x == ("__debug__" : Str)) = false := by decide)
   (he : starEach (e :: es) X.env = (false, eval e X.env) :: starEach es X.env := by rfl) (hpl : (backTo pos (starEach es X.env)).any (·.1) = false := by rfl) : PE X (.Call (.Name x p) (e :: es) [] pos) (tCB r t) := by
 intro pins s σ H Q I h
 refine wpAny_Call_Name_kw (ld_blt I hg hm hv ?_ hn hdb)
 exact PyProof.Rows.callWith_type1 (thn (ha pos pins s σ H _ I h) fun us s1 ⟨vs, H1, I1, r1, q1⟩ => hc pins s1 σ H1 vs us Q I1 r1 q1) he hpl
end
end L2
namespace HT
open PySem PyProof.Rows
section
open PySem.SeqAt
open PySem.AutoSeq1 (wpAny_loadPart')
open PySem.MeetsSeq PySem.MeetsSeq2 PySem.MeetsSeq3
end
section
variable {prog : Program} {w : World} {A : Around} {E : Value -> Shared -> Prop} {s : Shared}
def sIx (n d : Nat) : Option Int -> Nat
 | none => d
 | some v => if v < 0 then (v + (n : Int)).toNat else min v.toNat n
theorem sIx_none (n d : Nat) : sIx n d none = d := rfl
theorem sIx_nat (n d k : Nat) : sIx n d (some (k : Int)) = min k n := by
 show (if (k : Int) < 0 then ((k : Int) + (n : Int)).toNat else min (k : Int).toNat n) = min k n
 rw [if_neg (by omega), Int.toNat_natCast]
end
end HT
namespace L2
open PySem PySem.Spec PyProof.Rows
abbrev TO := St -> Hp -> (Option Int -> Hp -> Prop) -> Prop
def PO (X : Cx) (e : Option Expr) (t : TO) : Prop :=
 ∀ (pins : List (Addr × Obj)) (s : Shared) (σ : St) (H : Hp) (Q : Option Int -> Hp -> Prop), Inv X pins σ H s -> t σ H Q ->
   wpAny (model X.prog X.w) X.A (evalPart e X.env) (fun u s' => ∃ o H', Inv X pins σ H' s' /\ IsPart u o /\ Q o H') X.xe s
def tNoPart : TO := fun _ H Q => Q none H
def tPart (t : TE) : TO := fun σ H Q => t σ H fun x H1 => ∃ i, x = .int i /\ Q (some i) H1
section
variable {X : Cx} {e : Expr} {te : TE} {lo hi : Option Expr} {tl th : TO} {pos p2 : Pos}
theorem po_none : PO X none tNoPart := by
 intro pins s σ H Q I h
 rw [evalPart_none]
 exact wpAny_pure ⟨none, H, I, .none, h⟩
theorem po_some (h : PE X e te) : PO X (some e) (tPart te) := by
 intro pins s σ H Q I hw
 rw [evalPart_some]
 refine thn (h pins s σ H _ I hw) fun u s1 ⟨x, H1, I1, r1, q1⟩ => ?_
 obtain ⟨i, rfl, q⟩ := q1
 obtain ⟨t, rfl⟩ := r1
 exact ⟨some i, H1, I1, .int i t, q⟩
def SlR (X : Cx) (r : V -> Option Int -> Option Int -> Hp -> VK -> Prop) : Prop :=
 ∀ (pins : List (Addr × Obj)) (s : Shared) (σ : St) (H : Hp) (x : V) (v vl vu : Value) (lo hi : Option Int) (sl : Addr) (Q : VK), Inv X pins σ H s -> RelV x v -> s.heap.IsSliceOf sl vl vu .none -> IsPart vl lo -> IsPart vu hi -> r x lo hi H Q ->
   ∃ T id, typeLookup (.type T) "__getitem__" = pure (some (.builtin id)) /\ s.TypeIs v T /\ wpAny (model X.prog X.w) X.A (getItem v (.ref sl)) (EP X pins σ Q) X.xe s
def tSl (r : V -> Option Int -> Option Int -> Hp -> VK -> Prop) (te : TE) (tl th : TO) : TE := fun σ H Q => te σ H fun x H1 => tl σ H1 fun l H2 => th σ H2 fun u H3 => r x l u H3 Q
theorem pe_slice {r : V -> Option Int -> Option Int -> Hp -> VK -> Prop} (hr : SlR X r) (he : PE X e te) (hl : PO X lo tl) (hu : PO X hi th) : PE X (.Subscript e (.Slice lo hi none p2) pos) (tSl r te tl th) := by
 intro pins s σ H Q I h
 refine Subscript_ (thn (he pins s σ H _ I h) fun v s1 ⟨x, H1, I1, r1, q1⟩ => ?_)
 refine wpAny_Slice (thn (hl pins s1 σ H1 _ I1 q1) fun vl s2 ⟨l, H2, I2, pl, q2⟩ => thn (hu pins s2 σ H2 _ I2 q2) fun vu s3 ⟨u, H3, I3, pu, q3⟩ => ?_)
 rw [evalPart_none]
 refine wpAny_pure ?_
 have I4 : Inv X pins σ H3 { s3 with heap := s3.heap.push { cls := .type "slice", data := .fields #[vl, vu, .none] } } := I3.kept (t' := s3.toks) fun b ob q => Heap.get?_push_of_some _ q
 obtain ⟨T, id, hT, ht, hg⟩ := hr pins { s3 with heap := s3.heap.push { cls := .type "slice", data := .fields #[vl, vu, .none] } } σ H3 x v vl vu l u s3.heap.objs.size Q I4 r1 (Heap.IsSliceOf.new ..) pl pu q3
 show wpAny (model X.prog X.w) X.A (subscriptTail e (.Slice lo hi none p2) v (.ref s3.heap.objs.size)) (EP X pins σ Q) X.xe { s3 with heap := s3.heap.push { cls := .type "slice", data := .fields #[vl, vu, .none] } }
 exact tail_any (ops := [.ref s3.heap.objs.size, v]) ht hT hg (by with_unfolding_all rfl)
def cutV (xs : List V) (lo hi : Option Int) : List V := (xs.drop (HT.sIx xs.length 0 lo)).take (HT.sIx xs.length xs.length hi - HT.sIx xs.length 0 lo)
theorem cutV_length (xs : List V) (lo hi : Option Int) : (cutV xs lo hi).length <= xs.length := by
 unfold cutV
 rw [List.length_take, List.length_drop]
 omega
end
end L2
namespace L2
open PySem PySem.Spec PyProof.Rows
def ixN (n : Nat) (i : Int) : Option Nat := if 0 <= i then (if i < n then some i.toNat else none) else if -(n : Int) <= i then some (i + n).toNat else none
def atI {α : Type} (xs : List α) (i : Int) : Option α := (ixN xs.length i).bind fun j => xs[j]?
theorem ixN_seq {n : Nat} {i : Int} {j : Nat} (h : ixN n i = some j) : seqIndex? i n = some j /\ j < n /\ -(n : Int) <= i /\ i < n := by
 unfold ixN at h
 by_cases h0 : 0 <= i
 . rw [if_pos h0] at h
   by_cases h1 : i < n
   . rw [if_pos h1] at h
     have e : i.toNat = j := Option.some.inj h
     exact ⟨by rw [seqIndex_of h0 h1, e], by omega, by omega, h1⟩
   . rw [if_neg h1] at h; cases h
 . rw [if_neg h0] at h
   by_cases h1 : -(n : Int) <= i
   . rw [if_pos h1] at h
     have e : (i + n).toNat = j := Option.some.inj h
     exact ⟨by rw [seqIndex_neg (by omega) h1, e], by omega, h1, by omega⟩
   . rw [if_neg h1] at h; cases h
theorem atI_get {α : Type} {xs : List α} {i : Int} {v : α} (h : atI xs i = some v) : ∃ j, seqIndex? i xs.length = some j /\ xs[j]? = some v /\ j < xs.length /\ -(xs.length : Int) <= i /\ i < xs.length := by
 unfold atI at h
 cases e : ixN xs.length i with
 | none => rw [e] at h; cases h
 | some j =>
   rw [e] at h
   obtain ⟨h1, h2, h3, h4⟩ := ixN_seq e
   exact ⟨j, h1, h, h2, h3, h4⟩
theorem Zs {α : Type} {xs : List α} {j : Nat} {v : α} (h : xs[j]? = some v) : atI xs (j : Int) = some v := by
 have hj : j < xs.length := (List.getElem?_eq_some_iff.mp h).1
 have e : ixN xs.length (j : Int) = some j := by
   unfold ixN
   rw [if_pos (by omega), if_pos (by omega)]; simp
 unfold atI; rw [e]; exact h
theorem atI_last {α : Type} (xs : List α) (v : α) : atI (xs ++ [v]) (-1) = some v := by
 have hl : (xs ++ [v]).length = xs.length + 1 := by simp
 have e : ixN (xs ++ [v]).length (-1) = some xs.length := by
   unfold ixN
   rw [hl, if_neg (by decide), if_pos (by omega)]
   congr 1
   omega
 unfold atI
 rw [e]
 show (xs ++ [v])[xs.length]? = some v
 simp
def PlainIx (b : Expr) : Prop := ∀ o i, subscripted b false o i = operate [o, i] (getItem o i)
def IxR (X : Cx) (r : R2) : Prop :=
 ∀ (value slice : Expr) (pins : List (Addr × Obj)) (s : Shared) (σ : St) (H : Hp) (x y : V) (v u : Value) (Q : VK), Inv X pins σ H s -> RelV x v -> RelV y u -> r x y H Q ->
   subscripted slice false v u = operate [v, u] (getItem v u) -> wpAny (model X.prog X.w) X.A (subscriptTail value slice v u) (EP X pins σ Q) X.xe s
def MtR (X : Cx) (id : String) (r : V -> List V -> Hp -> VK -> Prop) : Prop :=
 ∀ (pins : List (Addr × Obj)) (s : Shared) (σ : St) (H : Hp) (x : V) (xs : List V) (v : Value) (us : List Value) (Q : VK), Inv X pins σ H s -> RelV x v -> Vals xs us -> r x xs H Q ->
   wpAny (model X.prog X.w) X.A (call (.builtin id) (v :: us)) (EP X pins σ Q) X.xe s
section
variable {X : Cx} {a b : Expr} {ta tb : TE} {pos : Pos}
theorem MtR.or {id : String} {r r' : V -> List V -> Hp -> VK -> Prop} (h : MtR X id r) (h' : MtR X id r') : MtR X id (fun x xs H Q => r x xs H Q \/ r' x xs H Q) := by
 intro pins s σ H x xs v us Q I rx rs q
 rcases q with q | q
 . exact h pins s σ H x xs v us Q I rx rs q
 . exact h' pins s σ H x xs v us Q I rx rs q
theorem Zm {r : R2} (hr : IxR X r) (ha : PE X a ta) (hb : PE X b tb) (hs : PlainIx b) : PE X (.Subscript a b pos) (tOp r ta tb) := by
 intro pins s σ H Q I h
 exact Subscript_ (binT ha hb I h fun v u s2 x y H2 I2 rx ry q => hr a b pins s2 σ H2 x y v u Q I2 rx ry q (hs _ _))
def rIxL (K : PySem.W.Frag) : R2 := fun x y H Q => ∃ p xs i v, x = .ref p /\ y = .int i /\ SqL K H p xs /\ atI xs i = some v /\ Q v H
def rIxT (K : PySem.W.Frag) : R2 := fun x y H Q => ∃ p xs i v, x = .ref p /\ y = .int i /\ SqT K H p xs /\ atI xs i = some v /\ Q v H
theorem ix_list : IxR X (rIxL X.K) := by
 intro value slice pins s σ H x y v u Q I rx ry h hs
 obtain ⟨p, xs, i, z, rfl, rfl, hq, he, q⟩ := h
 cases rx
 obtain ⟨t, rfl⟩ := ry
 obtain ⟨its, r, pl, hz⟩ := I.list hq
 obtain ⟨j, h1, h2, h3, h4, h5⟩ := atI_get he
 obtain ⟨w, ew, rw'⟩ := r.get h2
 have hl := r.length
 have hn := line63
 have fin : EP X pins σ Q w s := ⟨z, H, I, rw', q⟩
 by_cases h0 : 0 <= i
 . have hj : i.toNat = j := by
     rw [seqIndex_of h0 h5] at h1
     exact Option.some.inj h1
   exact item_listR pl.isList h0 (by omega) (by rw [hj]; simpa using ew) fin hs
 . have hj : (i + (its.toArray.size : Int)).toNat = j := by
     rw [seqIndex_neg (by omega) h4] at h1
     rw [List.size_toArray, <- hl]
     exact Option.some.inj h1
   exact subscriptTail_builtinR (x := w) pl.isList.typeIs slot_list_getitem.lookup
     (wpAny_getItem_list_neg (Q := fun r s' => r = w /\ EP X pins σ Q r s') pl.isList (by omega) (by rw [List.size_toArray] <;> omega) (by omega) (by rw [hj]; simpa using ew) ⟨rfl, fin⟩) hs
theorem ix_tup : IxR X (rIxT X.K) := by
 intro value slice pins s σ H x y v u Q I rx ry h hs
 obtain ⟨p, xs, i, z, rfl, rfl, hq, he, q⟩ := h
 cases rx
 obtain ⟨t, rfl⟩ := ry
 obtain ⟨its, r, pl, hz⟩ := I.tuple hq
 obtain ⟨j, h1, h2, h3, h4, h5⟩ := atI_get he
 obtain ⟨w, ew, rw'⟩ := r.get h2
 have hl := r.length
 have hn := line63
 have fin : EP X pins σ Q w s := ⟨z, H, I, rw', q⟩
 exact subscriptTail_builtinR (x := w) pl.typeIs slot_tuple_getitem.lookup
   (getItem_tuple (j := j) (Q := fun r s' => r = w /\ EP X pins σ Q r s') pl (by omega) (by omega) (by rw [List.size_toArray, <- hl]; exact h1) (by simpa using ew) ⟨rfl, fin⟩) hs
theorem mapSeq_set (its : List Value) (n j : Nat) (u : Value) : Obj.mapSeq (·.setIfInBounds j u) { cls := .type "list", data := .seq its.toArray n } = { cls := .type "list", data := .seq (its.set j u).toArray n } := by
 simp [Obj.mapSeq]
theorem Inv.lst {pins : List (Addr × Obj)} {σ : St} {H : Hp} {s : Shared} {p : Addr} {xs : List V} (I : Inv X pins σ H s) (h : H p = some (.lst xs)) :
   ∃ (its : List Value) (n : Nat), Vals xs its /\ s.heap.get? p = some { cls := .type "list", data := .seq its.toArray n } /\ xs.length <= sizeLine := by
 obtain ⟨z, its, n, r, e⟩ := I.hok p _ h
 exact ⟨its, n, r, e, z⟩
theorem Inv.lstUpd {pins : List (Addr × Obj)} {σ : St} {H : Hp} {s : Shared} {p : Addr} {xs ys : List V} {its its' : List Value} {n n' : Nat} {f : Obj -> Obj} (I : Inv X pins σ H s) (h : H p = some (.lst xs))
   (ho : s.heap.get? p = some { cls := .type "list", data := .seq its.toArray n }) (hf : f { cls := .type "list", data := .seq its.toArray n } = { cls := .type "list", data := .seq its'.toArray n' }) (r : Vals ys its') (hz : ys.length <= sizeLine) (t : Nat) :
   Inv X pins σ (upd H p (.lst ys)) { s with heap := s.heap.update p f, toks := t } := by
 have e : (s.heap.update p f).get? p = some { cls := .type "list", data := .seq its'.toArray n' } := by
   rw [Heap.get?_update_self f ho (by rw [hf] <;> rfl), hf]
 refine I.write (x := p) (e := p) (by rw [h]; trivial) (.inl rfl) (fun b u hb q => (Heap.get?_update_other _ _ (Ne.symm hb)).trans q) ⟨_, e⟩ ?_
 exact ⟨hz, its', n', r, e⟩
def rSetL : V -> V -> V -> Hp -> (Hp -> Prop) -> Prop := fun o i v H Q => ∃ p xs k j, o = .ref p /\ i = .int k /\ H p = some (.lst xs) /\ ixN xs.length k = some j /\ Q (upd H p (.lst (xs.set j v)))
theorem set_list : PSet X rSetL := by
 intro pins s σ H o i v ov iv u Q I ro ri rv h
 obtain ⟨p, xs, k, j, rfl, rfl, hp, hj, q⟩ := h
 cases ro
 obtain ⟨t, rfl⟩ := ri
 obtain ⟨its, n, r, ho, hz⟩ := I.lst hp
 obtain ⟨h1, h2, h3, h4⟩ := ixN_seq hj
 have hl := r.length
 have hn := line63
 have I' : Inv X pins σ (upd H p (.lst (xs.set j v))) { s with heap := s.heap.update p (Obj.mapSeq (·.setIfInBounds j u)) } :=
   I.lstUpd hp ho (mapSeq_set its n j u) (r.set rv j) (by rw [List.length_set]; exact hz) s.toks
 by_cases h0 : 0 <= k
 . have hk : k.toNat = j := by
     rw [seqIndex_of h0 h4] at h1
     exact Option.some.inj h1
   exact PySem.W.ki_setAt ho h0 (by omega) (by rw [List.size_toArray, <- hl]; exact h4) (by rw [hk]; exact ⟨_, I', q⟩)
 . have hk : (k + (its.toArray.size : Int)).toNat = j := by
     rw [seqIndex_neg (by omega) h3] at h1
     rw [List.size_toArray, <- hl]
     exact Option.some.inj h1
   exact PySem.W.ki_setBack ho (by omega) (by rw [List.size_toArray, <- hl]; exact h3) (by omega) (by rw [hk]; exact ⟨_, I', q⟩)
theorem slice_bounds (lo hi : Option Int) (n : Nat) : (sliceBounds lo hi none n).1 = ((HT.sIx n 0 lo : Nat) : Int) /\ (sliceBounds lo hi none n).2.1 = ((HT.sIx n n hi : Nat) : Int) /\ (sliceBounds lo hi none n).2.2 = 1 := by
 refine ⟨?_, ?_, rfl⟩
 . cases lo with
   | none => simp [sliceBounds, HT.sIx]
   | some i =>
     simp only [sliceBounds, HT.sIx, Option.getD_none, show (1 : Int) > 0 by decide, if_true]
     by_cases h : i < 0
     . simp only [h, if_true] <;> omega
     . simp only [h, if_false] <;> omega
 . cases hi with
   | none => simp [sliceBounds, HT.sIx]
   | some i =>
     simp only [sliceBounds, HT.sIx, Option.getD_none, show (1 : Int) > 0 by decide, if_true]
     by_cases h : i < 0
     . simp only [h, if_true] <;> omega
     . simp only [h, if_false] <;> omega
theorem slicePick_cut (its : List Value) (lo hi : Option Int) : slicePick its.toArray lo hi none = ((its.drop (HT.sIx its.length 0 lo)).take (HT.sIx its.length its.length hi - HT.sIx its.length 0 lo)).toArray := by
 obtain ⟨h1, h2, h3⟩ := slice_bounds lo hi its.toArray.size
 unfold slicePick
 rw [h1, h2, h3]
 simp only [sliceRange_one, pick_run, List.size_toArray] <;> rfl
def rSlL (K : PySem.W.Frag) : V -> Option Int -> Option Int -> Hp -> VK -> Prop := fun x lo hi H Q => ∃ a xs, x = .ref a /\ SqL K H a xs /\ ∀ p, H p = none -> Q (.ref p) (upd H p (.lst (cutV xs lo hi)))
theorem sl_list : SlR X (rSlL X.K) := by
 intro pins s σ H x v vl vu lo hi sl Q I rx hs pl pu h
 obtain ⟨a, xs, rfl, hx, q⟩ := h
 cases rx
 obtain ⟨its, r, ht, hz⟩ := I.list hx
 have hlen := r.length
 refine ⟨"list", _, slot_list_getitem.lookup, ht.isList.typeIs, ?_⟩
 refine wpAny_getItem_list_slice ht.isList hs pl pu .none (by simp) ?_ (by rw [List.size_toArray] <;> omega)
 rw [slicePick_cut, <- hlen]
 refine ⟨.ref s.heap.objs.size, _, I.laid (t' := s.toks) (o := .lst (cutV xs lo hi)) (fun b ob q => Heap.get?_push_of_some _ q) (Nat.le_refl _) ?_, rfl, q _ (I.hok.fresh (Nat.le_refl _))⟩
 exact ⟨Nat.le_trans (cutV_length xs lo hi) hz, _, 0, (r.drop (HT.sIx xs.length 0 lo)).take (HT.sIx xs.length xs.length hi - HT.sIx xs.length 0 lo), Heap.get?_push_size _ rfl⟩
def flatV : V -> Bool
 | .non => true
 | .bl _ => true
 | .int _ => true
 | .str _ => true
 | _ => false
def eqV : V -> V -> Bool
 | .non, .non => true
 | .bl a, .bl b => a == b
 | .bl a, .int b => (if a then 1 else 0) == b
 | .int a, .bl b => a == (if b then 1 else 0)
 | .int a, .int b => a == b
 | .str a, .str b => a == b
 | _, _ => false
theorem eqAt_V {A : Around} {s : Shared} {y x : V} {u v : Value} (ry : RelV y u) (rx : RelV x v) (fy : flatV y = true) (fx : flatV x = true) : SeqAt.EqAt A s u v (eqV y x) := by
 cases y with
 | non =>
   cases ry
   cases x with
   | non => cases rx; exact SeqAt.EqAt.same _
   | bl b => cases rx; exact SeqAt.EqAt.none_bool b
   | int b => obtain ⟨t, rfl⟩ := rx; exact SeqAt.EqAt.none_int b t
   | str b => obtain ⟨t, rfl⟩ := rx; exact SeqAt.EqAt.none_str b t
   | _ => exact absurd (show false = true from fx) Bool.false_ne_true
 | bl a =>
   cases ry
   cases x with
   | non => cases rx; exact SeqAt.EqAt.bool_none a
   | bl b => cases rx; exact SeqAt.EqAt.bool_bool a b
   | int b => obtain ⟨t, rfl⟩ := rx; exact SeqAt.EqAt.bool_int a b t
   | str b => obtain ⟨t, rfl⟩ := rx; exact SeqAt.EqAt.bool_str a b t
   | _ => exact absurd (show false = true from fx) Bool.false_ne_true
 | int a =>
   obtain ⟨t', rfl⟩ := ry
   cases x with
   | non => cases rx; exact SeqAt.EqAt.int_none a t'
   | bl b => cases rx; exact SeqAt.EqAt.int_bool a t' b
   | int b => obtain ⟨t, rfl⟩ := rx; exact SeqAt.EqAt.int_int a t' b t
   | str b => obtain ⟨t, rfl⟩ := rx; exact SeqAt.EqAt.int_str a t' b t
   | _ => exact absurd (show false = true from fx) Bool.false_ne_true
 | str a =>
   obtain ⟨t', rfl⟩ := ry
   cases x with
   | non => cases rx; exact SeqAt.EqAt.str_none a t'
   | bl b => cases rx; exact SeqAt.EqAt.str_bool a t' b
   | int b => obtain ⟨t, rfl⟩ := rx; exact SeqAt.EqAt.str_int a t' b t
   | str b => obtain ⟨t, rfl⟩ := rx; exact SeqAt.EqAt.str_str a t' b t
   | _ => exact absurd (show false = true from fx) Bool.false_ne_true
 | _ => exact absurd (show false = true from fy) Bool.false_ne_true
def eqU (x : V) (u : Value) : Bool := match u with
 | .none => eqV .non x
 | .bool b => eqV (.bl b) x
 | .int i _ => eqV (.int i) x
 | .str z _ => eqV (.str z) x
 | _ => false
theorem eqU_of {x y : V} {u : Value} (r : RelV y u) (f : flatV y = true) : eqU x u = eqV y x := by
 cases y with
 | non => cases r; rfl
 | bl b => cases r; rfl
 | int i => obtain ⟨t, rfl⟩ := r; rfl
 | str z => obtain ⟨t, rfl⟩ := r; rfl
 | _ => exact absurd (show false = true from f) Bool.false_ne_true
theorem any_eqU {x : V} : ∀ {xs : List V} {us : List Value}, Vals xs us -> xs.all flatV = true -> us.any (eqU x) = xs.any fun y => eqV y x
 | _, _, .nil, _ => rfl
 | y :: xs, u :: us, .cons r t, f => by
   rw [List.all_cons, Bool.and_eq_true] at f
   rw [List.any_cons, List.any_cons, eqU_of r f.1, any_eqU t f.2]
theorem mem_eqAt {A : Around} {s : Shared} {x : V} {v : Value} (rx : RelV x v) (fx : flatV x = true) : ∀ {xs : List V} {us : List Value}, Vals xs us -> xs.all flatV = true -> ∀ u ∈ us, SeqAt.EqAt A s u v (eqU x u)
 | _, _, .nil, _ => fun u hu => by cases hu
 | y :: xs, u :: us, .cons r t, f => fun u' hu => by
   rw [List.all_cons, Bool.and_eq_true] at f
   rcases List.mem_cons.mp hu with rfl | hu
   . rw [eqU_of r f.1]; exact eqAt_V r rx f.1 fx
   . exact mem_eqAt rx fx t f.2 u' hu
def inV (x : V) (xs : List V) : Bool := xs.any fun y => eqV y x
def rIn (K : PySem.W.Frag) (neg : Bool) : R2 := fun x y H Q => ∃ p xs, y = .ref p /\ (SqL K H p xs \/ SqT K H p xs) /\ flatV x = true /\ xs.all flatV = true /\ Q (.bl (if neg then !inV x xs else inV x xs)) H
theorem op_in_seq : OpR X (compareOp .In) (rIn X.K false) := by
 intro pins s σ H x y v u Q I rx ry h
 obtain ⟨p, xs, rfl, hq, fx, fs, q⟩ := h
 cases ry
 rcases hq with hq | hq
 . obtain ⟨its, r, pl, hz⟩ := I.list hq
   refine SeqAt.in_listAt (eqU x) pl.isList (fun w hw => mem_eqAt rx fx r fs w (by simpa using hw)) ⟨.bl _, H, I, rfl, ?_⟩
   rw [show its.toArray.any (eqU x) = its.any (eqU x) by simp, any_eqU r fs]
   exact q
 . obtain ⟨its, r, pl, hz⟩ := I.tuple hq
   refine SeqAt.in_tupleAt (eqU x) pl (fun w hw => mem_eqAt rx fx r fs w (by simpa using hw)) ⟨.bl _, H, I, rfl, ?_⟩
   rw [show its.toArray.any (eqU x) = its.any (eqU x) by simp, any_eqU r fs]
   exact q
theorem op_notIn_seq : OpR X (compareOp .NotIn) (rIn X.K true) := by
 intro pins s σ H x y v u Q I rx ry h
 obtain ⟨p, xs, rfl, hq, fx, fs, q⟩ := h
 cases ry
 rcases hq with hq | hq
 . obtain ⟨its, r, pl, hz⟩ := I.list hq
   refine SeqAt.notIn_listAt (eqU x) pl.isList (fun w hw => mem_eqAt rx fx r fs w (by simpa using hw)) ⟨.bl _, H, I, rfl, ?_⟩
   rw [show its.toArray.any (eqU x) = its.any (eqU x) by simp, any_eqU r fs]
   exact q
 . obtain ⟨its, r, pl, hz⟩ := I.tuple hq
   refine SeqAt.notIn_tupleAt (eqU x) pl (fun w hw => mem_eqAt rx fx r fs w (by simpa using hw)) ⟨.bl _, H, I, rfl, ?_⟩
   rw [show its.toArray.any (eqU x) = its.any (eqU x) by simp, any_eqU r fs]
   exact q
theorem call_len_seq : Xw X (.builtin "len") (fun xs H Q => ∃ p ys, xs = [.ref p] /\ (SqL X.K H p ys \/ SqT X.K H p ys) /\ Q (.int ys.length) H) := by
 intro pins s σ H xs us Q I r h
 obtain ⟨p, ys, rfl, hq, q⟩ := h
 obtain ⟨u, rfl, rx⟩ := vals1 r
 cases rx
 have hn := line63
 rcases hq with hq | hq
 . obtain ⟨its, r', pl, hz⟩ := I.list hq
   have hlen := r'.length
   exact Calls.call_len_list pl.isList (by simp only [List.size_toArray] <;> omega) ⟨.int ys.length, H, I.tok _, ⟨s.toks + 1, by rw [List.size_toArray, hlen]⟩, q⟩
 . obtain ⟨its, r', pl, hz⟩ := I.tuple hq
   have hlen := r'.length
   exact len_tuple pl (by simp only [List.size_toArray] <;> omega) ⟨.int ys.length, H, I.tok _, ⟨s.toks + 1, by rw [List.size_toArray, hlen]⟩, q⟩
theorem call_list_of : Xw X (.type "list") (fun xs H Q => ∃ p ys, xs = [.ref p] /\ (SqL X.K H p ys \/ SqT X.K H p ys) /\ ∀ l, H l = none -> Q (.ref l) (upd H l (.lst ys))) := by
 intro pins s σ H xs us Q I r h
 obtain ⟨p, ys, rfl, hq, q⟩ := h
 obtain ⟨u, rfl, rx⟩ := vals1 r
 cases rx
 have fin : ∀ (its : List Value), Vals ys its -> ys.length <= sizeLine -> ∀ (h' : Heap) (c' : Nat), (∀ b o', s.heap.get? b = some o' -> h'.get? b = some o') ->
     h'.get? s.heap.objs.size = some { cls := .type "list", dict := none, data := .seq its.toArray c', slots := #[] } -> EP X pins σ Q (.ref s.heap.objs.size) { s with heap := h' } := fun its r' hz h' c' kp e =>
   ⟨.ref s.heap.objs.size, _, I.laid (t' := s.toks) kp (Nat.le_refl _) (show ObjOk X.prog X.w _ h' _ (.lst ys) from ⟨hz, its, c', r', e⟩), rfl, q _ (I.hok.fresh (Nat.le_refl _))⟩
 rcases hq with hq | hq
 . obtain ⟨its, r', pl, hz⟩ := I.list hq
   have hlen := r'.length
   obtain ⟨o, ho, hc, n, hd⟩ := pl.isList
   exact call_list_seq p (.inl rfl) ho hc hd (fun h' c' kp e => fin its r' hz h' c' kp e) (by simp only [List.size_toArray] <;> omega)
 . obtain ⟨its, r', pl, hz⟩ := I.tuple hq
   have hlen := r'.length
   obtain ⟨o, ho, hc, n, hd⟩ := pl
   exact call_list_seq p (.inr rfl) ho hc hd (fun h' c' kp e => fin its r' hz h' c' kp e) (by simp only [List.size_toArray] <;> omega)
def tyV (K : PySem.W.Frag) (T : String) (x : V) (H : Hp) : Prop := match x with
 | .str _ => T = "str"
 | .int _ => T = "int"
 | .ref p => (T = "list" /\ ∃ xs, SqL K H p xs) \/ (T = "tuple" /\ ∃ o, K.lookup p = some o /\ o.cls = .type "tuple" /\ o.dict = none) \/
     (T = "dict" /\ ((∃ kvs, H p = some (.dK kvs)) \/ ∃ kvs, H p = some (.dT kvs))) \/ (T = "set" /\ ∃ S n, H p = some (.set S n))
 | _ => False
theorem tyV_is {pins : List (Addr × Obj)} {σ : St} {H : Hp} {s : Shared} {T : String} {x : V} {v : Value} (I : Inv X pins σ H s) (r : RelV x v) (ty : tyV X.K T x H) :
   s.TypeIs v T /\ ∀ a, v = .ref a -> ∃ ob, s.heap.get? a = some ob /\ ob.dict = none := by
 cases x with
 | str z =>
   obtain ⟨t, rfl⟩ := r
   cases (show T = "str" from ty)
   exact ⟨typeIs_str s z t, fun _ e => nomatch e⟩
 | int i =>
   obtain ⟨t, rfl⟩ := r
   cases (show T = "int" from ty)
   exact ⟨typeIs_int s i t, fun _ e => nomatch e⟩
 | ref p =>
   cases r
   rcases ty with ⟨rfl, xs, hq⟩ | ⟨rfl, o, hk, hc, hd⟩ | ⟨rfl, hk⟩ | ⟨rfl, S, n, hk⟩
   . obtain ⟨its, _, pl, _⟩ := I.list hq
     refine ⟨pl.isList.typeIs, fun a e => ?_⟩
     cases e
     obtain ⟨o, n, e, c, hd, _⟩ := pl
     exact ⟨o, e, hd⟩
   . refine ⟨⟨o, I.kIn p o hk, hc⟩, fun a e => ?_⟩
     cases e
     exact ⟨o, I.kIn _ o hk, hd⟩
   . have z : ∃ o, s.heap.get? p = some o /\ o.ExactDict := by
       rcases hk with ⟨kvs, hk⟩ | ⟨kvs, hk⟩
       . obtain ⟨_, _, _, _, o, _, _, e, ex, _⟩ := I.hok p _ hk
         exact ⟨o, e, ex⟩
       . obtain ⟨_, _, _, _, o, _, _, e, ex, _⟩ := I.hok p _ hk
         exact ⟨o, e, ex⟩
     obtain ⟨o, e, ex⟩ := z
     refine ⟨⟨o, e, ex.1⟩, fun a e2 => ?_⟩
     cases e2
     exact ⟨o, e, ex.2.1⟩
   . obtain ⟨o, _, _, _, e, ex, _⟩ := I.hok p _ hk
     refine ⟨⟨o, e, ex.1⟩, fun a e2 => ?_⟩
     cases e2
     exact ⟨o, e, ex.2.1⟩
 | _ => exact False.elim ty
def tBM0 (K : PySem.W.Frag) (T : String) (r : V -> List V -> Hp -> VK -> Prop) (to : TE) : TE := fun σ H Q => to σ H fun x H1 => tyV K T x H1 /\ r x [] H1 Q
def tBM (K : PySem.W.Frag) (T : String) (r : V -> List V -> Hp -> VK -> Prop) (to : TE) (t : TA) : TE := fun σ H Q => to σ H fun x H1 => tyV K T x H1 /\ t σ H1 fun xs H2 => r x xs H2 Q
variable {o e : Expr} {es : List Expr} {to : TE} {t : TA} {name : Str} {apos cpos : Pos} {T id : String} {r : V -> List V -> Hp -> VK -> Prop}
theorem pe_bm0 (pa : PlainAttrs T) (slot : Slot T name id) (hty : typeOf (.builtin id) = pure (.type "method_descriptor")) (hm : MtR X id r) (ho : PE X o to)
   (hbase : attributeBase o name X.env (eval o X.env) = eval o X.env := by rfl) (hline : (apos.endLine == cpos.line) = true := by rfl) : PE X (.Call (.Attribute o name apos) [] [] cpos) (tBM0 X.K T r to) := by
 intro pins s σ H Q I h
 refine wpAny_Call_method0_late hbase hline (thn (ho pins s σ H _ I h) fun v s1 ⟨x, H1, I1, r1, ty, q1⟩ => ?_)
 obtain ⟨h1, h2⟩ := tyV_is I1 r1 ty
 exact ⟨T, id, pa, slot, hty, h1, h2, Calls.callWith_builtin rfl (PySem.evalArgs_none (hm pins s1 σ H1 x [] v [] Q I1 r1 .nil q1))⟩
theorem Uw (pa : PlainAttrs T) (slot : Slot T name id) (hty : typeOf (.builtin id) = pure (.type "method_descriptor")) (hm : MtR X id r) (ho : PE X o to) (ha : PA X (e :: es) t)
   (hbase : attributeBase o name X.env (eval o X.env) = eval o X.env := by rfl)
   (hfew : ((backTo cpos (starEach (e :: es) X.env)).all (fun x => !x.1) && (backToKw cpos (keywordEach [] X.env)).all (fun x => x.1.isSome)
     && decide ((e :: es).length + ([] : List Keyword).length + (if ([] : List Keyword).isEmpty then 0 else 1) < 30)) = true := by rfl)
   (hline : (apos.endLine == cpos.line) = true := by rfl) (hs : starEach (e :: es) X.env = (false, eval e X.env) :: starEach es X.env := by rfl) (hplain : (backTo cpos (starEach es X.env)).any (·.1) = false := by rfl) :
   PE X (.Call (.Attribute o name apos) (e :: es) [] cpos) (tBM X.K T r to t) := by
 intro pins s σ H Q I h
 refine wpAny_Call_method_late hbase hfew hline rfl (thn (ho pins s σ H _ I h) fun v s1 ⟨x, H1, I1, r1, ty, q1⟩ => ?_)
 obtain ⟨h1, h2⟩ := tyV_is I1 r1 ty
 refine ⟨T, id, pa, slot, hty, h1, h2, ?_⟩
 have hA := ha cpos pins s1 σ H1 _ I1 q1
 rw [hs] at hA ⊢
 refine Calls.callWith_builtin (by show (false || (backTo cpos (starEach es X.env)).any (·.1)) = false; rw [hplain] <;> rfl) (Calls.evalArgs_plain ?_)
 exact thn hA fun us s2 ⟨vs, H2, I2, r2, q2⟩ => hm pins s2 σ H2 x vs v us Q I2 r1 r2 q2
end
end L2
namespace L2
open PySem PySem.Spec PyProof.Rows
def MtM (X : Cx) (id : String) (r : V -> List V -> Hp -> VK -> Prop) : Prop :=
 ∀ (pins : List (Addr × Obj)) (s : Shared) (σ : St) (H : Hp) (x : V) (xs : List V) (v : Value) (us : List Value) (Q : VK), Inv X pins σ H s -> RelV x v -> Vals xs us -> r x xs H Q ->
   wpAny (model X.prog X.w) X.A (call (.builtin id) (v :: us)) (EP X pins σ Q) X.xe s
theorem Vals.one : ∀ {x : V} {us : List Value}, Vals [x] us -> ∃ u, us = [u] /\ RelV x u
 | _, _, .cons r .nil => ⟨_, rfl, r⟩
theorem Vals.zero : ∀ {us : List Value}, Vals [] us -> us = []
 | _, .nil => rfl
theorem Vals.dropLast {xs : List V} {us : List Value} (h : Vals xs us) : Vals xs.dropLast us.dropLast := by
 induction h with
 | nil => exact .nil
 | cons r t ih =>
   cases t with
   | nil => exact .nil
   | cons q t' => exact .cons r ih
theorem Vals.reverse {xs : List V} {us : List Value} (h : Vals xs us) : Vals xs.reverse us.reverse := by
 induction h with
 | nil => exact .nil
 | cons r t ih => rw [List.reverse_cons, List.reverse_cons]; exact Vals.append ih (.cons r .nil)
theorem erase_last {α : Type} (l : List α) : l.eraseIdx (l.length - 1) = l.dropLast := by
 induction l with
 | nil => rfl
 | cons a r ih =>
   cases r with
   | nil => rfl
   | cons b r =>
     have e : (a :: b :: r).length - 1 = ((b :: r).length - 1) + 1 := by
       have h1 : (a :: b :: r).length = r.length + 2 := rfl
       have h2 : (b :: r).length = r.length + 1 := rfl
       omega
     rw [e, List.eraseIdx_cons_succ, ih]
     all_goals rfl
section
variable {X : Cx} {pins : List (Addr × Obj)} {σ : St} {H : Hp} {s : Shared} {l b : Addr} {xs ys zs : List V}
theorem Inv.lset {its its' : List Value} {n : Nat} {f : Array Value -> Array Value} {t' : Nat} (I : Inv X pins σ H s) (hH : H l = some (.lst xs))
   (e : s.heap.get? l = some { cls := .type "list", data := .seq its.toArray n }) (hf : f its.toArray = its'.toArray) (hv : Vals ys its') (hz : ys.length <= sizeLine) :
   Inv X pins σ (upd H l (.lst ys)) { s with heap := s.heap.update l (Obj.mapSeq f), toks := t' } := by
 have q := PySem.IsL.update e f
 rw [hf] at q
 refine I.write (x := l) (e := l) (by rw [hH]; exact trivial) (.inl rfl) (fun b' u hb hu => (Heap.get?_update_other s.heap (Obj.mapSeq f) (Ne.symm hb)).trans hu) ⟨_, q⟩ ?_
 exact ⟨hz, its', _, hv, q⟩
theorem Inv.lnew {its : List Value} {t' : Nat} (I : Inv X pins σ H s) (hv : Vals ys its) (hz : ys.length <= sizeLine) :
   Inv X pins σ (upd H s.heap.objs.size (.lst ys)) { s with heap := s.heap.push { cls := .type "list", data := .seq its.toArray }, toks := t' } :=
 I.laid (fun _ _ q => Heap.get?_push_of_some _ q) (Nat.le_refl _) ⟨hz, its, 0, hv, Heap.get?_push_size _ rfl⟩
theorem Inv.fresh (I : Inv X pins σ H s) : H s.heap.objs.size = none := I.hok.fresh (Nat.le_refl _)
theorem Inv.lstM (I : Inv X pins σ H s) (hH : H l = some (.lst xs)) : xs.length <= sizeLine /\ ∃ (its : List Value) (n : Nat), Vals xs its /\ xs.length = its.length /\ s.heap.get? l = some { cls := .type "list", data := .seq its.toArray n } := by
 obtain ⟨z, its, n, r, e⟩ := I.hok l _ hH
 exact ⟨z, its, n, r, r.length, e⟩
theorem notLongL {n : Nat} (h : n <= sizeLine) : Builtin.List.listTooLong n = false := by
 unfold Builtin.List.listTooLong
 exact decide_eq_false (by omega)
end
section
variable {X : Cx}
def rAppend : V -> List V -> Hp -> VK -> Prop := fun x vs H Q => ∃ l xs y, x = .ref l /\ vs = [y] /\ H l = some (.lst xs) /\ xs.length < sizeLine /\ Q .non (upd H l (.lst (xs ++ [y])))
theorem Yy : MtM X "list.append" rAppend := by
 intro pins s σ H x vs v us Q I rx rv h
 obtain ⟨l, xs, y, rfl, rfl, hH, hz, q⟩ := h
 cases rx
 obtain ⟨u, rfl, ru⟩ := rv.one
 obtain ⟨z, its, n, r, hl, e⟩ := I.lstM hH
 refine call_meets F.slot_list_append ⟨_, e, rfl⟩ F.entry_list_append (F.args_list_append_2 _ _) (PySem.list_append l its.toArray n u (by rw [List.size_toArray]; omega)) ⟨e, ?_⟩
 refine ⟨.non, _, I.lset (its' := its ++ [u]) hH e (by simp) (r.append (.cons ru .nil)) ?_, rfl, q⟩
 rw [List.length_append, List.length_singleton]
 omega
def rExtend : V -> List V -> Hp -> VK -> Prop := fun x vs H Q => ∃ l b xs zs, x = .ref l /\ vs = [.ref b] /\ H l = some (.lst xs) /\ H b = some (.lst zs) /\ xs.length + zs.length <= sizeLine /\ Q .non (upd H l (.lst (xs ++ zs)))
theorem mt_extend : MtM X "list.extend" rExtend := by
 intro pins s σ H x vs v us Q I rx rv h
 obtain ⟨l, b, xs, zs, rfl, rfl, hH, hB, hz, q⟩ := h
 cases rx
 obtain ⟨u, rfl, ru⟩ := rv.one
 cases ru
 obtain ⟨z, its, n, r, hl, e⟩ := I.lstM hH
 obtain ⟨z2, its2, n2, r2, hl2, e2⟩ := I.lstM hB
 have hsz : its.toArray.size + its2.toArray.size <= sizeLine := by rw [List.size_toArray, List.size_toArray]; omega
 have hlong : ¬ (!its.toArray.isEmpty && Builtin.List.listTooLong (its.toArray.size + its2.toArray.size)) = true := by
   rw [notLongL hsz, Bool.and_false]
   exact Bool.false_ne_true
 refine call_meets F.slot_list_extend ⟨_, e, rfl⟩ F.entry_list_extend (F.args_list_extend_2 _ _)
   (AutoSeq1.list_extend_list_list_0 l its.toArray n b its2.toArray n2 hlong (by rw [List.size_toArray]; omega) (by omega)) ⟨e, e2, ?_⟩
 refine ⟨.non, _, I.lset (its' := its ++ its2) hH e (by simp) (r.append r2) ?_, rfl, q⟩
 rw [List.length_append]
 omega
def rPop : V -> List V -> Hp -> VK -> Prop := fun x vs H Q => ∃ l xs y, x = .ref l /\ vs = [] /\ H l = some (.lst xs) /\ xs[xs.length - 1]? = some y /\ Q y (upd H l (.lst xs.dropLast))
theorem mt_pop : MtM X "list.pop" rPop := by
 intro pins s σ H x vs v us Q I rx rv h
 obtain ⟨l, xs, y, rfl, rfl, hH, hy, q⟩ := h
 cases rx
 have hus := rv.zero
 subst hus
 obtain ⟨z, its, n, r, hl, e⟩ := I.lstM hH
 obtain ⟨u, hu, ru⟩ := r.get hy
 have hy' : its.toArray[its.toArray.size - 1]? = some u := by
   show its.toArray[its.length - 1]? = some u
   rw [<- Array.getElem?_toList, <- hl]
   exact hu
 refine call_meets F.slot_list_pop ⟨_, e, rfl⟩ F.entry_list_pop (F.args_list_pop_1 _) (MeetsSeq.list_pop_last l its.toArray n u hy' (by rw [List.size_toArray]; omega)) ⟨e, ?_⟩
 refine ⟨y, _, I.lset (its' := its.dropLast) hH e ?_ r.dropLast ?_, ru, q⟩
 . show its.toArray.eraseIdxIfInBounds (its.toArray.size - 1) = its.dropLast.toArray
   rw [List.size_toArray, List.eraseIdxIfInBounds_toArray, erase_last]
 . rw [List.length_dropLast]
   omega
def rReverse : V -> List V -> Hp -> VK -> Prop := fun x vs H Q => ∃ l xs, x = .ref l /\ vs = [] /\ H l = some (.lst xs) /\ Q .non (upd H l (.lst xs.reverse))
theorem mt_reverse : MtM X "list.reverse" rReverse := by
 intro pins s σ H x vs v us Q I rx rv h
 obtain ⟨l, xs, rfl, rfl, hH, q⟩ := h
 cases rx
 have hus := rv.zero
 subst hus
 obtain ⟨z, its, n, r, hl, e⟩ := I.lstM hH
 refine call_meets F.slot_list_reverse ⟨_, e, rfl⟩ F.entry_list_reverse (F.args_list_reverse_1 _) (AutoSeq1.list_reverse_list_0 l its.toArray n (by rw [List.size_toArray]; omega)) ⟨e, ?_⟩
 refine ⟨.non, _, I.lset (its' := its.reverse) hH e (by simp) r.reverse ?_, rfl, q⟩
 rw [List.length_reverse]
 omega
def rCat : R2 := fun x y H Q => ∃ l b xs zs, x = .ref l /\ y = .ref b /\ H l = some (.lst xs) /\ H b = some (.lst zs) /\ xs.length + zs.length <= sizeLine /\ ∀ p, H p = none -> Q (.ref p) (upd H p (.lst (xs ++ zs)))
theorem op_cat : OpR X (binaryOp .Add) rCat := by
 intro pins s σ H x y v u Q I rx ry h
 obtain ⟨l, b, xs, zs, rfl, rfl, hH, hB, hz, q⟩ := h
 cases rx
 cases ry
 obtain ⟨z, its, n, r, hl, e⟩ := I.lstM hH
 obtain ⟨z2, its2, n2, r2, hl2, e2⟩ := I.lstM hB
 refine PySem.P.add_list e e2 ?_ (by rw [List.size_toArray, List.size_toArray]; omega)
 have ea : its.toArray ++ its2.toArray = (its ++ its2).toArray := by simp
 rw [ea]
 exact ⟨.ref _, _, I.lnew (t' := s.toks) (r.append r2) (by rw [List.length_append]; omega), rfl, q _ I.fresh⟩
end
section
variable {prog : Program} {w : World} {A : Around} {E : Value -> Shared -> Prop} {s : Shared}
set_option maxRecDepth 100000 in
end
section
variable {X : Cx}
end
end L2
namespace L2
open PySem PySem.Spec PyProof.Rows
theorem Vals.ints : ∀ {ns : List Int} {us : List Value}, Vals (ns.map V.int) us -> IntsAre us ns
 | [], us, h => by
   rw [List.map_nil] at h
   cases h
   exact IntsAre.nil
 | n :: ns, us, h => by
   rw [List.map_cons] at h
   cases h with
   | cons r t =>
     obtain ⟨k, rfl⟩ := r
     exact IntsAre.cons n k (Vals.ints t)
theorem vals_of_ints : ∀ {us : List Value} {ns : List Int}, IntsAre us ns -> Vals (ns.map V.int) us
 | _, _, .nil => by rw [List.map_nil]; exact Paired.nil
 | _, _, .cons n t h => by rw [List.map_cons]; exact Paired.cons (show RelV (V.int n) (Value.int n t) from ⟨t, rfl⟩) (vals_of_ints h)
theorem Vals.bls : ∀ {bs : List Bool} {us : List Value}, Vals (bs.map V.bl) us -> us = bs.map Value.bool
 | [], us, h => by
   rw [List.map_nil] at h
   cases h
   rfl
 | b :: bs, us, h => by
   rw [List.map_cons] at h
   cases h with
   | cons r t =>
     cases r
     rw [Vals.bls t, List.map_cons]
theorem Vals.ref1 {a : Addr} {us : List Value} (r : Vals [V.ref a] us) : us = [Value.ref a] := by
 cases r with
 | cons r t =>
   cases t
   cases r
   rfl
section
variable {prog : Program} {w : World} {A : Around} {E : Value -> Shared -> Prop} {s : Shared} {l : Addr} {its : List Value} {ns : List Int} {Q : Value -> Shared -> Prop}
theorem max_raw (hh : A.handled = none) (hl : s.heap.IsList l its.toArray) (hi : IntsAre its ns) (hne : 0 < ns.length)
   (h : ∀ h' tk M t', (∀ b o, s.heap.get? b = some o -> h'.get? b = some o) -> M ∈ ns -> (∀ a, a ∈ ns -> a <= M) -> Q (.int M t') { s with heap := h', toks := tk }) : wpAny (model prog w) A (call (.builtin "max") [.ref l]) Q E s := by
 obtain ⟨xs, e⟩ := hi.allInts.items
 have hn : numsOf (intItems xs).toList = ns := by rw [<- e]; exact hi.numsOf
 rw [nums_intItems] at hn
 subst hn
 rw [e] at hl
 have hsz : 0 < xs.size := by simpa using hne
 refine PySem.max_intList hh hl hsz fun v h' tk hv hk => ?_
 obtain ⟨t, rfl⟩ := intItems_at hv
 obtain ⟨h1, h2⟩ := argBest_gt (numAt xs) (xs.size - 1)
 refine h h' tk _ t hk ?_ fun a ha => ?_
 . rw [numAt_eq]; exact PySem.getD_mem (by rw [List.length_map, Array.length_toList]; omega)
 . obtain ⟨j, hj, rfl⟩ := mem_getD ha
   rw [List.length_map, Array.length_toList] at hj
   rw [<- numAt_eq]; exact h2 j (by omega)
theorem min_raw (hh : A.handled = none) (hl : s.heap.IsList l its.toArray) (hi : IntsAre its ns) (hne : 0 < ns.length)
   (h : ∀ h' tk M t', (∀ b o, s.heap.get? b = some o -> h'.get? b = some o) -> M ∈ ns -> (∀ a, a ∈ ns -> M <= a) -> Q (.int M t') { s with heap := h', toks := tk }) : wpAny (model prog w) A (call (.builtin "min") [.ref l]) Q E s := by
 obtain ⟨xs, e⟩ := hi.allInts.items
 have hn : numsOf (intItems xs).toList = ns := by rw [<- e]; exact hi.numsOf
 rw [nums_intItems] at hn
 subst hn
 rw [e] at hl
 have hsz : 0 < xs.size := by simpa using hne
 refine PySem.min_intList hh hl hsz fun v h' tk hv hk => ?_
 obtain ⟨t, rfl⟩ := intItems_at hv
 obtain ⟨h1, h2⟩ := argBest_lt (numAt xs) (xs.size - 1)
 refine h h' tk _ t hk ?_ fun a ha => ?_
 . rw [numAt_eq]; exact PySem.getD_mem (by rw [List.length_map, Array.length_toList]; omega)
 . obtain ⟨j, hj, rfl⟩ := mem_getD ha
   rw [List.length_map, Array.length_toList] at hj
   rw [<- numAt_eq]; exact h2 j (by omega)
end
section
variable {X : Cx}
def rMin (K : PySem.W.Frag) : List V -> Hp -> VK -> Prop := fun vs H Q => ∃ (a : Addr) (ns : List Int), vs = [V.ref a] /\ SqL K H a (ns.map V.int) /\ 0 < ns.length /\ ∀ m, m ∈ ns -> (∀ y, y ∈ ns -> m <= y) -> Q (.int m) H
theorem cr_min (hc : X.calm = true) : Xw X (.builtin "min") (rMin X.K) := by
 intro pins s σ H vs us Q I r h
 obtain ⟨a, ns, rfl, hs, hne, q⟩ := h
 obtain ⟨its, rv, hl, _⟩ := I.list hs
 rw [Vals.ref1 r]
 exact min_raw (I.ok.hd hc) hl.isList rv.ints hne fun h' tk m t' hk h1 h2 => ⟨.int _, H, I.kept hk, ⟨_, rfl⟩, q m h1 h2⟩
def rSorted (K : PySem.W.Frag) : List V -> Hp -> VK -> Prop := fun vs H Q => ∃ (a : Addr) (ns : List Int), vs = [V.ref a] /\ SqL K H a (ns.map V.int) /\ ns.length < 64 /\
 ∀ (ns' : List Int) (p : Addr), ns'.Perm ns -> ns'.Pairwise (· <= ·) -> H p = none -> Q (.ref p) (upd H p (.lst (ns'.map V.int)))
theorem small64 {n : Nat} (h : n < 64) : n <= sizeLine := by rw [sizeLine_eq]; omega
theorem cr_sorted : Xw X (.builtin "sorted") (rSorted X.K) := by
 intro pins s σ H vs us Q I r h
 obtain ⟨a, ns, rfl, hs, h64, q⟩ := h
 obtain ⟨its, rv, hl, _⟩ := I.list hs
 rw [Vals.ref1 r]
 have hi := rv.ints
 refine PyProof.Rows.sorted_ints hl.isList hi (by rw [hi.length]; exact h64) fun out ns' h1 h2 h3 => ?_
 obtain ⟨ep, he'⟩ := PyProof.Rows.sortedAll_at s.heap its out
 have hlen : (ns'.map V.int).length <= sizeLine := by rw [List.length_map, h2.length_eq]; exact small64 h64
 exact ⟨.ref _, upd H (s.heap.objs.size + 1) (.lst (ns'.map V.int)), I.laid (t' := s.toks) (fun _ _ => PyProof.Rows.sortedAll_old) (Nat.le_succ _) ⟨hlen, out.toList, ep, vals_of_ints h1, he'⟩, rfl, q ns' _ h2 h3 (I.hok.fresh (Nat.le_succ _))⟩
end
section
variable {X : Cx}
def rIndex (K : PySem.W.Frag) : V -> List V -> Hp -> VK -> Prop := fun x xs H Q => ∃ (a : Addr) (ys : List V) (y : V) (j : Nat) (z : V), x = V.ref a /\ xs = [y] /\ SqL K H a ys /\ flatV y = true /\ ys.all flatV = true /\ ys[j]? = some z /\ eqV z y = true /\
 (∀ (m : Nat) (z' : V), m < j -> ys[m]? = some z' -> eqV z' y = false) /\ Q (.int (j : Nat)) H
theorem flat_at {ys : List V} (f : ys.all flatV = true) {j : Nat} {z : V} (h : ys[j]? = some z) : flatV z = true := List.all_eq_true.mp f z (List.mem_of_getElem? h)
theorem mt_index : MtR X "list.index" (rIndex X.K) := by
 intro pins s σ H x xs v us Q I rx rxs h
 obtain ⟨a, ys, y, j, z, rfl, rfl, hs, fy, fys, hz, hzj, hno, q⟩ := h
 cases rx
 cases rxs with
 | cons ry rt =>
   rename_i uy ut
   cases rt
   obtain ⟨its, rv, ⟨⟨cls, dd, data, sl⟩, n, ho, hc, hdn, hd⟩, hlen⟩ := I.list hs
   simp only at hc hd
   subst hc hd
   obtain ⟨u, hu, ru⟩ := rv.get hz
   obtain ⟨hjl, hje⟩ := List.getElem?_eq_some_iff.mp hu
   have hvl := rv.length
   have hj : j < its.toArray.size := by simpa using hjl
   have hsl := sizeLine_eq
   refine call_meets PySem.F.slot_list_index ⟨_, ho, rfl⟩ PySem.F.entry_list_index (PySem.F.args_list_index_2 _ _)
     (SeqAt.list_indexAt a its.toArray n dd sl uy (eqU y) j hj (by omega) ?_ ?_) ⟨ho, fun u' hu' => mem_eqAt ry fy rv fys u' (by simpa using hu'), ?_⟩
   . have e1 : its.toArray[j] = u := by simpa using hje
     rw [e1, eqU_of ru (flat_at fys hz)]
     exact hzj
   . intro m hm hmj
     have hml : m < its.length := by simpa using hm
     have hmy : m < ys.length := by omega
     have hy' : ys[m]? = some ys[m] := List.getElem?_eq_getElem hmy
     obtain ⟨u2, hu2, ru2⟩ := rv.get hy'
     obtain ⟨_, hme⟩ := List.getElem?_eq_some_iff.mp hu2
     have e1 : its.toArray[m] = u2 := by simpa using hme
     rw [e1, eqU_of ru2 (flat_at fys hy')]
     exact hno m _ hmj hy'
   . exact ⟨.int (j : Nat), H, I.tok _, ⟨_, rfl⟩, q⟩
end
section
variable {X : Cx}
end
theorem iter_any {prog : Program} {w : World} {A : Around} {E : Value -> Shared -> Prop} {s : Shared} {l : Addr} {items : Array Value} {Q : Value -> Shared -> Prop} (hl : s.heap.IsList l items)
   (h : ∀ s₂ : Shared, s₂ = { s with heap := s.heap.push { cls := .type "list_iterator", data := .fields #[.ref l, .int 0 0] } } ->
     (s₂.heap.IsListIter s.heap.objs.size l 0 /\ s₂.heap.IsList l items) -> l ≠ s.heap.objs.size -> Q (.ref s.heap.objs.size) s₂) : wpAny (model prog w) A (pyIter (.ref l)) Q E s := by
 have hlt : l < s.heap.objs.size := by obtain ⟨_, e, _⟩ := hl; exact Heap.lt_size e
 exact wpAny_pyIter_list hl (h _ rfl ⟨⟨_, Heap.get?_push_size _ rfl, rfl, rfl⟩, hl.push _⟩ (Nat.ne_of_lt hlt))
theorem truth_bools {prog : Program} {w : World} {A : Around} {bs : List Bool} {its : List Value} (e : its = bs.map Value.bool) :
   TruthOf prog w A (fun i v => its.toArray[i]? = some v) (fun i => bs.getD i false) := fun i v s Q E hv hq => by
 have hv' : its[i]? = some v := by simpa using hv
 rw [e, List.getElem?_map] at hv'
 obtain ⟨b, hb, rfl⟩ := Option.map_eq_some_iff.mp hv'
 have hg : bs.getD i false = b := by rw [List.getD_eq_getElem?_getD, hb] <;> rfl
 have hq' : Q (bs.getD i false) s := hq
 rw [hg] at hq'
 exact wpAny_truthy_bool hq'
theorem any_range : ∀ bs : List Bool, (List.range bs.length).any (fun i => bs.getD i false) = bs.any id
 | [] => rfl
 | b :: bs => by
   rw [List.length_cons, List.range_succ_eq_map, List.any_cons, List.any_map, List.any_cons, <- any_range bs]
   all_goals rfl
theorem all_range : ∀ bs : List Bool, (List.range bs.length).all (fun i => bs.getD i false) = bs.all id
 | [] => rfl
 | b :: bs => by
   rw [List.length_cons, List.range_succ_eq_map, List.all_cons, List.all_map, List.all_cons, <- all_range bs]
   all_goals rfl
section
variable {X : Cx}
def rAny (K : PySem.W.Frag) : List V -> Hp -> VK -> Prop := fun vs H Q => ∃ (a : Addr) (bs : List Bool), vs = [V.ref a] /\ SqL K H a (bs.map V.bl) /\ Q (.bl (bs.any id)) H
def rAll (K : PySem.W.Frag) : List V -> Hp -> VK -> Prop := fun vs H Q => ∃ (a : Addr) (bs : List Bool), vs = [V.ref a] /\ SqL K H a (bs.map V.bl) /\ Q (.bl (bs.all id)) H
theorem cr_any (hc : X.calm = true) : Xw X (.builtin "any") (rAny X.K) := by
 intro pins s σ H vs us Q I r h
 obtain ⟨a, bs, rfl, hs, q⟩ := h
 obtain ⟨its, rv, hl, _⟩ := I.list hs
 rw [Vals.ref1 r]
 have hb := rv.bls
 refine call_any_walk (iter_any hl.isList fun s₂ e2 st hne => ?_)
 subst e2
 refine ⟨_, _, _, _, _, _, _, rfl, Walks.list (A := X.A.in1) (I.ok.hd hc) _ a hne its.toArray, st, truth_bools hb, fun h' tk hk => ?_⟩
 refine ⟨.bl _, H, I.kept fun b o eo => hk b o (fun hmem => ?_) (Heap.get?_push_of_some _ eo), ?_, q⟩
 . rcases List.mem_cons.mp hmem with e1 | hmem
   . exact absurd (e1 ▸ Heap.lt_size eo) (Nat.lt_irrefl _)
   . cases hmem
 . show Value.bool _ = Value.bool _
   rw [<- any_range, hb, List.size_toArray, List.length_map]
theorem cr_all (hc : X.calm = true) : Xw X (.builtin "all") (rAll X.K) := by
 intro pins s σ H vs us Q I r h
 obtain ⟨a, bs, rfl, hs, q⟩ := h
 obtain ⟨its, rv, hl, _⟩ := I.list hs
 rw [Vals.ref1 r]
 have hb := rv.bls
 refine call_all_walk (iter_any hl.isList fun s₂ e2 st hne => ?_)
 subst e2
 refine ⟨_, _, _, _, _, _, _, rfl, Walks.list (A := X.A.in1) (I.ok.hd hc) _ a hne its.toArray, st, truth_bools hb, fun h' tk hk => ?_⟩
 refine ⟨.bl _, H, I.kept fun b o eo => hk b o (fun hmem => ?_) (Heap.get?_push_of_some _ eo), ?_, q⟩
 . rcases List.mem_cons.mp hmem with e1 | hmem
   . exact absurd (e1 ▸ Heap.lt_size eo) (Nat.lt_irrefl _)
   . cases hmem
 . show Value.bool _ = Value.bool _
   rw [<- all_range, hb, List.size_toArray, List.length_map]
end
mutual
inductive Dp (K : PySem.W.Frag) (H : Hp) : V -> PyData -> Prop
 | non : Dp K H .non .none
 | bl (b : Bool) : Dp K H (.bl b) (.bool b)
 | int (i : Int) : Dp K H (.int i) (.int i)
 | str (x : Str) : Dp K H (.str x) (.str x)
 | lst {a : Addr} {xs : List V} {ds : List PyData} : SqL K H a xs -> DpAll K H xs ds -> Dp K H (.ref a) (.list ds)
 | tup {a : Addr} {xs : List V} {ds : List PyData} : SqT K H a xs -> DpAll K H xs ds -> Dp K H (.ref a) (.tuple ds)
inductive DpAll (K : PySem.W.Frag) (H : Hp) : List V -> List PyData -> Prop
 | nil : DpAll K H [] []
 | cons {v : V} {vs : List V} {d : PyData} {ds : List PyData} : Dp K H v d -> DpAll K H vs ds -> DpAll K H (v :: vs) (d :: ds)
end
section
variable {X : Cx} {pins : List (Addr × Obj)} {σ : St} {H : Hp} {s : Shared}
mutual
theorem Dp.reads (I : Inv X pins σ H s) : ∀ (d : PyData) (v : V) (u : Value), Dp X.K H v d -> RelV v u -> ∃ as, Reads s.heap u d as
 | .none, _, _, h, r => by
   cases h
   cases r
   exact ⟨_, Reads.none⟩
 | .bool b, _, _, h, r => by
   cases h
   cases r
   exact ⟨_, Reads.bool b⟩
 | .int i, _, _, h, r => by
   cases h
   obtain ⟨t, rfl⟩ := r
   exact ⟨_, Reads.int i t⟩
 | .str x, _, _, h, r => by
   cases h
   obtain ⟨t, rfl⟩ := r
   exact ⟨_, Reads.str x t⟩
 | .list ds, _, _, h, r => by
   cases h with
   | lst hs ha =>
     cases r
     obtain ⟨its, rv, ⟨o, n, ho, hc, _, hd⟩, _⟩ := I.list hs
     obtain ⟨as, hr⟩ := Dp.readsAll I ds _ its ha rv
     exact ⟨_, Reads.list ho hc hd hr⟩
 | .tuple ds, _, _, h, r => by
   cases h with
   | tup hs ha =>
     cases r
     obtain ⟨its, rv, ⟨o, ho, hc, n, hd⟩, _⟩ := I.tuple hs
     obtain ⟨as, hr⟩ := Dp.readsAll I ds _ its ha rv
     exact ⟨_, Reads.tuple ho hc hd hr⟩
 | .dict _, _, _, h, _ => by cases h
theorem Dp.readsAll (I : Inv X pins σ H s) : ∀ (ds : List PyData) (vs : List V) (us : List Value), DpAll X.K H vs ds -> Vals vs us -> ∃ as, ReadsAll s.heap us ds as
 | [], _, _, h, r => by
   cases h
   cases r
   exact ⟨_, ReadsAll.nil⟩
 | d :: ds, _, _, h, r => by
   cases h with
   | cons h1 h2 =>
     cases r with
     | cons r1 r2 =>
       obtain ⟨as, q1⟩ := Dp.reads I d _ _ h1 r1
       obtain ⟨bs, q2⟩ := Dp.readsAll I ds _ _ h2 r2
       exact ⟨_, ReadsAll.cons q1 q2⟩
end
end
section
variable {X : Cx}
def rNeD (K : PySem.W.Frag) : R2 := fun x y H Q => ∃ d e, Dp K H x d /\ Dp K H y e /\ SeqAt.shaped d = true /\ SeqAt.shaped e = true /\ Q (.bl (!PyData.eqv d e)) H
theorem op_neD (hu : X.A.units + 64 < cLine) : OpR X (compareOp .NotEq) (rNeD X.K) := by
 intro pins s σ H x y v u Q I rx ry h
 obtain ⟨d, e, hd, he, sd, se, q⟩ := h
 obtain ⟨as, r1⟩ := Dp.reads I d x v hd rx
 obtain ⟨bs, r2⟩ := Dp.reads I e y u he ry
 exact SeqAt.compareNe_shaped r1 r2 sd se hu ⟨.bl _, H, I, rfl, q⟩
end
end L2
namespace L2
open PySem PySem.Spec PyProof.Rows
abbrev CellAt (h : Heap) (c : Addr) (v : Option Value) : Prop := h.IsCell c v
def relS (scope sc : Scope) : Scope :=
 { scope with names := scope.names.map fun (n, k) => if (k == .free && sc.kind == .function && sc.names.lookup n == some .cell) then (n, .cell) else (n, k) }
def Yq (cells : List (Str × Addr)) : List (Str × NameKind) -> List (Str × Addr) -> List (Str × Addr)
 | [], acc => acc
 | (n, k) :: r, acc => if k == .free then Yq cells r ((n, (cells.lookup n).getD 0) :: acc) else Yq cells r acc
theorem closure_loop (env : Env) (f : Str × NameKind -> List (Str × Addr) -> Sem (ForInStep (List (Str × Addr))))
   (hf : ∀ n k c, f (n, k) c = if k == .free then (do let a <- cellOf env n; pure (.yield ((n, a) :: c))) else pure (.yield c)) :
   ∀ (names : List (Str × NameKind)) (acc : List (Str × Addr)), (∀ y ∈ names, y.2 = .free -> ∃ c, env.cells.lookup y.1 = some c) -> forIn names acc f = pure (Yq env.cells names acc)
 | [], acc, _ => by rw [List.forIn_nil]; rfl
 | (n, k) :: r, acc, h => by
   rw [List.forIn_cons, hf]
   have ih := fun acc => closure_loop env f hf r acc fun y hy => h y (List.mem_cons_of_mem _ hy)
   unfold Yq
   by_cases hk : (k == NameKind.free) = true
   . rw [if_pos hk, if_pos hk]
     obtain ⟨c, hc⟩ := h (n, k) List.mem_cons_self (by simpa using hk)
     have e : cellOf env n = pure c := by unfold cellOf; rw [hc]
     rw [e]
     have e2 : (env.cells.lookup n).getD 0 = c := by rw [hc]; rfl
     rw [e2]
     exact ih _
   . rw [if_neg hk, if_neg hk]
     exact ih _
theorem closure_ok {scope : Scope} {env : Env} (h : ∀ y ∈ scope.names, y.2 = .free -> ∃ c, env.cells.lookup y.1 = some c) : closureFor scope env = pure (Yq env.cells scope.names []) := by
 simp only [closureFor]
 rw [closure_loop env _ (fun n k c => rfl) scope.names [] h]
 rfl
theorem mem_lookup {α : Type} : ∀ {l : List (Str × α)} {n : Str} {c : α}, (n, c) ∈ l -> ∃ c', l.lookup n = some c'
 | (k, v) :: r, n, c, h => by
   rw [List.lookup_cons]
   cases hb : n == k with
   | true => exact ⟨_, rfl⟩
   | false =>
     rcases List.mem_cons.mp h with e | h
     . cases e; simp at hb
     . exact mem_lookup h
theorem Qr {cells : List (Str × Addr)} : ∀ {names : List (Str × NameKind)} {acc : List (Str × Addr)} {n : Str} {c : Addr}, (n, c) ∈ Yq cells names acc -> (n, c) ∈ acc \/ ((n, .free) ∈ names /\ c = (cells.lookup n).getD 0)
 | [], _, _, _, h => .inl h
 | (m, k) :: r, acc, n, c, h => by
   unfold Yq at h
   split at h
   . rename_i hk
     have hk : k = .free := by simpa using hk
     rcases Qr h with h | ⟨h1, h2⟩
     . rcases List.mem_cons.mp h with e | h
       . cases e; exact .inr ⟨hk ▸ List.mem_cons_self, rfl⟩
       . exact .inl h
     . exact .inr ⟨List.mem_cons_of_mem _ h1, h2⟩
   . rcases Qr h with h | ⟨h1, h2⟩
     . exact .inl h
     . exact .inr ⟨List.mem_cons_of_mem _ h1, h2⟩
theorem cloFrom_acc {cells : List (Str × Addr)} : ∀ {names : List (Str × NameKind)} {acc : List (Str × Addr)} {p : Str × Addr}, p ∈ acc -> p ∈ Yq cells names acc
 | [], _, _, h => h
 | (m, k) :: r, acc, p, h => by
   unfold Yq
   split
   . exact cloFrom_acc (List.mem_cons_of_mem _ h)
   . exact cloFrom_acc h
theorem cloFrom_has {cells : List (Str × Addr)} : ∀ {names : List (Str × NameKind)} {acc : List (Str × Addr)} {n : Str}, (n, .free) ∈ names -> (n, (cells.lookup n).getD 0) ∈ Yq cells names acc
 | (m, k) :: r, acc, n, h => by
   unfold Yq
   rcases List.mem_cons.mp h with e | h
   . cases e
     exact cloFrom_acc List.mem_cons_self
   . split
     . exact cloFrom_has h
     . exact cloFrom_has h
theorem cells_mem : ∀ {names : List (Str × NameKind)} {h : Heap} {acc : List (Str × Addr)} {x : Str} {c : Addr}, (x, c) ∈ cellsFrom h.objs.size names acc ->
   (x, c) ∈ acc \/ ((x, .cell) ∈ names /\ h.objs.size <= c /\ CellAt (pushCells h names) c none)
 | [], _, _, _, _, h => .inl h
 | (n, k) :: r, h, acc, x, c, hm => by
   unfold cellsFrom at hm
   unfold pushCells
   split at hm
   . rename_i hk
     rw [if_pos hk]
     have hk : k = .cell := by simpa using hk
     rw [<- Heap.size_push h { cls := .type "cell", data := .cell none }] at hm
     rcases cells_mem hm with hm | ⟨h1, h2, h3⟩
     . rcases List.mem_cons.mp hm with e | hm
       . cases e
         exact .inr ⟨hk ▸ List.mem_cons_self, Nat.le_refl _, _, pushCells_keeps r _ _ _ (Heap.get?_push_size _ rfl), rfl⟩
       . exact .inl hm
     . rw [Heap.size_push] at h2
       exact .inr ⟨List.mem_cons_of_mem _ h1, Nat.le_of_succ_le h2, h3⟩
   . rename_i hk
     rw [if_neg hk]
     rcases cells_mem hm with hm | ⟨h1, h2, h3⟩
     . exact .inl hm
     . exact .inr ⟨List.mem_cons_of_mem _ h1, h2, h3⟩
theorem cells_acc : ∀ {names : List (Str × NameKind)} {n : Nat} {acc : List (Str × Addr)} {p : Str × Addr}, p ∈ acc -> p ∈ cellsFrom n names acc
 | [], _, _, _, h => h
 | (m, k) :: r, n, acc, p, h => by
   unfold cellsFrom
   split
   . exact cells_acc (List.mem_cons_of_mem _ h)
   . exact cells_acc h
theorem cells_has : ∀ {names : List (Str × NameKind)} {n : Nat} {acc : List (Str × Addr)} {x : Str}, (x, .cell) ∈ names -> ∃ c, (x, c) ∈ cellsFrom n names acc
 | (m, k) :: r, n, acc, x, h => by
   unfold cellsFrom
   rcases List.mem_cons.mp h with e | h
   . cases e
     exact ⟨n, cells_acc List.mem_cons_self⟩
   . split
     . exact cells_has h
     . exact cells_has h
theorem cells_inj : ∀ {names : List (Str × NameKind)} {h : Heap} {acc : List (Str × Addr)} {x y : Str} {c : Addr}, (∀ p ∈ acc, p.2 < h.objs.size) -> (∀ x y c, (x, c) ∈ acc -> (y, c) ∈ acc -> x = y) ->
   (x, c) ∈ cellsFrom h.objs.size names acc -> (y, c) ∈ cellsFrom h.objs.size names acc -> x = y
 | [], _, _, _, _, _, _, hi, h1, h2 => hi _ _ _ h1 h2
 | (n, k) :: r, h, acc, x, y, c, hl, hi, h1, h2 => by
   unfold cellsFrom at h1 h2
   split at h1
   . rename_i hk
     rw [if_pos hk] at h2
     rw [<- Heap.size_push h { cls := .type "cell", data := .cell none }] at h1 h2
     refine cells_inj (h := h.push _) (fun p hp => ?_) (fun x y c a b => ?_) h1 h2
     . rw [Heap.size_push]
       rcases List.mem_cons.mp hp with rfl | hp
       . exact Nat.lt_succ_self _
       . exact Nat.lt_succ_of_lt (hl p hp)
     . rcases List.mem_cons.mp a with e | a <;> rcases List.mem_cons.mp b with e' | b
       . cases e; cases e'; rfl
       . cases e; exact absurd (hl _ b) (Nat.lt_irrefl _)
       . cases e'; exact absurd (hl _ a) (Nat.lt_irrefl _)
       . exact hi _ _ _ a b
   . rename_i hk
     rw [if_neg hk] at h2
     exact cells_inj hl hi h1 h2
theorem newEnv_comp {M : Model} {A : Around} {E : Value -> Shared -> Prop} {s : Shared} {scope : Scope} {globals : Addr} {closure : List (Str × Addr)} {qual : Str} {func : Option Addr} {code : Value} {around : Env} {builtins : Addr} {Q : Env -> Shared -> Prop}
   (h : Q (newEnv scope s.heap.objs.size globals (cellsFrom (s.heap.objs.size + 1) scope.names closure) qual func code (some around) builtins)
     { s with heap := pushCells (s.heap.push { cls := .type "dict", data := .dict #[] }) scope.names }) :
   wpAny M A (newFunctionEnv scope globals closure [] qual func code (some around) builtins) Q E s := by
 simp only [newFunctionEnv, Option.isSome_some, if_true]
 refine wpAny_bind (wpAny_alloc ?_)
 refine wpAny_bind (wpAny_layCells _ (fun n k c => rfl) scope.names closure _ _ ?_)
 rw [show ({ s with heap := s.heap.push { cls := .type "dict", data := .dict #[] } } : Shared).heap.objs.size = s.heap.objs.size + 1 from Heap.size_push ..]
 rw [List.forIn_nil]
 exact wpAny_bind (wpAny_pure (wpAny_pure h))
theorem lookup_relS {sc : Scope} : ∀ {names : List (Str × NameKind)} {x : Str} {k : NameKind},
   (names.map fun (n, k) => if (k == NameKind.free && sc.kind == .function && sc.names.lookup n == some .cell) then (n, NameKind.cell) else (n, k)).lookup x = some k ->
   ∃ k', names.lookup x = some k' /\ (k = k' \/ (k' = .free /\ k = .cell))
 | [], _, _, h => by simp at h
 | (n, k₀) :: r, x, k, h => by
   have ih := @lookup_relS sc r x k
   have h' : List.lookup x ((if (k₀ == NameKind.free && sc.kind == .function && sc.names.lookup n == some .cell) = true then (n, NameKind.cell) else (n, k₀)) :: (r.map _)) = some k := h
   cases hx : x == n with
   | true =>
     simp only [List.lookup_cons, hx]
     by_cases hc : (k₀ == NameKind.free && sc.kind == .function && sc.names.lookup n == some .cell) = true
     . rw [if_pos hc] at h'
       simp only [List.lookup_cons, hx] at h'
       cases h'
       simp only [Bool.and_eq_true, beq_iff_eq] at hc
       exact ⟨k₀, rfl, .inr ⟨hc.1.1, rfl⟩⟩
     . rw [if_neg hc] at h'
       simp only [List.lookup_cons, hx] at h'
       cases h'
       exact ⟨_, rfl, .inl rfl⟩
   | false =>
     simp only [List.lookup_cons, hx]
     by_cases hc : (k₀ == NameKind.free && sc.kind == .function && sc.names.lookup n == some .cell) = true
     . rw [if_pos hc] at h'
       simp only [List.lookup_cons, hx] at h'
       exact ih h'
     . rw [if_neg hc] at h'
       simp only [List.lookup_cons, hx] at h'
       exact ih h'
structure BlkOk (N : List Str) (sc scope : Scope) (own : List (Str × Nat)) : Prop where
 kind : scope.kind = .function
 uniq : ∀ y ∈ scope.names, scope.names.lookup y.1 = some y.2
 ix : ∀ p ∈ own, N[p.2]? = some p.1
 free : ∀ y ∈ scope.names, y.2 = .free -> sc.names.lookup y.1 = some .cell \/ sc.names.lookup y.1 = some .free
 own : ∀ y ∈ scope.names, y.2 = .local \/ y.2 = .cell -> y.1 ∈ own.map (·.1) \/ y.1 ∉ N
def wipe (σ : St) : List Nat -> St
 | [] => σ
 | v :: vs => (wipe σ vs).set v none
theorem wipe_length (σ : St) : ∀ vs : List Nat, (wipe σ vs).length = σ.length
 | [] => rfl
 | v :: vs => by unfold wipe; rw [List.length_set, wipe_length σ vs]
theorem wipe_some {σ : St} {i : Nat} {x : V} : ∀ {vs : List Nat}, (wipe σ vs)[i]? = some (some x) -> σ[i]? = some (some x) /\ i ∉ vs
 | [], h => ⟨h, by simp⟩
 | v :: vs, h => by
   unfold wipe at h
   by_cases hi : v = i
   . subst hi
     by_cases hv : v < (wipe σ vs).length
     . rw [List.getElem?_set_self hv] at h; cases h
     . rw [List.getElem?_eq_none (by simpa using hv)] at h; cases h
   . rw [List.getElem?_set_ne hi] at h
     obtain ⟨h1, h2⟩ := wipe_some h
     exact ⟨h1, by simp only [List.mem_cons, not_or]; exact ⟨fun e => hi e.symm, h2⟩⟩
abbrev Cx.blk (X : Cx) (s : Shared) (H : Hp) (scope : Scope) (cenv : Env) (fp : List Addr) : Cx := { X with s_0 := s, H_0 := H, env := cenv, outer := X.stack, ex := fp, fn := fun x => scope.names.lookup x == some .cell, pn := [], xe := fun _ _ => False }
section
variable {X : Cx} {pins : List (Addr × Obj)} {σ : St} {H : Hp} {s : Shared}
theorem block_start {scope : Scope} {own : List (Str × Nat)} {fp : List Addr} (I : Inv X pins σ H s) (ok : BlkOk X.N X.env.scope scope own) (hN : X.N.Nodup) (hfp : ∀ b ∈ fp, FpOk X pins H b /\ b < s.heap.objs.size) :
   Inv (X.blk s H scope (compEnvC scope (cellsFrom (s.heap.objs.size + 1) scope.names (Yq X.env.cells scope.names [])) s.heap.objs.size X.env) fp) [] (wipe σ (own.map (·.2))) H { s with heap := pushCells (s.heap.push { cls := .type "dict", data := .dict #[] }) scope.names } := by
 have hfree : ∀ y ∈ scope.names, y.2 = .free -> ∃ c, X.env.cells.lookup y.1 = some c := fun y hy e => by
   rcases ok.free y hy e with k | k
   . exact I.ok.has _ (.inl k)
   . exact I.ok.has _ (.inr k)
 generalize hcenv : compEnvC scope (cellsFrom (s.heap.objs.size + 1) scope.names (Yq X.env.cells scope.names [])) s.heap.objs.size X.env = cenv
 have kp : ∀ b o, s.heap.get? b = some o -> (pushCells (s.heap.push { cls := .type "dict", data := .dict #[] }) scope.names).get? b = some o := fun b o e => pushCells_keeps _ _ _ _ (Heap.get?_push_of_some _ e)
 have hL : cenv.locals = s.heap.objs.size := by rw [<- hcenv]; rfl
 have hcl : cenv.cells = cellsFrom (s.heap.objs.size + 1) scope.names (Yq X.env.cells scope.names []) := by rw [<- hcenv]; rfl
 have hsc : cenv.scope = relS scope X.env.scope := by rw [<- hcenv]; rfl
 rw [<- Heap.size_push s.heap { cls := .type "dict", data := .dict #[] }] at hcl
 have cm : ∀ {y c}, (y, c) ∈ Yq X.env.cells scope.names [] -> X.env.cells.lookup y = some c /\ c < s.heap.objs.size := fun {y c} hm => by
   rcases Qr hm with hm | ⟨h1, rfl⟩
   . cases hm
   . obtain ⟨c, hc⟩ := hfree _ h1 rfl
     rw [hc]
     obtain ⟨w, z⟩ := I.cell _ _ hc
     exact ⟨rfl, z.lt⟩
 have mem : ∀ {y c}, cenv.cells.lookup y = some c -> (X.env.cells.lookup y = some c /\ c < s.heap.objs.size) \/ (s.heap.objs.size + 1 <= c /\ CellAt (pushCells (s.heap.push { cls := .type "dict", data := .dict #[] }) scope.names) c none) := fun {y c} e => by
   rw [hcl] at e
   rcases cells_mem (PySem.mem_of_lookup e) with hm | ⟨_, h2, h3⟩
   . exact .inl (cm hm)
   . rw [Heap.size_push] at h2; exact .inr ⟨h2, h3⟩
 have look : ∀ {y}, scope.names.lookup y = some .free -> ∃ c, cenv.cells.lookup y = some c /\ X.env.cells.lookup y = some c := fun {y} hl => by
   have hy : (y, NameKind.free) ∈ scope.names := PySem.mem_of_lookup hl
   obtain ⟨c', e'⟩ := mem_lookup (cells_acc (names := scope.names) (n := (s.heap.push { cls := .type "dict", data := .dict #[] }).objs.size) (cloFrom_has (cells := X.env.cells) (acc := []) hy))
   rw [<- hcl] at e'
   refine ⟨c', e', ?_⟩
   rw [hcl] at e'
   rcases cells_mem (PySem.mem_of_lookup e') with hm | ⟨h1, _, _⟩
   . exact (cm hm).1
   . have := ok.uniq _ h1
     rw [hl] at this; cases this
 have okB : (X.blk s H scope cenv fp).Ok := by
   refine ⟨I.ok.mod, by show cenv.scope.kind = _; rw [hsc]; exact ok.kind, by show cenv.globals = _; rw [<- hcenv]; exact I.ok.glob, by show cenv.builtins = _; rw [<- hcenv]; exact I.ok.blt, by show s.heap.objs.size <= cenv.locals; rw [hL]; exact Nat.le_refl _,
     fun y z c e1 e2 => ?_, fun y hy => ?_, fun y c z e => ?_, I.ok.hd, I.ok.frames, .inl rfl, fun b hb => ⟨?_, fun y c e z => ?_⟩, I.bs, Nat.le_trans I.ok.bsz I.sz, fun b o e hb => ?_, fun b hb z => ?_, I.stack, I.stkFree⟩
   . have e1 : cenv.cells.lookup y = some c := e1
     have e2 : cenv.cells.lookup z = some c := e2
     rw [hcl] at e1 e2
     refine cells_inj (fun p hp => ?_) (fun y z c a b => I.ok.inj y z c (cm a).1 (cm b).1) (PySem.mem_of_lookup e1) (PySem.mem_of_lookup e2)
     rw [Heap.size_push]
     exact Nat.lt_succ_of_lt (cm (y := p.1) (c := p.2) hp).2
   . show ∃ c, cenv.cells.lookup y = some c
     have key : ∀ k, cenv.kindOf y = some k -> (k = .cell \/ k = .free) -> ∃ c, cenv.cells.lookup y = some c := fun k hk hk' => by
       unfold Env.kindOf at hk
       rw [hsc] at hk
       obtain ⟨k', e, r⟩ := lookup_relS hk
       have : k' = .cell \/ k' = .free := by
         rcases r with rfl | ⟨rfl, _⟩
         . exact hk'
         . exact .inr rfl
       rcases this with rfl | rfl
       . obtain ⟨c, hm⟩ := cells_has (n := (s.heap.push { cls := .type "dict", data := .dict #[] }).objs.size) (acc := Yq X.env.cells scope.names []) (PySem.mem_of_lookup e)
         obtain ⟨c', e'⟩ := mem_lookup hm
         exact ⟨c', by rw [hcl]; exact e'⟩
       . obtain ⟨c, h1, _⟩ := look e
         exact ⟨c, h1⟩
     rcases hy with hy | hy
     . exact key _ hy (.inl rfl)
     . exact key _ hy (.inr rfl)
   . have z : (scope.names.lookup y == some NameKind.cell) = true := z
     have z : scope.names.lookup y = some .cell := by simpa using z
     have e : cenv.cells.lookup y = some c := e
     rw [hcl] at e
     rcases cells_mem (PySem.mem_of_lookup e) with hm | ⟨_, h2, _⟩
     . rcases Qr hm with hm | ⟨h1, _⟩
       . cases hm
       . have q := ok.uniq _ h1
         rw [z] at q; cases q
     . rw [Heap.size_push] at h2
       exact Nat.le_of_succ_le h2
   . show b ≠ cenv.locals
     rw [hL]; exact Nat.ne_of_lt (hfp b hb).2
   . have e : cenv.cells.lookup y = some c := e
     rcases mem e with ⟨h1, _⟩ | ⟨h1, _⟩
     . exact (hfp b hb).1.2.2.2.2.1 y c h1 z
     . have h2 : s.heap.objs.size + 1 <= b := by rw [<- z]; exact h1
       exact absurd (Nat.lt_of_lt_of_le (hfp b hb).2 (Nat.le_of_succ_le h2)) (Nat.lt_irrefl _)
   . rcases (hfp b hb).1.2.2.2.1 with z | z
     . exact I.ok.noex b o e z
     . exact absurd (Nat.lt_of_lt_of_le (Heap.lt_size e) (Nat.le_trans I.ok.bsz z)) (Nat.lt_irrefl _)
   . rcases List.mem_cons.mp (I.stkSub b z) with z | z
     . exact (hfp b hb).1.2.1 z
     . exact (hfp b hb).1.2.2.1 z
 refine ⟨okB, rfl, I.bare, Un.kept kp, ⟨fun _ => none, ?_, fun i y av e1 e2 e3 => ?_⟩, fun y c e => ?_, ?_, fun y c e => ?_, fun p hp => ?_, I.hok.kept kp, by rw [wipe_length]; exact I.len⟩
 . show Heap.Ns _ cenv.locals _
   rw [hL]
   exact Heap.Ns.keeps (Heap.Ns.new ..) fun b o e => pushCells_keeps _ _ _ _ e
 . obtain ⟨e2, hne⟩ := wipe_some e2
   have hfr : scope.names.lookup y = some .free /\ (cenv.kindOf y = some .cell \/ cenv.kindOf y = some .free) := by
     have key : ∀ k, cenv.scope.names.lookup y = some k -> k = .local \/ k = .cell \/ k = .free -> scope.names.lookup y = some .free /\ (cenv.kindOf y = some .cell \/ cenv.kindOf y = some .free) := fun k hk hk' => by
       have hk0 := hk
       rw [hsc] at hk
       obtain ⟨k', e, r⟩ := lookup_relS hk
       have no : ¬ (k' = .local \/ k' = .cell) := fun hh => by
         rcases ok.own _ (PySem.mem_of_lookup e) hh with e' | e'
         . obtain ⟨p, hp, hpy⟩ := List.mem_map.mp e'
           have e3 := ok.ix p hp
           have : p.1 = y := hpy
           rw [this] at e3
           exact hne (List.mem_map.mpr ⟨p, hp, nodup_ix hN e3 e1⟩)
         . exact e' (List.mem_of_getElem? e1)
       rcases r with rfl | ⟨rfl, rfl⟩
       . rcases hk' with rfl | rfl | rfl
         . exact absurd (.inl rfl) no
         . exact absurd (.inr rfl) no
         . exact ⟨e, .inr hk0⟩
       . exact ⟨e, .inl hk0⟩
     have e3 : Vis cenv.scope y := e3
     rcases e3 with e3 | e3 | e3
     . exact key _ e3 (.inl rfl)
     . exact key _ e3 (.inr (.inl rfl))
     . exact key _ e3 (.inr (.inr rfl))
   obtain ⟨m, hn, hl⟩ := I.loc
   have hvis : Vis X.env.scope y := (ok.free _ (PySem.mem_of_lookup hfr.1) rfl).elim (fun k => .inr (.inl k)) (fun k => .inr (.inr k))
   obtain ⟨w, r, q⟩ := hl i y av e1 e2 hvis
   refine ⟨w, r, .inr ⟨hfr.2, ?_⟩⟩
   obtain ⟨c, h1, h2⟩ := look hfr.1
   rcases q with ⟨k, _⟩ | ⟨_, c', e', z⟩
   . have k : X.env.scope.names.lookup y = some .local := k
     rcases ok.free _ (PySem.mem_of_lookup hfr.1) rfl with k' | k' <;> rw [show X.env.scope.names.lookup y = _ from k'] at k <;> cases k
   . rw [h2] at e'; cases e'
     exact ⟨c, h1, z.keeps kp⟩
 . have e : cenv.cells.lookup y = some c := e
   rcases mem e with ⟨h1, _⟩ | ⟨_, z⟩
   . obtain ⟨w, z⟩ := I.cell y c h1
     exact ⟨w, z.keeps kp⟩
   . exact ⟨_, z⟩
 . show H cenv.locals = none
   rw [hL]; exact I.hok.fresh (Nat.le_refl _)
 . have e : cenv.cells.lookup y = some c := e
   rcases mem e with ⟨h1, _⟩ | ⟨h1, _⟩
   . exact I.freeC y c h1
   . exact I.hok.fresh (Nat.le_of_succ_le h1)
 . exact absurd (show p ∈ ([] : List (Addr × Obj)) ++ [] from hp) (by simp)
theorem app_ok {E : Value -> Shared -> Prop} {D : Addr} {xs : List V} {y : V} {v : Value} {Q : Value -> Shared -> Prop} (I : Inv X pins σ H s) (hD : H D = some (.lst xs)) (hz : xs.length < sizeLine) (r : RelV y v)
   (h : ∀ s', Inv X pins σ (upd H D (.lst (xs ++ [y]))) s' -> Q .none s') : wpAny (model X.prog X.w) X.A (call (.builtin "list.append") [.ref D, v]) Q E s := by
 obtain ⟨hz', its, n, ri, e⟩ := I.hok D _ hD
 have hl := ri.length
 refine append_at (hsz := by rw [List.size_toArray]; omega) e fun h' sb ho' => ?_
 refine h { s with heap := h' } (I.write (t' := s.toks) (by rw [hD]; trivial) (.inl rfl) (fun b u hb q => (sb.2 b hb).trans q) ⟨_, ho'⟩ ⟨by rw [List.length_append]; exact hz, its ++ [v], n + 1, ri.append (.cons r .nil), ?_⟩)
 rw [ho']
 simp
def PTs (X : Cx) (ifs : List Expr) (t : TT) : Prop :=
 ∀ (pins : List (Addr × Obj)) (s : Shared) (σ : St) (H : Hp) (Q : Bool -> Hp -> Prop), Inv X pins σ H s -> t σ H Q ->
   wpAny (model X.prog X.w) X.A (forIn ifs true fun c r => if r = true then do let ok <- isTrue c X.env (eval c X.env); pure (ForInStep.yield ok) else pure (ForInStep.yield r)) (TP X pins σ Q) X.xe s
def tYes : TT := fun _ H Q => Q true H
theorem Yn : PTs X [] tYes := fun _ _ _ H _ I h => wpAny_tests_nil ⟨H, I, h⟩
theorem pts_one {c : Expr} {t : TT} (h : PT X c t) : PTs X [c] t := fun pins s σ H Q I hw => wpAny_tests_one (h pins s σ H Q I hw)
end
theorem thnF {α : Type} {t : Sem α} {Q Q' : α -> Shared -> Prop} {M : Model} {A : Around} {E : Value -> Shared -> Prop} {s : Shared} (h : wpAny M A t Q (fun _ _ => False) s) (hQ : ∀ a s, Q a s -> Q' a s) : wpAny M A t Q' E s := wpAny_mono h hQ fun _ _ z => False.elim z
theorem compLoop_any {prog : Program} {w : World} {A : Around} {R : Result -> Shared -> Prop} {s : Shared} {elt target iter : Expr} {ifs : List Expr} {scope : Scope} {pos : Pos} {it acc : Value} {env : Env} (I : Nat -> Shared -> Prop)
   (turn : ∀ n s, I n s -> wpAny (model prog w) A (pyNext it) (fun r s₁ => match r with
     | none => R (.ok .next) s₁
     | some v => wpAny (model prog w) A (letOwnedTupleGo target it v) (fun _ s₁' => wpAny (model prog w) A (assign target env v) (fun _ s₂ =>
         wpAny (model prog w) A (forIn ifs true fun c r => if r = true then do let ok <- isTrue c env (eval c env); pure (ForInStep.yield ok) else pure (ForInStep.yield r)) (fun ok s₃ =>
           if ok = true then wpAny (model prog w) A (eval elt env) (fun x s₄ =>
             wpAny (model prog w) A (call (.builtin "list.append") [acc, x]) (fun _ s₅ => ∃ m, m < n /\ I m s₅) (notedBy (model prog w) A env fun e s' => R (.error e) s') s₄) (notedBy (model prog w) A env fun e s' => R (.error e) s') s₃
           else ∃ m, m < n /\ I m s₃) (notedBy (model prog w) A env fun e s' => R (.error e) s') s₂) (notedBy (model prog w) A env fun e s' => R (.error e) s') s₁') (notedBy (model prog w) A env fun e s' => R (.error e) s') s₁) (notedBy (model prog w) A env fun e s' => R (.error e) s') s)
   (n : Nat) (h : I n s) :
   codeAny (model prog w) A (.compLoop (.ListComp elt [⟨target, iter, ifs, 0⟩] scope pos) 0 it acc env) R s := by
 refine codeAny_loop rfl I (fun n s hI => ?_) n h
 show wpAny _ A ((compTurn (.ListComp elt [⟨target, iter, ifs, 0⟩] scope pos) 0 it acc env).onRaise (fun x => do noteFrame x env; theTreesLotGoes x)) _ _ s
 refine wpAny_noted ?_
 rw [compTurn_list]
 refine wpAny_bind (wpAny_standAt (wpAny_bind (wpAny_mono (turn n s hI) (fun r s₁ h₁ => ?_) fun _ _ h' => h')))
 cases r with
 | none => exact wpAny_pure h₁
 | some v =>
   refine wpAny_bind (wpAny_mono h₁ (fun _ s₁' h₁' => ?_) fun _ _ h' => h')
   refine wpAny_bind (wpAny_mono h₁' (fun _ s₂ h₂ => wpAny_bind (wpAny_mono h₂ (fun ok s₃ h₃ => ?_) fun _ _ h' => h')) fun _ _ h' => h')
   cases ok with
   | false => exact wpAny_pure ⟨rfl, h₃⟩
   | true =>
     exact wpAny_bind (wpAny_bind (wpAny_mono h₃ (fun x s₄ h₄ => wpAny_bind (wpAny_mono h₄ (fun _ s₅ h₅ => wpAny_pure (wpAny_pure ⟨rfl, h₅⟩)) fun _ _ h' => h')) fun _ _ h' => h'))
section
variable {X : Cx}
def tLc (wi : TI) (g : TG) (tt : TT) (te : TE) (vs : List Nat) : TE := fun σ H Q => wi σ H fun J H1 => ∀ D, H1 D = none -> ∃ W : Nat -> Nat -> Hp -> Prop, (∃ m, W 0 m (upd H1 D (.lst []))) /\ ∀ i m H, W i m H ->
 (J.stop i H /\ Q (.ref D) H) \/ (J.go i H /\ ∃ Nx : Hp -> Prop, (∀ H', Nx H' -> ∃ m', m' < m /\ W (i + 1) m' H') /\ ∀ x H', J.yld i H x H' -> g x (wipe σ vs) H' fun σ2 H2 => wipe σ2 vs = wipe σ vs /\ tt σ2 H2 fun b H3 =>
   if b = true then te σ2 H3 fun y H4 => ∃ acc, H4 D = some (.lst acc) /\ acc.length < sizeLine /\ Nx (upd H4 D (.lst (acc ++ [y]))) else Nx H3)
theorem lc_core {pins : List (Addr × Obj)} {s : Shared} {σ : St} {H : Hp} {Q : VK} {elt tg iter : Expr} {ifs : List Expr} {scope : Scope} {own : List (Str × Nat)} {pos pos' : Pos} {wi : TI} {g : TG} {tt : TT} {te : TE} {use : Option (Value -> Sem Unit)} {Qf : Value -> Shared -> Prop}
   (hc : X.calm = true) (hN : X.N.Nodup) (I : Inv X pins σ H s) (hi : PI X tg iter wi) (ok : BlkOk X.N X.env.scope scope own)
   (hg : ∀ (s : Shared) (H : Hp) (C : Addr) (cl : List (Str × Addr)) (fp : List Addr), PG (X.blk s H scope (compEnvC scope cl C X.env) fp) tg g) (ht : ∀ (s : Shared) (H : Hp) (C : Addr) (cl : List (Str × Addr)) (fp : List Addr), PTs (X.blk s H scope (compEnvC scope cl C X.env) fp) ifs tt)
   (he : ∀ (s : Shared) (H : Hp) (C : Addr) (cl : List (Str × Addr)) (fp : List Addr), PE (X.blk s H scope (compEnvC scope cl C X.env) fp) elt te) (hs : ∀ x, foldedSetIterable iter X.env x = pure x)
   (h : tLc wi g tt te (own.map (·.2)) σ H Q)
   (hRR : ∀ D C s' m H', Inv X pins σ H' s' -> Q (.ref D) H' -> s'.heap.Ns C m -> FpOk X pins H' C -> compPost (model X.prog X.w) X.A X.xe use Qf (.ref D) C (.ok .next) s') :
   wpAny (model X.prog X.w) X.A (comprehension (.ListComp elt [⟨tg, iter, ifs, 0⟩] scope pos) scope X.env pos' (newList []) false (eval iter X.env) use) Qf X.xe s := by
 have hfree : ∀ y ∈ scope.names, y.2 = .free -> ∃ c, X.env.cells.lookup y.1 = some c := fun y hy e => by
   rcases ok.free y hy e with k | k
   . exact I.ok.has _ (.inl k)
   . exact I.ok.has _ (.inr k)
 refine wpAny_comprehension_free (use := use) rfl hs (closure_ok hfree) ok.kind (fun y hy e => by rw [ok.uniq y hy, e])
   (thn (hi pins s σ H _ I h) fun xv s1 hx => thn hx fun itv s2 h2 => ?_)
 obtain ⟨it, fp, tn, J, H2, e, I2, T, st2, f2, q⟩ := h2
 subst e
 refine wpAny_newObj_type (newEnv_comp ?_) (by show 0 <= sizeLine; decide)
 generalize hD : s2.heap.objs.size = D
 have hDn : H2 D = none := I2.hok.fresh (Nat.le_of_eq hD)
 obtain ⟨W, ⟨m0, w0⟩, turn⟩ := q D hDn
 -- the new list
 generalize hs3 : ({ s2 with heap := s2.heap.push { cls := .type "list", data := .seq ([] : List Value).toArray } } : Shared) = s3
 have I3 : Inv X pins σ (upd H2 D (.lst [])) s3 := by
   rw [<- hs3]
   refine I2.laid (t' := s2.toks) (fun b o e => Heap.get?_push_of_some _ e) (Nat.le_of_eq hD) ⟨Nat.zero_le _, [], 0, .nil, ?_⟩
   rw [<- hD]
   exact Heap.get?_push_size _ rfl
 have h3 : s3.heap = s2.heap.push { cls := .type "list", data := .seq ([] : List Value).toArray } := by rw [<- hs3]
 have sz : ∀ b ∈ fp, b < s2.heap.objs.size := fun b hb => by
   obtain ⟨o, e, _⟩ := T.obj _ _ st2 b hb
   exact Heap.lt_size e
 have f3 : ∀ b ∈ fp, FpOk X pins (upd H2 D (.lst [])) b /\ b < s3.heap.objs.size := fun b hb => by
   have hlt := sz b hb
   refine ⟨⟨?_, (f2 b hb).2⟩, by rw [h3, Heap.size_push]; exact Nat.lt_succ_of_lt hlt⟩
   rw [Zl (by rw [<- hD]; exact Nat.ne_of_lt hlt)]
   exact (f2 b hb).1
 have st3 : tn 0 s3.heap := T.keep _ _ _ st2 fun b _ o e => by rw [h3]; exact Heap.get?_push_of_some _ e
 have I4 := block_start I3 ok hN f3
 have pg := hg s3 (upd H2 D (.lst [])) s3.heap.objs.size (cellsFrom (s3.heap.objs.size + 1) scope.names (Yq X.env.cells scope.names [])) fp
 have pt := ht s3 (upd H2 D (.lst [])) s3.heap.objs.size (cellsFrom (s3.heap.objs.size + 1) scope.names (Yq X.env.cells scope.names [])) fp
 have pe := he s3 (upd H2 D (.lst [])) s3.heap.objs.size (cellsFrom (s3.heap.objs.size + 1) scope.names (Yq X.env.cells scope.names [])) fp
 show codeAny _ _ (.compStart (.ListComp elt [⟨tg, iter, ifs, 0⟩] scope pos) 0 (.ref it) (.ref D) (compEnvC scope (cellsFrom (s3.heap.objs.size + 1) scope.names (Yq X.env.cells scope.names [])) s3.heap.objs.size X.env)) (compPost (model X.prog X.w) X.A X.xe use Qf (.ref D) s3.heap.objs.size) { s3 with heap := pushCells (s3.heap.push { cls := .type "dict", data := .dict #[] }) scope.names }
 have nfp : ∀ b ∈ fp, (upd H2 D (.lst [])) b = none := fun b hb => (f3 b hb).1.1
 generalize hce : compEnvC scope (cellsFrom (s3.heap.objs.size + 1) scope.names (Yq X.env.cells scope.names [])) s3.heap.objs.size X.env = ce at I4 pg pt pe ⊢
 have cL : ce.locals = s3.heap.objs.size := by subst hce; rfl
 generalize hH3 : upd H2 D (.lst []) = H3 at I3 I4 pg pt pe w0 nfp f3
 generalize hs4 : ({ s3 with heap := pushCells (s3.heap.push { cls := .type "dict", data := .dict #[] }) scope.names } : Shared) = s4 at I4 ⊢
 have st4 : tn 0 s4.heap := T.keep _ _ _ st3 fun b _ o e => by rw [<- hs4]; exact pushCells_keeps _ _ _ _ (Heap.get?_push_of_some _ e)
 have stat : ∀ {σ' : St} {H' : Hp} {s' : Shared}, Inv (X.blk s3 H3 scope ce fp) [] σ' H' s' -> (∀ b ∈ fp, H' b = none) -> ∀ b ∈ fp, FpOk (X.blk s3 H3 scope ce fp) [] H' b := fun {σ' H' s'} I' hn b hb =>
   ⟨hn b hb, (I'.ok.exf b hb).1, I'.ok.exfs b hb, .inl hb, fun x c e => (I'.ok.exf b hb).2 x c e, fun p hp => absurd (show p ∈ ([] : List (Addr × Obj)) ++ [] from hp) (by simp)⟩
 have loop : codeAny (model X.prog X.w) X.A (.compLoop (.ListComp elt [⟨tg, iter, ifs, 0⟩] scope pos) 0 (.ref it) (.ref D) ce) (compPost (model X.prog X.w) X.A X.xe use Qf (.ref D) s3.heap.objs.size) s4 := by
   refine compLoop_any (fun n s' => ∃ i H', Inv (X.blk s3 H3 scope ce fp) [] (wipe σ (own.map (·.2))) H' s' /\ tn i s'.heap /\ (∀ b ∈ fp, H' b = none) /\ W i n H') ?_ m0 ⟨0, H3, I4, st4, nfp, w0⟩
   rintro n s5 ⟨i, H5, I5, st5, n5, w5⟩
   rcases turn i n H5 w5 with ⟨stop, qq⟩ | ⟨go, Nx, hNx, step⟩
   . have td := T.done (X.blk s3 H3 scope ce fp) rfl rfl rfl hc i [] s5 _ H5 (fun _ _ => False) I5 (stat I5 n5) st5 stop
     refine thnF td fun r s6 ⟨hr, I6⟩ => ?_
     subst hr
     -- back in the def's context
     have I7 : Inv X pins σ H5 s6 := I3.call' (ch := fp) I6.os I6.base I6.hok I6.bare fun b hb => ⟨(f3 b hb).1.2.2.2.1, (f3 b hb).1.2.1, (f3 b hb).1.2.2.2.2.1, (f3 b hb).1.2.2.2.2.2⟩
     have nC : H5 s3.heap.objs.size = none := by
       have z : H5 ce.locals = none := I6.free
       rw [cL] at z
       exact z
     obtain ⟨m, hn, _⟩ := I6.loc
     have hn : s6.heap.Ns ce.locals m := hn
     rw [cL] at hn
     exact hRR D s3.heap.objs.size s6 m H5 I7 qq hn (I3.fpOk (Nat.le_refl _) nC)
   . have ti := T.item (X.blk s3 H3 scope ce fp) rfl rfl rfl hc i [] s5 _ H5 (fun _ _ => False) I5 (stat I5 n5) st5 go
     refine thnF ti fun r s6 ⟨u, hr, h6⟩ => ?_
     subst hr
     refine thnF h6 fun _ s7 ⟨x, H7, I7, r7, y7, st7, n7⟩ => ?_
     have I7' := I7.pinned (stat I7 n7) (T.obj _ _ st7)
     refine thnF (pg _ s7 _ H7 x u _ I7' r7 (step x H7 y7)) fun _ s8 ⟨σ8, H8, I8, hw8, q8⟩ => ?_
     refine thnF (pt _ s8 σ8 H8 _ I8 q8) fun b s9 ⟨H9, I9, q9⟩ => ?_
     -- the turn's end
     have fin : ∀ {s' : Shared} {H' : Hp}, Inv (X.blk s3 H3 scope ce fp) ([] ++ pinsAt fp s7.heap) σ8 H' s' -> Nx H' -> ∃ m, m < n /\ ∃ i H', Inv (X.blk s3 H3 scope ce fp) [] (wipe σ (own.map (·.2))) H' s' /\ tn i s'.heap /\ (∀ b ∈ fp, H' b = none) /\ W i m H' := fun {s' H'} I' nx => by
       obtain ⟨m', hm, w'⟩ := hNx H' nx
       have pin' : ∀ b ∈ fp, ∀ o, s7.heap.get? b = some o -> s'.heap.get? b = some o /\ H' b = none := fun b hb o e =>
         let z := I'.pin (b, o) (List.mem_append_right _ (List.mem_append_right _ (mem_pinsAt hb e)))
         ⟨z.1, z.2.1⟩
       have hl : (wipe σ (own.map (·.2))).length = σ8.length := by rw [<- hw8, wipe_length]
       refine ⟨m', hm, i + 1, H', (I'.unpinned (pins := [])).weak hl (fun j v e => ?_), T.keep _ _ _ st7 fun b hb o e => (pin' b hb o e).1, fun b hb => ?_, w'⟩
       . rw [<- hw8] at e
         exact (wipe_some e).1
       . obtain ⟨o, e, _⟩ := T.obj _ _ st7 b hb
         exact (pin' b hb o e).2
     cases b with
     | false =>
       simp only [Bool.false_eq_true, if_false] at q9 ⊢
       exact fin I9 q9
     | true =>
       simp only [if_true] at q9 ⊢
       refine thnF (pe _ s9 σ8 H9 _ I9 q9) fun z s10 ⟨yv, H10, I10, r10, acc, hD10, hz10, nx⟩ => ?_
       exact app_ok (X := X.blk s3 H3 scope ce fp) I10 hD10 hz10 r10 fun s11 I11 => fin I11 nx
 exact codeAny_compStart_list loop (T.self X.A 0 _ _ _ st4 loop)
theorem Yu {elt tg iter : Expr} {ifs : List Expr} {scope : Scope} {own : List (Str × Nat)} {pos : Pos} {wi : TI} {g : TG} {tt : TT} {te : TE} (hc : X.calm = true) (hN : X.N.Nodup) (hi : PI X tg iter wi) (ok : BlkOk X.N X.env.scope scope own)
   (hg : ∀ (s : Shared) (H : Hp) (C : Addr) (cl : List (Str × Addr)) (fp : List Addr), PG (X.blk s H scope (compEnvC scope cl C X.env) fp) tg g) (ht : ∀ (s : Shared) (H : Hp) (C : Addr) (cl : List (Str × Addr)) (fp : List Addr), PTs (X.blk s H scope (compEnvC scope cl C X.env) fp) ifs tt)
   (he : ∀ (s : Shared) (H : Hp) (C : Addr) (cl : List (Str × Addr)) (fp : List Addr), PE (X.blk s H scope (compEnvC scope cl C X.env) fp) elt te) (hs : ∀ x, foldedSetIterable iter X.env x = pure x := by intro _; rfl) :
   PE X (.ListComp elt [⟨tg, iter, ifs, 0⟩] scope pos) (tLc wi g tt te (own.map (·.2))) := by
 intro pins s σ H Q I h
 rw [eval_ListComp]
 refine lc_core hc hN I hi ok hg ht he hs h fun D C s' m H' I' q hn f => ⟨m, hn, fun h'' sb => ?_⟩
 obtain ⟨f0, f1, f2, f3, f4, f5⟩ := f
 exact ⟨.ref D, H', I'.turned (t' := s'.toks) (fun b o hb e => (sb.2 b hb).trans e) f0 f1 f3 f4 f5, rfl, q⟩
theorem ps_setLc {i : Nat} {y : Str} {py : Pos} {elt tg iter : Expr} {ifs : List Expr} {scope : Scope} {own : List (Str × Nat)} {pos spos : Pos} {wi : TI} {g : TG} {tt : TT} {te : TE} (hc : X.calm = true) (hN : X.N.Nodup) (hy : X.N[i]? = some y) (hyl : X.env.scope.names.lookup y = some .local)
   (hsw : swapsWith (.ListComp elt [⟨tg, iter, ifs, 0⟩] scope pos) (some (.Name y py)) spos.line X.env = pure true) (hi : PI X tg iter wi) (ok : BlkOk X.N X.env.scope scope own)
   (hg : ∀ (s : Shared) (H : Hp) (C : Addr) (cl : List (Str × Addr)) (fp : List Addr), PG (X.blk s H scope (compEnvC scope cl C X.env) fp) tg g) (ht : ∀ (s : Shared) (H : Hp) (C : Addr) (cl : List (Str × Addr)) (fp : List Addr), PTs (X.blk s H scope (compEnvC scope cl C X.env) fp) ifs tt)
   (he : ∀ (s : Shared) (H : Hp) (C : Addr) (cl : List (Str × Addr)) (fp : List Addr), PE (X.blk s H scope (compEnvC scope cl C X.env) fp) elt te) (hs : ∀ x, foldedSetIterable iter X.env x = pure x := by intro _; rfl) :
   PS X (.Assign [.Name y py] (.ListComp elt [⟨tg, iter, ifs, 0⟩] scope pos) spos) (tAsg (tLc wi g tt te (own.map (·.2))) (gName i)) := by
 intro pins s σ H D I h
 rw [exec_Assign_Name_used _ _ _ _ hsw]
 refine wpAny_bind (wpAny_standAt (wpAny_bind ?_))
 show wpAny _ X.A (do let _ <- comprehension (.ListComp elt [⟨tg, iter, ifs, 0⟩] scope pos) scope X.env (firstIterPos [⟨tg, iter, ifs, 0⟩] pos) (newList []) false (eval iter X.env) (some (assign (.Name y py) X.env))) _ _ s
 have h : tLc wi g tt te (own.map (·.2)) σ H (fun x H1 => gName i x σ H1 D.nx) := h
 refine wpAny_bind (thn (lc_core (Qf := fun _ s' => SP X pins D .next s') hc hN I hi ok hg ht he hs h fun L C s' m H' I' q hn f => ?_) fun _ s' hq => wpAny_pure (wpAny_pure hq))
 show wpAny _ _ (assign (.Name y py) X.env (.ref L)) _ _ _
 refine wpAny_assign_Name (store_ok2 (v := V.ref L) I' hN hy (.inl hyl) rfl (fun s2 I2 ⟨a, sb, ha⟩ => ?_) (.inr hyl))
 obtain ⟨f0, f1, f2, f3, f4, f5⟩ := f
 have haC : C ≠ a := by
   rcases ha with z | z
   . rw [z]; exact f1
   . exact fun e => f4 y a z e.symm
 refine ⟨m, hn.sameBut sb haC, fun h3 sb3 => ?_⟩
 exact ⟨_, H', I2.turned (t' := s2.toks) (fun b o hb e => (sb3.2 b hb).trans e) f0 f1 f3 f4 f5, q⟩
theorem sw_true {elt : Expr} {gs : List Comprehension} {scope : Scope} {pos py : Pos} {y : Str} {l : Nat} {env : Env} (hk : env.scope.kind = .function) (hy : env.scope.names.lookup y = some .local) (hl : (py.line == pos.line) = true)
   (ha : (scope.names.any fun (n, k) => n == y && (k == .local || k == .cell)) = false) : swapsWith (.ListComp elt gs scope pos) (some (.Name y py)) l env = pure true := by
 have ky : env.kindOf y = some .local := hy
 have hb : env.blockKind = .function := by unfold Env.blockKind; rw [hk]; rfl
 unfold swapsWith
 simp only [hb, ky, ha, Expr.pos, hl]
 rfl
end
def blkC (N : List Str) (sc scope : Scope) (own : List (Str × Nat)) : Bool :=
 (match scope.kind with | .function => true | _ => false) && (scope.names.all fun y => decide (scope.names.lookup y.1 = some y.2)) && (own.all fun p => decide (N[p.2]? = some p.1)) &&
   (scope.names.all fun y => match y.2 with
     | .free => (match sc.names.lookup y.1 with | some .cell => true | some .free => true | _ => false)
     | .local => decide (y.1 ∈ own.map (·.1)) || decide (y.1 ∉ N)
     | .cell => decide (y.1 ∈ own.map (·.1)) || decide (y.1 ∉ N)
     | _ => true)
theorem Ya {N : List Str} {sc scope : Scope} {own : List (Str × Nat)} (h : blkC N sc scope own = true) : BlkOk N sc scope own := by
 unfold blkC at h
 simp only [Bool.and_eq_true, List.all_eq_true, decide_eq_true_eq] at h
 obtain ⟨⟨⟨h1, h2⟩, h3⟩, h4⟩ := h
 refine ⟨?_, h2, h3, fun y hy e => ?_, fun y hy e => ?_⟩
 . split at h1
   . assumption
   . cases h1
 . have q := h4 y hy
   simp only [e] at q
   split at q <;> first | exact .inl (by assumption) | exact .inr (by assumption) | cases q
 . have q := h4 y hy
   rcases e with e | e <;> (simp only [e, Bool.or_eq_true, decide_eq_true_eq] at q; exact q)
end L2
namespace L2
open PySem PySem.Spec PyProof.Rows
section
variable {prog : Program} {w : World} {A : Around} {R : Result -> Shared -> Prop} {s : Shared} {elt t0 i0 t1 i1 : Expr} {ifs0 ifs1 : List Expr} {scope : Scope} {pos : Pos} {it acc : Value} {env : Env}
end
section
variable {X : Cx}
end
end L2
namespace L2
open PySem PySem.Spec PyProof.Rows
section
variable {κ : Type} [DecidableEq κ]
def valV (kvs : List (κ × V)) (k : κ) : Option V := (kvs.find? fun kv => decide (kv.1 = k)).map (·.2)
def putK (kvs : List (κ × V)) (k : κ) (v : V) : List (κ × V) :=
 if (kvs.any fun kv => decide (kv.1 = k)) = true then kvs.map (fun kv => if kv.1 = k then (kv.1, v) else kv) else kvs ++ [(k, v)]
theorem Xa {p : κ × V} {r : List (κ × V)} {k : κ} (e : p.1 = k) : valV (p :: r) k = some p.2 := by simp [valV, List.find?_cons, e]
theorem Xb {p : κ × V} {r : List (κ × V)} {k : κ} (e : ¬ p.1 = k) : valV (p :: r) k = valV r k := by simp [valV, List.find?_cons, e]
theorem valV_any (k : κ) : ∀ kvs : List (κ × V), (kvs.any fun kv => decide (kv.1 = k)) = (valV kvs k).isSome
 | [] => rfl
 | p :: r => by
   rw [List.any_cons]
   by_cases e : p.1 = k
   . simp only [Xa e, decide_eq_true e, Bool.true_or, Option.isSome_some]
   . rw [Xb e, decide_eq_false e, Bool.false_or]; exact valV_any k r
theorem valV_map (k j : κ) (y : V) : ∀ kvs : List (κ × V), valV (kvs.map fun kv => if kv.1 = k then (kv.1, y) else kv) j = (valV kvs j).map fun x => if j = k then y else x
 | [] => rfl
 | p :: r => by
   have ih := valV_map k j y r
   rw [List.map_cons]
   by_cases h : p.1 = k
   . rw [if_pos h]
     by_cases e : p.1 = j
     . rw [Xa (p := (p.1, y)) e, Xa e, Option.map_some, if_pos (e.symm.trans h)]
     . rw [Xb (p := (p.1, y)) e, Xb e, ih]
   . rw [if_neg h]
     by_cases e : p.1 = j
     . rw [Xa (p := p) e, Xa e, Option.map_some, if_neg (fun z => h (e.trans z))]
     . rw [Xb (p := p) e, Xb e, ih]
theorem valV_snoc (k j : κ) (y : V) : ∀ kvs : List (κ × V), valV kvs k = none -> valV (kvs ++ [(k, y)]) j = if j = k then some y else valV kvs j
 | [], _ => by
   by_cases e : k = j
   . rw [if_pos e.symm]; exact Xa (p := (k, y)) e
   . rw [if_neg (fun z => e z.symm)]; exact Xb (p := (k, y)) e
 | p :: r, hn => by
   rw [List.cons_append]
   have hk : ¬ p.1 = k := fun z => by rw [Xa z] at hn; cases hn
   rw [Xb hk] at hn
   have ih := valV_snoc k j y r hn
   by_cases e : p.1 = j
   . rw [Xa e, Xa e, if_neg (fun z => hk (e.trans z))]
   . rw [Xb e, Xb e, ih]
theorem valV_put (kvs : List (κ × V)) (k j : κ) (y : V) : valV (putK kvs k y) j = if j = k then some y else valV kvs j := by
 unfold putK
 by_cases a : (kvs.any fun kv => decide (kv.1 = k)) = true
 . rw [if_pos a, valV_map]
   rw [valV_any] at a
   by_cases e : j = k
   . obtain ⟨x, hx⟩ := Option.isSome_iff_exists.mp a
     rw [if_pos e, e, hx, Option.map_some, if_pos rfl]
   . rw [if_neg e]
     cases valV kvs j with
     | none => rfl
     | some x => rw [Option.map_some, if_neg e]
 . rw [if_neg a]
   refine valV_snoc k j y kvs ?_
   rw [valV_any] at a
   cases q : valV kvs k with
   | none => rfl
   | some x => rw [q] at a; exact (a rfl).elim
theorem Ql (kvs : List (κ × V)) (k : κ) (v : V) : (putK kvs k v).length <= kvs.length + 1 := by
 unfold putK
 split
 . rw [List.length_map]; omega
 . rw [List.length_append, List.length_cons, List.length_nil]; omega
theorem RelO.isSome_eq {o : Option V} {u : Option Value} (r : RelO o u) : o.isSome = u.isSome := by
 cases o with
 | none => cases u with
   | none => rfl
   | some _ => exact (show False from r).elim
 | some _ => cases u with
   | none => exact (show False from r).elim
   | some _ => rfl
theorem KV.val {kvs : List (κ × V)} {vs : List (κ × Value)} (r : KV kvs vs) (k : κ) : RelO (valV kvs k) (valueAt vs k) := by
 unfold KV at r
 induction r with
 | nil => exact True.intro
 | @cons p q ps qs h t ih =>
   obtain ⟨h1, h2⟩ := h
   by_cases e : p.1 = k
   . have e' : q.1 = k := h1.symm.trans e
     have b : valueAt (q :: qs) k = some q.2 := by simp [valueAt, List.find?_cons, e']
     rw [Xa e, b]; exact h2
   . have e' : ¬ q.1 = k := fun z => e (h1.trans z)
     have b : valueAt (q :: qs) k = valueAt qs k := by simp [valueAt, List.find?_cons, e']
     rw [Xb e, b]; exact ih
theorem KV.any {kvs : List (κ × V)} {vs : List (κ × Value)} (r : KV kvs vs) (k : κ) : (kvs.any fun kv => decide (kv.1 = k)) = vs.any fun kv => decide (kv.1 = k) := by
 unfold KV at r
 induction r with
 | nil => rfl
 | cons h t ih => rw [List.any_cons, List.any_cons, ih, h.1]
theorem KV.repl {kvs : List (κ × V)} {vs : List (κ × Value)} (r : KV kvs vs) (k : κ) {y : V} {u : Value} (ry : RelV y u) :
   KV (kvs.map fun kv => if kv.1 = k then (kv.1, y) else kv) (vs.map fun kv => if kv.1 = k then (kv.1, u) else kv) := by
 unfold KV at r ⊢
 induction r with
 | nil => exact .nil
 | @cons p q ps qs h t ih =>
   rw [List.map_cons, List.map_cons]
   refine .cons ?_ ih
   obtain ⟨h1, h2⟩ := h
   by_cases e : p.1 = k
   . rw [if_pos e, if_pos (h1.symm.trans e)]; exact ⟨h1, ry⟩
   . rw [if_neg e, if_neg (fun z => e (h1.trans z))]; exact ⟨h1, h2⟩
theorem KV.put {kvs : List (κ × V)} {vs : List (κ × Value)} (r : KV kvs vs) (k : κ) {y : V} {u : Value} (ry : RelV y u) : KV (putK kvs k y) (stored vs k u) := by
 unfold putK stored
 rw [r.any k]
 by_cases e : (vs.any fun kv => decide (kv.1 = k)) = true
 . rw [if_pos e, if_pos e]; exact r.repl k ry
 . rw [if_neg e, if_neg e]; exact Paired.snoc r ⟨rfl, ry⟩
theorem KV.length {kvs : List (κ × V)} {vs : List (κ × Value)} (r : KV kvs vs) : kvs.length = vs.length := Paired.length r
end
theorem kV_is {P : Program} {w : World} {k : Key} {u : Value} (r : RelV (kV k) u) : (Xf P w).is k u = true := by
 cases k with
 | inl i => obtain ⟨t, e⟩ := (show ∃ t, u = Value.int i t from r); subst e; exact mixKind_int P w i t
 | inr x => obtain ⟨t, e⟩ := (show ∃ t, u = Value.str x t from r); subst e; exact mixKind_str P w x t
theorem items_are {P : Program} {w : World} : ∀ {ks : List Key} {us : List Value}, Vals (ks.map kV) us -> ItemsAre (Xf P w) ks us
 | [], _, r => by rw [List.map_nil] at r; cases r; exact .nil
 | k :: ks, _, r => by
   rw [List.map_cons] at r
   cases r with
   | cons h t => exact .cons (kV_is h) (items_are t)
abbrev KT (H : Hp) : List (List Key × V) -> List (List Key × Addr × Value) -> Prop := Paired fun p q => p.1 = q.1 /\ H q.2.1 = some (.tup (p.1.map kV)) /\ RelV p.2 q.2.2
theorem KT.val {H : Hp} {kvs : List (List Key × V)} {xs : List (List Key × Addr × Value)} (r : KT H kvs xs) (k : List Key) : RelO (valV kvs k) ((atKey xs k).map (·.2)) := by
 induction r with
 | nil => exact True.intro
 | @cons p q ps qs h t ih =>
   obtain ⟨h1, _, h2⟩ := h
   by_cases e : p.1 = k
   . have e' : q.1 = k := h1.symm.trans e
     have b : atKey (q :: qs) k = some q.2 := by simp [atKey, List.find?_cons, e']
     rw [Xa e, b]; exact h2
   . have e' : ¬ q.1 = k := fun z => e (h1.trans z)
     have b : atKey (q :: qs) k = atKey qs k := by simp [atKey, List.find?_cons, e']
     rw [Xb e, b]; exact ih
theorem KT.repl {H : Hp} {kvs : List (List Key × V)} {xs : List (List Key × Addr × Value)} (r : KT H kvs xs) (k : List Key) {y : V} {u : Value} (ry : RelV y u) :
   KT H (kvs.map fun kv => if kv.1 = k then (kv.1, y) else kv) (xs.map (putAt k u)) := by
 induction r with
 | nil => exact .nil
 | @cons p q ps qs h t ih =>
   rw [List.map_cons, List.map_cons]
   refine .cons ?_ ih
   obtain ⟨h1, h2, h3⟩ := h
   unfold putAt
   by_cases e : p.1 = k
   . rw [if_pos e, if_pos (h1.symm.trans e)]; exact ⟨h1, h2, ry⟩
   . rw [if_neg e, if_neg (fun z => e (h1.trans z))]; exact ⟨h1, h2, h3⟩
theorem KT.put {H : Hp} {kvs : List (List Key × V)} {xs : List (List Key × Addr × Value)} (r : KT H kvs xs) (k : List Key) {b : Addr} {y : V} {u : Value} (hb : H b = some (.tup (k.map kV))) (ry : RelV y u) :
   KT H (putK kvs k y) (storedH xs k b u) := by
 have e : (kvs.any fun kv => decide (kv.1 = k)) = (atKey xs k).isSome := by
   rw [valV_any, (r.val k).isSome_eq, Option.isSome_map]
 unfold putK storedH
 rw [e]
 by_cases q : (atKey xs k).isSome = true
 . rw [if_pos q, if_pos q]; exact r.repl k ry
 . rw [if_neg q, if_neg q]; exact Paired.snoc r ⟨rfl, hb, ry⟩
theorem KT.keeps {H H' : Hp} {kvs : List (List Key × V)} {xs : List (List Key × Addr × Value)} (r : KT H kvs xs) (ht : ∀ b ys, H b = some (.tup ys) -> H' b = some (.tup ys)) : KT H' kvs xs :=
 Paired.mapP r fun _ _ z => ⟨z.1, ht _ _ z.2.1, z.2.2⟩
section
variable {P : Program} {w : World} {H : Hp} {h : Heap} {a : Addr}
theorem rd_of {u : HO} (ok : HOk P w H h) (e : Rd H a u) : ObjOk P w H h a u := e.ok ok
theorem dk_rd {kvs : List (Key × V)} (ok : HOk P w H h) (e : Rd H a (.dK kvs)) : kvs.length <= sizeLine /\ (a == sysModules) = false /\ ∃ vs, KV kvs vs /\ h.DictOf (Xf P w) a vs :=
 show ObjOk P w H h a (.dK kvs) from rd_of ok e
theorem dk_of {kvs : List (Key × V)} (ok : HOk P w H h) (e : H a = some (.dK kvs)) : kvs.length <= sizeLine /\ (a == sysModules) = false /\ ∃ vs, KV kvs vs /\ h.DictOf (Xf P w) a vs := dk_rd ok (.inl e)
theorem key_of {ks : List Key} (ok : HOk P w H h) (e : H a = some (.tup (ks.map kV))) : (tupleKind (Xf P w)).is h ks a := by
 obtain ⟨_, its, r, o, h1, h2, n, h3⟩ := (show ObjOk P w H h a (.tup (ks.map kV)) from ok a _ e)
 exact ⟨o, its.toArray, n, h1, h2, h3, by simpa using items_are r⟩
theorem dt_rd {kvs : List (List Key × V)} (ok : HOk P w H h) (e : Rd H a (.dT kvs)) : kvs.length <= sizeLine /\ (a == sysModules) = false /\
   ∃ xs, KT H kvs xs /\ h.DictOfH (tupleKind (Xf P w)) a xs := by
 obtain ⟨z, y, xs, r, o, es, ep, h1, h2, h3, h4, h5⟩ := (show ObjOk P w H h a (.dT kvs) from rd_of ok e)
 refine ⟨z, y, xs, r, o, es, ep, h1, h2, h3, h4, fun x hx => ?_, h5⟩
 have all : ∀ {l : List (List Key × V)} {m : List (List Key × Addr × Value)}, KT H l m -> ∀ x ∈ m, (tupleKind (Xf P w)).is h x.1 x.2.1 := by
   intro l m q
   induction q with
   | nil => intro x hx; exact nomatch hx
   | @cons p q ps qs hq t ih =>
     intro x hx
     rcases List.mem_cons.mp hx with e | hx
     . subst e
       exact key_of ok (by rw [<- hq.1]; exact hq.2.1)
     . exact ih x hx
 exact all r x hx
theorem dt_of {kvs : List (List Key × V)} (ok : HOk P w H h) (e : H a = some (.dT kvs)) : kvs.length <= sizeLine /\ (a == sysModules) = false /\
   ∃ xs, KT H kvs xs /\ h.DictOfH (tupleKind (Xf P w)) a xs := dt_rd ok (.inl e)
end
def DGet (H : Hp) (a : Addr) (y : V) (r : Option V) : Prop :=
 (∃ kvs k, Rd H a (.dK kvs) /\ y = kV k /\ r = valV kvs k) \/ ∃ kvs k b, Rd H a (.dT kvs) /\ y = .ref b /\ H b = some (.tup (k.map kV)) /\ r = valV kvs k
def DPut (H : Hp) (a : Addr) (y v : V) (H' : Hp) : Prop :=
 (∃ kvs k, H a = some (.dK kvs) /\ y = kV k /\ kvs.length < sizeLine /\ H' = upd H a (.dK (putK kvs k v))) \/
 ∃ kvs k b, H a = some (.dT kvs) /\ y = .ref b /\ H b = some (.tup (k.map kV)) /\ kvs.length < sizeLine /\ H' = upd H a (.dT (putK kvs k v))
theorem DGet.t {H : Hp} {a b : Addr} {kvs : List (List Key × V)} {k : List Key} (e : H a = some (.dT kvs)) (eb : H b = some (.tup (k.map kV))) : DGet H a (.ref b) (valV kvs k) := .inr ⟨kvs, k, b, .inl e, rfl, eb, rfl⟩
theorem DPut.t {H : Hp} {a b : Addr} {kvs : List (List Key × V)} {k : List Key} {v : V} (e : H a = some (.dT kvs)) (eb : H b = some (.tup (k.map kV))) (hl : kvs.length < sizeLine) :
   DPut H a (.ref b) v (upd H a (.dT (putK kvs k v))) := .inr ⟨kvs, k, b, e, rfl, eb, hl, rfl⟩
section
variable {X : Cx} {pins : List (Addr × Obj)} {σ : St} {H : Hp} {s : Shared} {a : Addr} {y v : V} {u r : Value} {o : Option V} {A : Around} {E : Value -> Shared -> Prop}
theorem Inv.big (I : Inv X pins σ H s) : sysModules < s.heap.objs.size := by
 have h : mainGlobals < s.heap.objs.size := (I.mod.glob.keeps I.bk).lt
 exact Nat.lt_trans (by decide) h
theorem d_getItem {Q : Value -> Shared -> Prop} (hu : A.units + 1 < cLine) (I : Inv X pins σ H s) (g : DGet H a y (some v)) (ry : RelV y u) (h : ∀ w' s', Inv X pins σ H s' -> RelV v w' -> Q w' s') :
   wpAny (model X.prog X.w) A (getItem (.ref a) u) Q E s := by
 rcases g with ⟨kvs, k, e, ey, l⟩ | ⟨kvs, k, b, e, ey, eb, l⟩
 . subst ey
   obtain ⟨z, hd, vs, rel, dd⟩ := dk_rd I.hok e
   obtain ⟨w', hw, rw'⟩ := RelO.some_of (v := v) (o := valueAt vs k) (by rw [l]; exact rel.val k)
   exact wpAny_getItem_of (kV_is ry) dd.mapOf hw (h w' _ (I.tok _) rw')
 . subst ey
   cases (show u = Value.ref b from ry)
   obtain ⟨z, hd, xs, rel, dd⟩ := dt_rd I.hok e
   obtain ⟨w', hw, rw'⟩ := RelO.some_of (v := v) (o := (atKey xs k).map (·.2)) (by rw [l]; exact rel.val k)
   obtain ⟨p, hp, hp2⟩ := Option.map_eq_some_iff.mp hw
   refine wpAny_getItem_heap (tupleKind_room_in1 hu) (key_of I.hok eb) dd hp ?_
   rw [hp2]
   exact h w' _ (I.tok _) rw'
theorem d_notIn {Q : Value -> Shared -> Prop} (hu : A.units + 1 < cLine) (I : Inv X pins σ H s) (g : DGet H a y o) (ry : RelV y u) (h : ∀ s', Inv X pins σ H s' -> Q (.bool (!o.isSome)) s') :
   wpAny (model X.prog X.w) A (compareOp .NotIn u (.ref a)) Q E s := by
 rcases g with ⟨kvs, k, e, ey, l⟩ | ⟨kvs, k, b, e, ey, eb, l⟩
 . subst ey
   obtain ⟨z, hd, vs, rel, dd⟩ := dk_rd I.hok e
   refine wpAny_notIn_of (kV_is ry) hd dd.mapOf ?_
   rw [<- (rel.val k).isSome_eq, <- l]
   exact h _ (I.tok _)
 . subst ey
   cases (show u = Value.ref b from ry)
   obtain ⟨z, hd, xs, rel, dd⟩ := dt_rd I.hok e
   refine wpAny_notIn_heap (tupleKind_room_in1 hu) (key_of I.hok eb) hd dd ?_
   have q := (rel.val k).isSome_eq
   rw [Option.isSome_map] at q
   rw [<- q, <- l]
   exact h _ (I.tok _)
theorem d_write {h' : Heap} {t' : Nat} {ob : HO} (I : Inv X pins σ H s) (mu : Mut (H a)) (hs : Heap.SameBut a s.heap h') (he : ∃ q, h'.get? a = some q) (new : ObjOk X.prog X.w (upd H a ob) h' a ob) :
   Inv X pins σ (upd H a ob) { s with heap := h', toks := t' } :=
 I.write (x := a) (e := a) mu (.inl rfl) (fun b q hb z => (hs.2 b hb).trans z) he new
theorem dk_new {P : Program} {w : World} {H' : Hp} {h' : Heap} {kvs : List (Key × V)} {vs : List (Key × Value)} (z : kvs.length <= sizeLine) (hd : (a == sysModules) = false) (rel : KV kvs vs) (dd : h'.DictOf (Xf P w) a vs) :
   ObjOk P w H' h' a (.dK kvs) := ⟨z, hd, vs, rel, dd⟩
theorem d_setItem {H' : Hp} {Q : Unit -> Shared -> Prop} (hu : A.units + 1 < cLine) (I : Inv X pins σ H s) (g : DPut H a y v H') (ry : RelV y u) (rv : RelV v r) (h : ∀ s', Inv X pins σ H' s' -> Q () s') :
   wpAny (model X.prog X.w) A (setItem (.ref a) u r) Q E s := by
 rcases g with ⟨kvs, k, e, ey, l, eH⟩ | ⟨kvs, k, b, e, ey, eb, l, eH⟩
 . subst ey eH
   obtain ⟨z, hd, vs, rel, dd⟩ := dk_of I.hok e
   have hz : vs.length <= sizeLine := by rw [<- rel.length]; exact z
   have hl : (putK kvs k v).length <= sizeLine := by have := Ql kvs k v; omega
   refine wpAny_setItem_pairs (hsz := hz) (kV_is ry) dd fun h' dd' hs => h _ ?_
   have he : ∃ q, h'.get? a = some q := let ⟨q, _, _, hq, _⟩ := dd'; ⟨q, hq⟩
   exact d_write I (by rw [e]; exact True.intro) hs he (dk_new hl hd (rel.put k rv) dd')
 . subst ey eH
   cases (show u = Value.ref b from ry)
   obtain ⟨z, hd, xs, rel, dd⟩ := dt_of I.hok e
   have hz : xs.length <= sizeLine := by rw [<- Paired.length rel]; exact z
   have hl : (putK kvs k v).length <= sizeLine := by have := Ql kvs k v; omega
   refine wpAny_setItem_heap (hsz := hz) (tupleKind_room_in1 hu) (key_of I.hok eb) dd fun h' dd' hs => h _ ?_
   obtain ⟨q, es, ep, hq, h2, h3, h4, _, h5⟩ := dd'
   refine d_write I (by rw [e]; exact True.intro) hs ⟨q, hq⟩ ⟨hl, hd, _, (rel.put k eb rv).keeps fun c ys ec => ?_, q, es, ep, hq, h2, h3, h4, h5⟩
   rw [Zl (Xj ec e (fun z => nomatch z))]
   exact ec
end
section
variable {X : Cx} {pins : List (Addr × Obj)} {σ : St} {H : Hp} {s : Shared} {a : Addr} {kvs : List (Key × V)} {k : Key} {u : Value} {A : Around} {E : Value -> Shared -> Prop}
end
def NoSl (i : Expr) : Prop := ∀ ov iv, subscripted i false ov iv = operate [ov, iv] (getItem ov iv)
theorem subD_of {prog : Program} {w : World} {A : Around} {E : Value -> Shared -> Prop} {s : Shared} {env : Env} {value slice : Expr} {pos : Pos} {T id : String} {Q : Value -> Shared -> Prop}
   (hl : typeLookup (.type T) "__getitem__" = pure (some (.builtin id))) (hs : NoSl slice)
   (h : wpAny (model prog w) A (eval value env) (fun o s₁ => wpAny (model prog w) A (eval slice env) (fun i s₂ => s₂.TypeIs o T /\ wpAny (model prog w) A (getItem o i) Q E s₂) E s₁) E s) :
   wpAny (model prog w) A (eval (.Subscript value slice pos) env) Q E s := by
 refine Subscript_ (wpAny_mono h (fun o s₁ h₁ => wpAny_mono h₁ (fun i s₂ h₂ => ?_) fun _ _ x => x) fun _ _ x => x)
 obtain ⟨hT, h₂⟩ := h₂
 unfold subscriptTail
 refine wpAny_bind ?_
 rw [getitemInPython_of_ne hT.not_modules]
 refine wpAny_bind (wpAny_specialOf hT hl ?_)
 have fin : wpAny (model prog w) A (subscripted slice false o i) (fun r s₃ => wpAny (model prog w) A (letTemporaryGo value o r >>= fun _ => pure r) Q E s₃) E s₂ := by
   rw [hs o i]
   exact wpAny_operating (wpAny_mono h₂ (fun r s₃ h₃ => wpAny_bind (wpAny_letTemporaryGo (wpAny_pure h₃))) fun _ _ x => x)
 first
   | exact wpAny_pure (wpAny_bind fin)
   | exact wpAny_bind (wpAny_pure (wpAny_bind fin))
   | exact wpAny_bind fin
theorem dict_typeIs {X : Cx} {pins : List (Addr × Obj)} {σ : St} {H : Hp} {s : Shared} {a : Addr} {y : V} {o : Option V} (I : Inv X pins σ H s) (g : DGet H a y o) : s.TypeIs (.ref a) "dict" := by
 rcases g with ⟨kvs, k, e, _, _⟩ | ⟨kvs, k, b, e, _, _, _⟩
 . obtain ⟨_, _, vs, _, dd⟩ := dk_rd I.hok e
   exact dd.typeIs
 . obtain ⟨_, _, xs, _, dd⟩ := dt_rd I.hok e
   exact dd.typeIs
def tDGet (td ty : TE) : TE := fun σ H Q => td σ H fun x H1 => ty σ H1 fun y H2 => ∃ a v, x = .ref a /\ DGet H2 a y (some v) /\ Q v H2
def tDNotIn (ty td : TE) : TE := fun σ H Q => ty σ H fun y H1 => td σ H1 fun x H2 => ∃ a o, x = .ref a /\ DGet H2 a y o /\ Q (.bl (!o.isSome)) H2
def sDPut (td ty tv : TE) : TS := fun D σ H => tv σ H fun v H1 => td σ H1 fun x H2 => ty σ H2 fun y H3 => ∃ a H4, x = .ref a /\ DPut H3 a y v H4 /\ D.nx σ H4
section
variable {X : Cx} {o i e value : Expr} {pos pos' tpos : Pos} {td ty tv : TE}
theorem pe_dget (hu : X.A.units + 1 < cLine) (ho : PE X o td) (hi : PE X i ty) (hs : NoSl i) : PE X (.Subscript o i pos) (tDGet td ty) := by
 intro pins s σ H Q I h
 refine subD_of PySem.F.slot_dict_getitem.lookup hs (thn (ho pins s σ H _ I h) fun u s1 ⟨x, H1, I1, rx, q1⟩ => thn (hi pins s1 σ H1 _ I1 q1) fun iv s2 ⟨y, H2, I2, ry, a, v, ex, g, q2⟩ => ?_)
 subst ex
 obtain rfl : u = Value.ref a := rx
 exact ⟨dict_typeIs I2 g, d_getItem hu I2 g ry fun w' s3 I3 rw' => ⟨v, H2, I3, rw', q2⟩⟩
theorem pc_dnotin (hu : X.A.units + 1 < cLine) (hi : PE X i ty) (ho : PE X o td) : PC X .NotIn i o (tDNotIn ty td) := by
 intro pins s σ H Q I h
 refine thn (hi pins s σ H _ I h) fun iv s1 ⟨y, H1, I1, ry, q1⟩ => thn (ho pins s1 σ H1 _ I1 q1) fun u s2 ⟨x, H2, I2, rx, a, ov, ex, g, q2⟩ => ?_
 subst ex
 obtain rfl : u = Value.ref a := rx
 exact d_notIn hu I2 g ry fun s3 I3 => ⟨.bl (!ov.isSome), H2, I3, rfl, q2⟩
theorem ps_dput (hu : X.A.units + 1 < cLine) (ho : PE X o td) (hi : PE X i ty) (hv : PE X value tv) (hs : swapsWith value (some (.Subscript o i pos')) pos.line X.env = pure false) :
   PS X (.Assign [.Subscript o i pos'] value pos) (sDPut td ty tv) := by
 intro pins s σ H D I h
 refine wpAny_Assign_Subscript (thn (hv pins s σ H _ I h) fun r s1 ⟨v, H1, I1, rv, q1⟩ => thn (ho pins s1 σ H1 _ I1 q1) fun u s2 ⟨x, H2, I2, rx, q2⟩ => thn (hi pins s2 σ H2 _ I2 q2) fun iv s3 ⟨y, H3, I3, ry, a, H4, ex, g, q3⟩ => ?_) hs
 subst ex
 obtain rfl : u = Value.ref a := rx
 exact d_setItem hu I3 g ry rv fun s4 I4 => ⟨σ, H4, I4, q3⟩
end
theorem dt_empty {P : Program} {w : World} {H : Hp} (h : Heap) (hb : sysModules < h.objs.size) : ObjOk P w H (h.push { cls := .type "dict", data := .dict #[] }) h.objs.size (.dT []) :=
 ⟨Nat.zero_le _, beq_eq_false_iff_ne.mpr (Ne.symm (Nat.ne_of_lt hb)), [], .nil, _, #[], 0, Heap.get?_push_size _ rfl, ⟨rfl, rfl, rfl⟩, rfl, rfl, List.nodup_nil⟩
def tDNewT : TE := fun _ H Q => ∀ p, H p = none -> Q (.ref p) (upd H p (.dT []))
section
variable {X : Cx} {pos : Pos}
theorem pe_dnewT : PE X (.Dict [] [] pos) tDNewT := fun pins s σ H Q I h =>
 wpAny_Dict_empty ⟨.ref s.heap.objs.size, _, I.laid (a := s.heap.objs.size) (o := .dT []) (t' := s.toks) (fun _ _ q => Heap.get?_push_of_some _ q) (Nat.le_refl _) (dt_empty s.heap I.big), rfl, h _ (I.hok.fresh (Nat.le_refl _))⟩
end
section
variable {X : Cx} {pins : List (Addr × Obj)} {σ : St} {H : Hp} {s : Shared} {a : Addr} {y d : V} {u r : Value} {o : Option V} {A : Around} {E : Value -> Shared -> Prop}
end
section
variable {X : Cx} {o e f : Expr} {apos cpos : Pos} {td ty tx : TE}
end
section
variable {X : Cx} {pins : List (Addr × Obj)} {σ : St} {H : Hp} {s : Shared} {a : Addr} {kvs : List (Key × V)} {A : Around} {E : Value -> Shared -> Prop}
end
section
variable {X : Cx} {pins : List (Addr × Obj)} {σ : St} {H : Hp} {s : Shared} {a : Addr} {y : V} {u : Value} {A : Around} {E : Value -> Shared -> Prop}
end
end L2
namespace L2
open PySem PySem.Spec PyProof.Rows
section
variable {prog : Program} {w : World} {A : Around} {E : Value -> Shared -> Prop}
end
section
variable {X : Cx}
end
end L2
namespace L2
open PySem PySem.Spec PyProof.Rows
theorem boot_reversed5 : bootBuiltins "reversed" = some (.type "reversed") := by decide +kernel
section
variable {X : Cx} {pins : List (Addr × Obj)} {σ : St} {H : Hp} {s : Shared} {h' : Heap}
theorem Inv.turnedL {t' : Nat} {ch : List Addr} (I : Inv X pins σ H s) (k : ∀ b o, b ∉ ch -> s.heap.get? b = some o -> h'.get? b = some o) (hf : ∀ b ∈ ch, FpOk X pins H b) : Inv X pins σ H { s with heap := h', toks := t' } := by
 have nit : ∀ b u, H b = some u -> b ∉ ch := fun b u e z => by
   have q := (hf b z).1
   rw [q] at e; cases e
 refine I.step (g' := s.gens) (d' := s.drawn) (ch := ch) (fun b hb => ⟨(hf b hb).2.2.2.1, (hf b hb).2.1, (hf b hb).2.2.2.2.1, (hf b hb).2.2.2.2.2⟩) (fun b o _ _ hc e _ => k b o hc e) (fun b o _ _ hc e _ => ⟨o.slots, k b o hc e⟩)
   (fun _ _ _ _ n => n) (fun b o hc e => ⟨o, k b o hc e⟩) (fun _ _ e => e) (fun _ _ _ e => e) (fun b ps e => ⟨#[], by rw [e]; simp⟩) (fun m hm => ?_) (fun b u e => ?_) I.bare
 . obtain ⟨o, es, ep, ho, r⟩ := hm
   exact ⟨o, es, ep, k _ o (fun z => (hf _ z).2.1 rfl) ho, r⟩
 . refine (I.hok b u e).stay (fun c v hc q => k c v ?_ q) (fun _ q => q) fun _ _ q => q
   rcases hc with z | z
   . rw [z]; exact nit b u e
   . exact nit c _ z
theorem Inv.turnedNew {t' : Nat} {ch : List Addr} {T : Addr} {ob : HO} (I : Inv X pins σ H s) (k : ∀ b o, b ∉ ch -> s.heap.get? b = some o -> h'.get? b = some o) (hf : ∀ b ∈ ch, FpOk X pins H b) (hT : s.heap.objs.size <= T)
   (new : ObjOk X.prog X.w (upd H T ob) h' T ob) : Inv X pins σ (upd H T ob) { s with heap := h', toks := t' } := by
 have hn : H T = none := I.hok.fresh hT
 have nit : ∀ b u, H b = some u -> b ∉ ch := fun b u e z => by
   have q := (hf b z).1
   rw [q] at e; cases e
 refine I.step (g' := s.gens) (d' := s.drawn) (ch := ch) (fun b hb => ⟨(hf b hb).2.2.2.1, (hf b hb).2.1, (hf b hb).2.2.2.2.1, (hf b hb).2.2.2.2.2⟩) (fun b o _ _ hc e _ => k b o hc e) (fun b o _ _ hc e _ => ⟨o.slots, k b o hc e⟩)
   (fun b o _ e n => ?_) (fun b o hc e => ⟨o, k b o hc e⟩) (fun b xs e => ?_) (fun b o u e => ?_) (fun b ps e => ⟨#[], ?_⟩) (fun m hm => ?_) (fun b u e => ?_) I.bare
 . rw [Zl (Nat.ne_of_lt (Nat.lt_of_lt_of_le (Heap.lt_size e) hT))]; exact n
 . rw [Zl (Yb e hn)]; exact e
 . rw [Zl (Yb e hn)]; exact e
 . rw [Zl (Yb e hn), e]; simp
 . obtain ⟨o, es, ep, ho, r⟩ := hm
   exact ⟨o, es, ep, k _ o (fun z => (hf _ z).2.1 rfl) ho, r⟩
 . by_cases hb : b = T
   . subst hb
     rw [Zb] at e
     cases e
     exact new
   . rw [Zl hb] at e
     refine (I.hok b u e).stay (fun c v hc q => k c v ?_ q) (fun c q => by rw [Zl (Yb q hn)]; exact q) fun c xs q => by rw [Zl (Yb q hn)]; exact q
     rcases hc with z | z
     . rw [z]; exact nit b u e
     . exact nit c _ z
end
section
variable {X : Cx}
theorem pi_one {tg : Expr} {pins : List (Addr × Obj)} {σ : St} {H : Hp} {s : Shared} {R : It -> Hp -> Prop} {J : It} {tn : Nat -> Heap -> Prop} {tk : Nat} (I : Inv X pins σ H s) (o : Obj)
   (T : Turn X.prog X.w X.K tg J [s.heap.objs.size] s.heap.objs.size tn) (st : tn 0 (s.heap.push o)) (q : R J H) : PIE X pins σ tg R (.ref s.heap.objs.size) { s with heap := s.heap.push o, toks := tk } := by
 refine ⟨s.heap.objs.size, [s.heap.objs.size], tn, J, H, rfl, I.kept fun b ob e => Heap.get?_push_of_some _ e, T, st, fun b hb => ?_, q⟩
 have e : b = s.heap.objs.size := by simpa using hb
 subst e
 exact I.fpOk (Nat.le_refl _) (I.hok.fresh (Nat.le_refl _))
end
def Itc (lo c : Int) (n : Nat) : It := ⟨fun i _ => i < n, fun i H x H' => H' = H /\ x = .int (lo + (i : Nat) * c), fun i _ => n <= i⟩
theorem turn_rangeC {P : Program} {w : World} {K : PySem.W.Frag} {tg : Expr} (it : Addr) (lo c : Int) (n : Nat) : Turn P w K tg (Itc lo c n) [it] it (fun i h => IsRangeIter h it (lo + (i : Nat) * c) ((n : Int) - (i : Nat)) c) where
 mem := by simp
 obj := fun i h st b hb => by
   have e : b = it := by simpa using hb
   subst e
   exact ⟨_, st, fun v z => nomatch z⟩
 keep := fun i h h' st k => k it (by simp) _ st
 item := by
   intro X hP hw hK hc i pins s σ H E I hf st hg
   subst hP hw hK
   obtain ⟨f0, f1, f2, f3, f4, f5⟩ := hf it (by simp)
   have W := Walks.range (prog := X.prog) (w := X.w) (I.ok.hd hc) it lo c n
   refine W.item i s _ _ hg st fun v h' tk hv st' kk => ?_
   obtain ⟨t, rfl⟩ := hv
   have I1 : Inv X pins σ H { s with heap := h', toks := tk } := I.turned (fun b o hb e => kk b o (by simpa using hb) e) f0 f1 f3 f4 f5
   exact ⟨_, rfl, go_of (s := { s with heap := h', toks := tk }) (n := "range_iterator") st' rfl rfl (by decide) ⟨.int (lo + (i : Nat) * c), H, I1, ⟨t, rfl⟩, ⟨rfl, rfl⟩, st', fun b hb => (hf b hb).1⟩⟩
 done := by
   intro X hP hw hK hc i pins s σ H E I hf st hg
   subst hP hw hK
   obtain ⟨f0, f1, f2, f3, f4, f5⟩ := hf it (by simp)
   exact wpAny_pyNext_range_end (I.ok.hd hc) st (by have : n <= i := hg; omega) fun h' eb => ⟨rfl, I.turned (t' := s.toks) (fun b o hb e => eb b o hb e) f0 f1 f3 f4 f5⟩
 self := fun A i s Q E st h => wpAny_pyIter_rangeiter st h
def RgC (i j c : Int) (n : Nat) : Prop := c ≠ 0 /\ c.natAbs < 1073741824 /\ Builtin.Range.small i j c = true /\ Builtin.Range.rangeSize i j c = n
theorem RgC.neg {i j : Int} (ha : -(2 ^ 62) <= i) (ha' : i < 2 ^ 62) (hb : -(2 ^ 62) <= j) (hb' : j < 2 ^ 62) : RgC i j (-1) (i - j).toNat :=
 ⟨by decide, by decide, PySem.W.small_down ha ha' hb hb', PySem.W.rangeSize_downNat i j⟩
def iRng3 (ta : TA) : TI := fun σ H R => ta σ H fun vs H1 => ∃ (i j c : Int) (n : Nat), vs = [.int i, .int j, .int c] /\ RgC i j c n /\ R (Itc i c n) H1
section
variable {X : Cx} {tg : Expr}
theorem pi_range3 {a b c : Expr} {ta : TA} {p pos : Pos} (hg : Gl X "range") (hm : X.mg "range" = none) (ha : PA X [a, b, c] ta)
   (hs : starEach [a, b, c] X.env = (false, eval a X.env) :: starEach [b, c] X.env := by rfl) (hpl : (backTo pos (starEach [b, c] X.env)).any (·.1) = false := by rfl) :
   PI X tg (.Call (.Name "range" p) [a, b, c] [] pos) (iRng3 ta) := by
 intro pins s σ H R I h
 refine Call_ (ld_blt I hg hm boot_range (PyProof.Rows.callWith_type1 (thn (ha pos pins s σ H _ I h) fun us s1 ⟨vs, H1, I1, r1, q1⟩ => ?_) hs hpl))
 obtain ⟨i, j, k, n, e, ⟨c0, c1, c2, c3⟩, q⟩ := q1
 subst e
 cases r1 with
 | cons r rr =>
   cases rr with
   | cons r' rr =>
     cases rr with
     | cons r'' rr =>
       cases rr
       obtain ⟨t, rfl⟩ := r
       obtain ⟨t', rfl⟩ := r'
       obtain ⟨t'', rfl⟩ := r''
       refine call_range_3 c0 ?_ (.inl (PyProof.noPylong_small c1))
       refine wpAny_pyIter_range (IsRange.new ..) c2 ?_
       have I2 : Inv X pins σ H1 { s1 with heap := s1.heap.push { cls := .type "range", data := .fields #[.int i t, .int j t', .int k t''] } } := I1.kept (t' := s1.toks) fun b o e => Heap.get?_push_of_some _ e
       refine pi_one (tk := s1.toks) I2 _ (turn_rangeC _ i k n) ?_ q
       have e1 : i + ((0 : Nat) : Int) * k = i := by simp
       have e2 : (n : Int) - ((0 : Nat) : Int) = Builtin.Range.rangeSize i j k := by rw [c3]; simp
       show IsRangeIter _ _ (i + ((0 : Nat) : Int) * k) ((n : Int) - ((0 : Nat) : Int)) k
       rw [e1, e2]
       exact Heap.get?_push_size _ rfl
end
theorem for_rangeC {lo c : Int} {n : Nat} {g : TG} {tb : TS} {D : Ends} {σ : St} {H : Hp} (Pv : Nat -> St -> Hp -> Prop) (h0 : Pv 0 σ H)
   (hs : ∀ i σ H, i < n -> Pv i σ H -> g (.int (lo + (i : Nat) * c)) σ H fun σ2 H2 => tb { D with nx := Pv (i + 1), ct := Pv (i + 1), bk := D.nx } σ2 H2) (hd : ∀ σ H, Pv n σ H -> D.nx σ H) :
   ∃ W : Nat -> Nat -> St -> Hp -> Prop, (∃ m, W 0 m σ H) /\ ∀ i m σ H, W i m σ H ->
     ((Itc lo c n).stop i H /\ D.nx σ H) \/ ((Itc lo c n).go i H /\ ∃ N : St -> Hp -> Prop, (∀ σ' H', N σ' H' -> ∃ m', m' < m /\ W (i + 1) m' σ' H') /\ ∀ x H', (Itc lo c n).yld i H x H' -> g x σ H' fun σ2 H2 => tb { D with nx := N, ct := N, bk := D.nx } σ2 H2) := by
 refine ⟨fun i m σ H => m = n - i /\ i <= n /\ Pv i σ H, ⟨n, by simp, Nat.zero_le _, h0⟩, ?_⟩
 rintro i m σ H ⟨rfl, hi, p⟩
 by_cases hlt : i < n
 . refine .inr ⟨hlt, Pv (i + 1), fun σ' H' p' => ⟨n - (i + 1), by omega, rfl, hlt, p'⟩, fun x H' y => ?_⟩
   obtain ⟨e, y⟩ := y
   subst e y
   exact hs i σ _ hlt p
 . have e : i = n := by omega
   subst e
   exact .inl ⟨Nat.le_refl _, hd σ H p⟩
def Itv (K : PySem.W.Frag) (a : Addr) (n : Nat) : It :=
 ⟨fun i H => i < n /\ ∃ (xs : List V) (x : V), SqL K H a xs /\ xs[n - 1 - i]? = some x, fun i H x H' => H' = H /\ ∀ xs, SqL K H a xs -> xs[n - 1 - i]? = some x, fun i _ => n <= i⟩
theorem turn_rev {P : Program} {w : World} {K : PySem.W.Frag} {tg : Expr} (a it : Addr) (n : Nat) : Turn P w K tg (Itv K a n) [it] it (fun i h => i <= n /\ h.IsRevIter it a ((n : Int) - 1 - (i : Nat))) where
 mem := by simp
 obj := fun i h st b hb => by
   have e : b = it := by simpa using hb
   subst e
   obtain ⟨_, o, e, c, d⟩ := st
   exact ⟨o, e, fun v z => by rw [d] at z; cases z⟩
 keep := fun i h h' st k => ⟨st.1, st.2.at fun o e => k it (by simp) o e⟩
 item := by
   intro X hP hw hK hc i pins s σ H E I hf st hg
   subst hP hw hK
   obtain ⟨hin, xs, x, hq, hx⟩ := hg
   obtain ⟨its, rv, p, hz⟩ := I.list hq
   obtain ⟨u, hu, ru⟩ := rv.get hx
   obtain ⟨f0, f1, f2, f3, f4, f5⟩ := hf it (by simp)
   obtain ⟨_, hit⟩ := st
   have e1 : (n : Int) - 1 - ((i : Nat) : Int) = ((n - 1 - i : Nat) : Int) := by omega
   rw [e1] at hit
   refine wpAny_pyNext_rev_item hit p.isList (x := u) (by simpa using hu) fun h' st' sb => ?_
   have e2 : ((n - 1 - i : Nat) : Int) - 1 = (n : Int) - 1 - ((i + 1 : Nat) : Int) := by omega
   rw [e2] at st'
   have I1 : Inv X pins σ H { s with heap := h' } := I.turned (t' := s.toks) (fun b o hb e => (sb.2 b hb).trans e) f0 f1 f3 f4 f5
   obtain ⟨o, e, c, d⟩ := id st'
   exact ⟨u, rfl, go_of (s := { s with heap := h' }) e c d (by decide) ⟨x, H, I1, ru, ⟨rfl, fun ys hy => by rw [I.list_inj hy hq]; exact hx⟩, ⟨hin, st'⟩, fun b hb => (hf b hb).1⟩⟩
 done := by
   intro X hP hw hK hc i pins s σ H E I hf st hg
   subst hP hw hK
   obtain ⟨f0, f1, f2, f3, f4, f5⟩ := hf it (by simp)
   obtain ⟨hin, hit⟩ := st
   have hge : n <= i := hg
   have e1 : (n : Int) - 1 - ((i : Nat) : Int) = -1 := by omega
   rw [e1] at hit
   exact wpAny_pyNext_rev_end (I.ok.hd hc) hit fun h' eb => ⟨rfl, I.turned (t' := s.toks) (fun b o hb e => eb b o hb e) f0 f1 f3 f4 f5⟩
 self := fun A i s Q E st h => wpAny_pyIter_revIter st.2 h
def iRev (K : PySem.W.Frag) (ta : TA) : TI := fun σ H R => ta σ H fun vs H1 => ∃ (a : Addr) (xs : List V), vs = [.ref a] /\ SqL K H1 a xs /\ R (Itv K a xs.length) H1
section
variable {X : Cx} {tg : Expr}
theorem pi_reversed {e : Expr} {ta : TA} {p pos : Pos} (hg : Gl X "reversed") (hm : X.mg "reversed" = none) (ha : PA X [e] ta) (hs : starEach [e] X.env = [(false, eval e X.env)] := by rfl) : PI X tg (.Call (.Name "reversed" p) [e] [] pos) (iRev X.K ta) := by
 intro pins s σ H R I h
 refine Call_ (ld_blt I hg hm boot_reversed5 (PyProof.Rows.callWith_type1 (thn (ha pos pins s σ H _ I h) fun us s1 ⟨vs, H1, I1, r1, q1⟩ => ?_) hs rfl))
 obtain ⟨a, xs, e, hq, q⟩ := q1
 subst e
 cases r1 with
 | cons r rr =>
   cases rr
   cases r
   obtain ⟨its, rv, p', hz⟩ := I1.list hq
   have hl := rv.length
   have e1 : ((its.toArray.size : Nat) : Int) - 1 = (xs.length : Int) - 1 - ((0 : Nat) : Int) := by simp only [List.size_toArray]; omega
   refine call_reversed_list p'.isList (wpAny_pyIter_revIter (l := a) (i := ((its.toArray.size : Nat) : Int) - 1) ⟨_, Heap.get?_push_size _ rfl, rfl, rfl⟩ ?_)
   refine pi_one (tk := s1.toks) I1 _ (turn_rev a _ xs.length) ⟨Nat.zero_le _, ?_⟩ q
   rw [<- e1]
   exact ⟨_, Heap.get?_push_size _ rfl, rfl, rfl⟩
end
section
variable {prog : Program} {w : World} {A : Around} {E : Value -> Shared -> Prop} {s : Shared}
end
section
variable {X : Cx} {pins : List (Addr × Obj)} {σ : St} {H : Hp} {s : Shared} {d : Addr} {o : Obj}
end
section
variable {P : Program} {w : World} {K : PySem.W.Frag} {tg : Expr} {d : Addr} {o : Obj} {es : Array DictEntry} {ep : Nat}
end
section
variable {X : Cx} {tg e : Expr} {td : TE} {apos cpos : Pos}
end
def Ite (K : PySem.W.Frag) (a : Addr) : It :=
 ⟨fun i H => ∃ (xs : List V) (x : V), SqL K H a xs /\ xs[i]? = some x, fun i H v H' => ∃ T x, v = .ref T /\ H T = none /\ H' = upd H T (.tup [.int (i : Nat), x]) /\ ∀ xs, SqL K H a xs -> xs[i]? = some x, fun i H => ∃ xs : List V, SqL K H a xs /\ xs.length <= i⟩
theorem turn_enum {P : Program} {w : World} {K : PySem.W.Frag} {elts : List Expr} {kk : Nat} {tpos : Pos} (a e it : Addr) :
   Turn P w K (.Tuple elts kk tpos) (Ite K a) [e, it] e (fun i h => (∃ old, IsEnum h e it ((i : Nat) : Int) old) /\ h.IsListIter it a i /\ e ≠ it) where
 mem := by simp
 obj := fun i h st b hb => by
   obtain ⟨⟨old, he⟩, ⟨o, ho, hc, hd⟩, _⟩ := st
   have e' : b = e \/ b = it := by simpa using hb
   rcases e' with z | z
   . rw [z]; exact ⟨_, he, fun v q => nomatch q⟩
   . rw [z]; exact ⟨o, ho, fun v q => by rw [hd] at q; cases q⟩
 keep := fun i h h' st k => let ⟨⟨old, he⟩, hi, hne⟩ := st; ⟨⟨old, k e (by simp) _ he⟩, hi.at fun o q => k it (by simp) o q, hne⟩
 item := by
   intro X hP hw hK hc i pins s σ H E I hf st hg
   subst hP hw hK
   obtain ⟨⟨old, he⟩, hit, hne⟩ := st
   obtain ⟨xs, x, hq, hx⟩ := hg
   obtain ⟨its, rv, p, hz⟩ := I.list hq
   obtain ⟨u, hu, ru⟩ := rv.get hx
   have hel : e < s.heap.objs.size := Heap.lt_size he
   have hil : it < s.heap.objs.size := by obtain ⟨_, q, _⟩ := hit; exact Heap.lt_size q
   refine wpAny_pyNext_enum_item he hit p.isList (x := u) (by simpa using hu) hne fun h' ho hit' hT hsz hk => ?_
   refine ⟨_, rfl, wpAny_letOwnedTupleGo_enum (s := { s with heap := h', toks := s.toks + 1 }) ho fun h'' he' sb => ?_⟩
   have hT2 : h''.get? s.heap.objs.size = some { cls := .type "tuple", data := .seq #[.int i s.toks, u] } := (sb.2 _ (Nat.ne_of_gt hel)).trans hT
   have new : ObjOk X.prog X.w (upd H s.heap.objs.size (.tup [.int (i : Nat), x])) h'' s.heap.objs.size (.tup [.int (i : Nat), x]) :=
     ⟨by show 2 <= sizeLine; decide, [.int i s.toks, u], .cons ⟨_, rfl⟩ (.cons ru .nil), ⟨_, hT2, rfl, _, rfl⟩⟩
   have I1 : Inv X pins σ (upd H s.heap.objs.size (.tup [.int (i : Nat), x])) { s with heap := h'', toks := s.toks + 1 } :=
     I.turnedNew (ch := [e, it]) (fun b ob hb q => (sb.2 b (fun z => hb (by simp [z]))).trans (hk b ob (fun z => hb (by simp [z])) (fun z => hb (by simp [z])) q)) hf (Nat.le_refl _) new
   refine ⟨.ref s.heap.objs.size, _, I1, rfl, ⟨_, x, rfl, I.hok.fresh (Nat.le_refl _), rfl, fun ys hy => by rw [I.list_inj hy hq]; exact hx⟩, ⟨⟨u, ?_⟩, hit'.at fun o q => (sb.2 it (Ne.symm hne)).trans q, hne⟩, fun b hb => ?_⟩
   . have e1 : ((i + 1 : Nat) : Int) = (i : Int) + 1 := by omega
     rw [e1]; exact he'
   . have hb' : b < s.heap.objs.size := by
       have e' : b = e \/ b = it := by simpa using hb
       rcases e' with z | z
       . rw [z]; exact hel
       . rw [z]; exact hil
     rw [Zl (Nat.ne_of_lt hb')]
     exact (hf b hb).1
 done := by
   intro X hP hw hK hc i pins s σ H E I hf st hg
   subst hP hw hK
   obtain ⟨⟨old, he⟩, hit, hne⟩ := st
   obtain ⟨xs, hq, hx⟩ := hg
   obtain ⟨its, rv, p, hz⟩ := I.list hq
   obtain ⟨f0, f1, f2, f3, f4, f5⟩ := hf it (by simp)
   have hl := rv.length
   exact wpAny_pyNext_enum_end (I.ok.hd hc) he hit p.isList (by simp; omega) fun h' eb => ⟨rfl, I.turned (t' := s.toks) (fun b o hb q => eb b o hb q) f0 f1 f3 f4 f5⟩
 self := fun A i s Q E st h => let ⟨⟨_, he⟩, _⟩ := st; wpAny_pyIter_enum he h
def iEnum (K : PySem.W.Frag) (ta : TA) : TI := fun σ H R => ta σ H fun vs H1 => ∃ a xs, vs = [.ref a] /\ SqL K H1 a xs /\ R (Ite K a) H1
theorem pi_enum {X : Cx} {e : Expr} {ta : TA} {p pos tpos : Pos} {elts : List Expr} {kk : Nat} (hg : Gl X "enumerate") (hm : X.mg "enumerate" = none) (ha : PA X [e] ta) (hs : starEach [e] X.env = [(false, eval e X.env)] := by rfl) :
   PI X (.Tuple elts kk tpos) (.Call (.Name "enumerate" p) [e] [] pos) (iEnum X.K ta) := by
 intro pins s σ H R I h
 refine Call_ (ld_blt I hg hm boot_enumerate (PyProof.Rows.callWith_type1 (thn (ha pos pins s σ H _ I h) fun us s1 ⟨vs, H1, I1, r1, q1⟩ => ?_) hs rfl))
 obtain ⟨a, xs, ex, hq, q⟩ := q1
 subst ex
 cases r1 with
 | cons r rr =>
   cases rr
   cases r
   obtain ⟨its, rv, p', hz⟩ := I1.list hq
   refine call_enumerate_list p'.isList fun h' he hit hsz hk => wpAny_pyIter_enum he ?_
   have I2 : Inv X pins σ H1 { s1 with heap := h' } := I1.kept (t' := s1.toks) hk
   refine ⟨s1.heap.objs.size + 1, [s1.heap.objs.size + 1, s1.heap.objs.size], _, _, H1, rfl, I2, turn_enum a (s1.heap.objs.size + 1) s1.heap.objs.size, ⟨⟨.none, he⟩, hit, Nat.succ_ne_self _⟩, fun b hb => ?_, q⟩
   have e' : b = s1.heap.objs.size + 1 \/ b = s1.heap.objs.size := by simpa using hb
   have hle : s1.heap.objs.size <= b := by
     rcases e' with z | z
     . rw [z]; exact Nat.le_add_right _ _
     . rw [z]; exact Nat.le_refl _
   exact I1.fpOk hle (I1.hok.fresh hle)
theorem boot_zip5 : bootBuiltins "zip" = some (.type "zip") := by decide +kernel
def Itz (K : PySem.W.Frag) (a b : Addr) : It :=
 ⟨fun i H => ∃ (xs ys : List V) (x y : V), SqL K H a xs /\ SqL K H b ys /\ xs[i]? = some x /\ ys[i]? = some y,
   fun i H v H' => ∃ T x y, v = .ref T /\ H T = none /\ H' = upd H T (.tup [x, y]) /\ (∀ xs, SqL K H a xs -> xs[i]? = some x) /\ ∀ ys, SqL K H b ys -> ys[i]? = some y,
   fun i H => ∃ xs ys : List V, SqL K H a xs /\ SqL K H b ys /\ (xs.length <= i \/ ys.length <= i)⟩
theorem turn_zip {P : Program} {w : World} {K : PySem.W.Frag} {elts : List Expr} {kk : Nat} {tpos : Pos} {a b z TI TO i1 i2 : Addr} (D : ZipApart z TI TO i1 i2 a b) :
   Turn P w K (.Tuple elts kk tpos) (Itz K a b) [z, TI, TO, i1, i2] z (fun i h => IsZip h z TI TO .none /\ IsPair h TI (.ref i1) (.ref i2) /\ (∃ x y, IsPair h TO x y) /\ h.IsListIter i1 a i /\ h.IsListIter i2 b i) where
 mem := by simp
 obj := fun i h st c hc => by
   obtain ⟨hz, hTI, ⟨x, y, hTO⟩, ⟨o1, e1, _, d1⟩, ⟨o2, e2, _, d2⟩⟩ := st
   have e' : c = z \/ c = TI \/ c = TO \/ c = i1 \/ c = i2 := by simpa using hc
   rcases e' with q | q | q | q | q
   . rw [q]; exact ⟨_, hz, fun v q => nomatch q⟩
   . rw [q]; exact ⟨_, hTI, fun v q => nomatch q⟩
   . rw [q]; exact ⟨_, hTO, fun v q => nomatch q⟩
   . rw [q]; exact ⟨o1, e1, fun v q => by rw [d1] at q; cases q⟩
   . rw [q]; exact ⟨o2, e2, fun v q => by rw [d2] at q; cases q⟩
 keep := fun i h h' st k => by
   obtain ⟨hz, hTI, ⟨x, y, hTO⟩, h1, h2⟩ := st
   exact ⟨k z (by simp) _ hz, k TI (by simp) _ hTI, ⟨x, y, k TO (by simp) _ hTO⟩, h1.at fun o q => k i1 (by simp) o q, h2.at fun o q => k i2 (by simp) o q⟩
 item := by
   intro X hP hw hK hc i pins s σ H E I hf st hg
   subst hP hw hK
   obtain ⟨hz, hTI, ⟨x0, y0, hTO⟩, h1, h2⟩ := st
   obtain ⟨xs, ys, x, y, hqx, hqy, hx, hy⟩ := hg
   obtain ⟨its, rv, p, _⟩ := I.list hqx
   obtain ⟨its2, rv2, p2, _⟩ := I.list hqy
   obtain ⟨u, hu, ru⟩ := rv.get hx
   obtain ⟨u2, hu2, ru2⟩ := rv2.get hy
   have hzl : z < s.heap.objs.size := Heap.lt_size hz
   refine wpAny_pyNext_zip_item D hz hTI hTO h1 h2 p.isList p2.isList (x := u) (y := u2) (by simpa using hu) (by simpa using hu2) fun h' z' TO' h1' h2' hT hsz hk => ?_
   refine ⟨_, rfl, wpAny_letOwnedTupleGo_zip (s := { s with heap := h' }) z' fun h'' z'' sb => ?_⟩
   have hT2 : h''.get? s.heap.objs.size = some { cls := .type "tuple", data := .seq #[u, u2] } := (sb.2 _ (Nat.ne_of_gt hzl)).trans hT
   have new : ObjOk X.prog X.w (upd H s.heap.objs.size (.tup [x, y])) h'' s.heap.objs.size (.tup [x, y]) :=
     ⟨by show 2 <= sizeLine; decide, [u, u2], .cons ru (.cons ru2 .nil), ⟨_, hT2, rfl, _, rfl⟩⟩
   have I1 : Inv X pins σ (upd H s.heap.objs.size (.tup [x, y])) { s with heap := h'' } :=
     I.turnedNew (t' := s.toks) (ch := [z, TI, TO, i1, i2]) (fun c o hb q => (sb.2 c (fun q' => hb (by simp [q']))).trans (hk c o (fun q' => hb (by simp [q'])) (fun q' => hb (by simp [q'])) (fun q' => hb (by simp [q'])) (fun q' => hb (by simp [q'])) q)) hf (Nat.le_refl _) new
   refine ⟨.ref s.heap.objs.size, _, I1, rfl, ⟨_, x, y, rfl, I.hok.fresh (Nat.le_refl _), rfl, fun l hl => by rw [I.list_inj hl hqx]; exact hx, fun l hl => by rw [I.list_inj hl hqy]; exact hy⟩, ⟨z'', ?_, ⟨u, u2, ?_⟩, ?_, ?_⟩, fun c hcm => ?_⟩
   . exact (sb.2 _ D.TIz).trans (hk _ _ D.TIz D.TITO D.TIi1 D.TIi2 hTI)
   . exact (sb.2 _ D.TOz).trans TO'
   . exact h1'.at fun o q => (sb.2 _ D.i1z).trans q
   . exact h2'.at fun o q => (sb.2 _ D.i2z).trans q
   . have hlt : c < s.heap.objs.size := by
       have e' : c = z \/ c = TI \/ c = TO \/ c = i1 \/ c = i2 := by simpa using hcm
       rcases e' with q | q | q | q | q
       . rw [q]; exact hzl
       . rw [q]; exact Heap.lt_size hTI
       . rw [q]; exact Heap.lt_size hTO
       . rw [q]; obtain ⟨_, e1, _⟩ := h1; exact Heap.lt_size e1
       . rw [q]; obtain ⟨_, e2, _⟩ := h2; exact Heap.lt_size e2
     rw [Zl (Nat.ne_of_lt hlt)]
     exact (hf c hcm).1
 done := by
   intro X hP hw hK hc i pins s σ H E I hf st hg
   subst hP hw hK
   obtain ⟨hz, hTI, ⟨x0, y0, hTO⟩, h1, h2⟩ := st
   obtain ⟨xs, ys, hqx, hqy, hend⟩ := hg
   obtain ⟨its, rv, p, _⟩ := I.list hqx
   obtain ⟨its2, rv2, p2, _⟩ := I.list hqy
   have l1 := rv.length
   have l2 := rv2.length
   have he : its.toArray[i]? = none \/ its2.toArray[i]? = none := by
     rcases hend with q | q
     . exact .inl (by simp; omega)
     . exact .inr (by simp; omega)
   exact wpAny_pyNext_zip_end (I.ok.hd hc) D hz hTI hTO h1 h2 p.isList p2.isList he fun h' hk => ⟨rfl, I.turnedL (t' := s.toks) (ch := [z, TI, TO, i1, i2]) (fun c o hb q =>
     hk c o (fun q' => hb (by simp [q'])) (fun q' => hb (by simp [q'])) (fun q' => hb (by simp [q'])) (fun q' => hb (by simp [q'])) q) hf⟩
 self := fun A i s Q E st h => wpAny_pyIter_zip st.1 h
def iZip (K : PySem.W.Frag) (ta : TA) : TI := fun σ H R => ta σ H fun vs H1 => ∃ a b xs ys, vs = [.ref a, .ref b] /\ SqL K H1 a xs /\ SqL K H1 b ys /\ R (Itz K a b) H1
theorem pi_zip {X : Cx} {e e2 : Expr} {ta : TA} {p pos tpos : Pos} {elts : List Expr} {kk : Nat} (hg : Gl X "zip") (hm : X.mg "zip" = none) (ha : PA X [e, e2] ta)
   (hs : starEach [e, e2] X.env = (false, eval e X.env) :: starEach [e2] X.env := by rfl) (hpl : (backTo pos (starEach [e2] X.env)).any (·.1) = false := by rfl) :
   PI X (.Tuple elts kk tpos) (.Call (.Name "zip" p) [e, e2] [] pos) (iZip X.K ta) := by
 intro pins s σ H R I h
 refine Call_ (ld_blt I hg hm boot_zip5 (PyProof.Rows.callWith_type1 (thn (ha pos pins s σ H _ I h) fun us s1 ⟨vs, H1, I1, r1, q1⟩ => ?_) hs hpl))
 obtain ⟨a, b, xs, ys, ex, hqx, hqy, q⟩ := q1
 subst ex
 cases r1 with
 | cons r rr =>
   cases rr with
   | cons r' rr =>
     cases rr
     cases r
     cases r'
     obtain ⟨its, rv, p1, _⟩ := I1.list hqx
     obtain ⟨its2, rv2, p2, _⟩ := I1.list hqy
     have la : a < s1.heap.objs.size := p1.lt
     have lb : b < s1.heap.objs.size := p2.lt
     refine call_zip_2 p1.isList p2.isList fun h' hz hTI hTO h1 h2 hsz hk => wpAny_pyIter_zip hz ?_
     have I2 : Inv X pins σ H1 { s1 with heap := h' } := I1.kept (t' := s1.toks) hk
     refine ⟨s1.heap.objs.size + 4, [s1.heap.objs.size + 4, s1.heap.objs.size + 2, s1.heap.objs.size + 3, s1.heap.objs.size, s1.heap.objs.size + 1], _, _, H1, rfl, I2, turn_zip (PySem.W.ktu_apart s1.heap.objs.size a b la lb), ⟨hz, hTI, ⟨_, _, hTO⟩, h1, h2⟩, fun c hcm => ?_, q⟩
     have e' : c = s1.heap.objs.size + 4 \/ c = s1.heap.objs.size + 2 \/ c = s1.heap.objs.size + 3 \/ c = s1.heap.objs.size \/ c = s1.heap.objs.size + 1 := by simpa using hcm
     have hle : s1.heap.objs.size <= c := by
       rcases e' with z | z | z | z | z
       . rw [z]; exact Nat.le_add_right _ _
       . rw [z]; exact Nat.le_add_right _ _
       . rw [z]; exact Nat.le_add_right _ _
       . rw [z]; exact Nat.le_refl _
       . rw [z]; exact Nat.le_add_right _ _
     exact I1.fpOk hle (I1.hok.fresh hle)
end L2
section
namespace Bits
open PySem PyProof.Rows
end Bits
end
section
namespace TL
open PySem PySem.Builtin PySem.Builtin.Str PySem.StrLaws
end TL
end
namespace L2
open PySem PySem.Spec PyProof.Rows
section
variable {X : Cx} {pins : List (Addr × Obj)} {σ : St} {H : Hp} {s : Shared} {Q : VK}
end
section
variable {X : Cx}
end
section
variable {X : Cx} {o e : Expr} {to te : TE}
end
end L2
namespace L2
open PySem PySem.Spec PyProof.Rows
section
variable {X : Cx}
end
end L2
namespace Att
open PySem PySem.W PySem.Calls PyProof.Rows
section
variable {prog : Program} {w : World} {A : Around} {E : Value -> Shared -> Prop} {s : Shared} {K : Frag}
end
end Att
namespace L2
open PySem PySem.Spec PyProof.Rows
end L2
namespace L2
open PySem PySem.Spec PyProof.Rows
end L2
namespace L2
open PySem PySem.Spec PyProof.Rows
def inClass (s : Stmt) (j : Nat) : Stmt := match s with
 | .ClassDef _ _ _ body _ _ _ _ _ _ _ => body.getD j (.Pass ⟨0, 0, 0, 0⟩)
 | _ => .Pass ⟨0, 0, 0, 0⟩
def Ub (s : Stmt) : Arguments := match s with
 | .FunctionDef _ a _ _ _ _ _ _ _ _ => a
 | _ => { posonlyargs := [], args := [], vararg := none, kwonlyargs := [], kw_defaults := [], kwarg := none, defaults := [] }
def Xm (s : Stmt) : List Stmt := match s with
 | .FunctionDef _ _ b _ _ _ _ _ _ _ => b
 | _ => []
def Zf (s : Stmt) : Scope := match s with
 | .FunctionDef _ _ _ _ _ _ sc _ _ _ => sc
 | _ => { kind := .function, names := [], isGenerator := false, isCoroutine := false }
abbrev CX0 : CXT := fun _ _ _ _ _ _ => False
abbrev E0 : XK := fun _ _ _ => False
theorem pass0 {X : Cx} : Passes CX0 X E0 := fun _ _ _ _ _ _ _ h => h.elim
structure Fun (K : PySem.W.Frag) (x qual : Str) (st : Stmt) (f : Addr) (fd : FuncData) : Prop where
 ex : ∃ (oc : Value) (od : Option Addr) (kV doc pm : Value) (an : Option Addr) (cdv ct : Value) (osl : Array (Option Value)),
   fd = PySem.W.fnOf x qual (Ub st) (Xm st) (Zf st) .none kV doc pm an cdv ct /\ K.lookup f = some ⟨oc, od, .func fd, osl⟩ /\ PySem.W.codeIn K cdv qual = true
 kp : PySem.W.keepIn K (.ref f) = true
section
variable {P : Program} {w : World} {K : PySem.W.Frag} {mg : Str -> Option Value} {base : Heap}
theorem Fun.ok {x qual : Str} {st : Stmt} {f : Addr} {fd : FuncData} {N ps : List Str} {k : Nat} {sp : Sp} (F : Fun K x qual st f fd) (S : FnScope N ps (Zf st)) (len : ∀ vs H Q E, sp vs H Q E -> vs.length = ps.length)
   (hbody : ∀ (cdv : Value) (A : Around) (outer : List Env) (s : Shared) (H : Hp) (vs : List V) (Q : VK) (E : XK), Room k (A.deeper (envOfC qual (Zf st) s.heap.objs.size f cdv)) -> sp vs H Q E ->
     ∃ t, PSs (cxOf CX0 P w K mg base N qual (Zf st) f cdv A outer s H E).nox (Xm st) t /\ t { nx := fun _ H' => Q .non H', rt := Q } (start N vs) H) : FnOk P w K mg base CX0 (k + 1) f fd ps sp := by
 obtain ⟨oc, od, kV, doc, pm, an, cdv, ct, osl, rfl, lk, hcd⟩ := F.ex
 refine fn_of lk hcd S len fun A outer s H vs Q E hr hsp => ?_
 obtain ⟨t, h, q⟩ := hbody cdv A outer s H vs Q E hr hsp
 exact ⟨t, h.nox, q⟩
theorem Fun.binds {x qual : Str} {st : Stmt} {f : Addr} {fd : FuncData} {ps : List Str} (F : Fun K x qual st f fd)
   (h : ∀ (kV doc pm : Value) (an : Option Addr) (cdv ct : Value) (us : List Value), us.length = ps.length -> bindArgs (PySem.W.fnOf x qual (Ub st) (Xm st) (Zf st) .none kV doc pm an cdv ct) ⟨us, []⟩ = pure (ps.zip us)) : Binds K fd ps [] := by
 obtain ⟨oc, od, kV, doc, pm, an, cdv, ct, osl, rfl, lk, hcd⟩ := F.ex
 exact .all (h kV doc pm an cdv ct)
theorem fun_mk {x qual : Str} {st : Stmt} {f : Addr} {oc : Value} {od an : Option Addr} {osl : Array (Option Value)} {kV doc pm cdv ct : Value} (l : K.lookup f = some ⟨oc, od, .func (PySem.W.fnOf x qual (Ub st) (Xm st) (Zf st) .none kV doc pm an cdv ct), osl⟩)
   (c : PySem.W.codeIn K cdv qual = true) (k : PySem.W.keepIn K (.ref f) = true) : Fun K x qual st f (PySem.W.fnOf x qual (Ub st) (Xm st) (Zf st) .none kV doc pm an cdv ct) := ⟨⟨oc, od, kV, doc, pm, an, cdv, ct, osl, rfl, l, c⟩, k⟩
end
section
variable {X : Cx}
theorem pv (i : Nat) {x : Str} {pos : Pos} (hN : X.N[i]? = some x := by rfl) (hv : Vis X.env.scope x := by first | exact Or.inl rfl | exact Or.inr (Or.inl rfl) | exact Or.inr (Or.inr rfl)) (hd : (x == ("__debug__" : Str)) = false := by decide)
   (hcd : (x == ("__classdict__" : Str)) = false := by decide) : PE X (.Name x pos) (tVar i) := pe_var hN hv hd hcd
end
def Same (H H' : Hp) : Prop := ∀ b o, H b = some o -> H' b = some o
theorem Same.refl (H : Hp) : Same H H := fun _ _ h => h
theorem Same.trans {H H1 H2 : Hp} (a : Same H H1) (b : Same H1 H2) : Same H H2 := fun c o h => b c o (a c o h)
theorem Same.free {H H' : Hp} (e : Same H H') {l : Addr} (h : H' l = Option.none) : H l = Option.none := by
 cases q : H l with
 | none => rfl
 | some o =>
   rw [e l o q] at h
   cases h
theorem Same.seq {K : PySem.W.Frag} {H H' : Hp} {a : Addr} {xs : List V} (e : Same H H') (h : SqL K H a xs) : SqL K H' a xs := by
 rcases h with (h | ⟨o, h⟩) | h
 . exact .inl (.inl (e _ _ h))
 . exact .inl (.inr ⟨o, e _ _ h⟩)
 . exact .inr h
section
variable {κ : Type} [DecidableEq κ]
theorem nd_snoc : ∀ {l : List κ} {k : κ}, l.Nodup -> ¬ k ∈ l -> (l ++ [k]).Nodup
 | [], k, _, _ => by simp
 | a :: r, k, h, hk => by
   obtain ⟨h1, h2⟩ := List.nodup_cons.mp h
   show (a :: (r ++ [k])).Nodup
   refine List.nodup_cons.mpr ⟨fun m => ?_, nd_snoc h2 fun m => hk (List.mem_cons.mpr (Or.inr m))⟩
   rcases List.mem_append.mp m with q | q
   . exact h1 q
   . exact hk (List.mem_cons.mpr (Or.inl (List.mem_singleton.mp q).symm))
end
theorem Yh {xs : List V} {z : Int} {j : Nat} {v : V} (e : z = (j : Int)) (h : xs[j]? = some v) : atI xs z = some v := by
 rw [e]
 exact Zs h
theorem Same.made {H H1 : Hp} {x dx C : Addr} (nx : H x = Option.none) (nd : H dx = Option.none) (k : ∀ b o, (upd (upd H dx (.own x)) x (.ins C dx [])) b = some o -> b ≠ x -> H1 b = some o) : Same H H1 := fun b o e =>
 k b o (by rw [Zl (Yb e nx), Zl (Yb e nd)]; exact e) (Yb e nx)
end L2
end
section
set_option Elab.async false
set_option linter.all false
set_option maxRecDepth 100000
set_option maxHeartbeats 2000000
namespace L2
open PySem PySem.Spec PyProof.Rows
open PySem.W (WData Codec OpenSpec Well WellAll ReadsW ReadsAllW)
mutual
/-- x stands for the datum d, lists and tuples all the way -/
inductive Dw (K : PySem.W.Frag) (H : Hp) : V -> WData -> Prop
 | non : Dw K H .non .none
 | bl (b : Bool) : Dw K H (.bl b) (.bool b)
 | int (i : Int) : Dw K H (.int i) (.int i)
 | str (x : Str) : Dw K H (.str x) (.str x)
 | byt (b : Array UInt8) : Dw K H (.byt b) (.bytes b.toList)
 | lst {a : Addr} {xs : List V} {ds : List WData} : SqL K H a xs -> DwAll K H xs ds -> Dw K H (.ref a) (.list ds)
 | tup {a : Addr} {xs : List V} {ds : List WData} : SqT K H a xs -> DwAll K H xs ds -> Dw K H (.ref a) (.tuple ds)
inductive DwAll (K : PySem.W.Frag) (H : Hp) : List V -> List WData -> Prop
 | nil : DwAll K H [] []
 | cons {v : V} {vs : List V} {d : WData} {ds : List WData} : Dw K H v d -> DwAll K H vs ds -> DwAll K H (v :: vs) (d :: ds)
end
theorem dw_ints {K : PySem.W.Frag} {H : Hp} : ∀ ns : List Int, DwAll K H (ns.map V.int) (ns.map WData.int)
 | [] => .nil
 | n :: r => .cons (.int n) (dw_ints r)
theorem ints_dw {K : PySem.W.Frag} {H : Hp} : ∀ (ns : List Int) (xs : List V), DwAll K H xs (ns.map WData.int) -> xs = ns.map V.int
 | [], xs, h => by
   cases h
   rfl
 | n :: r, xs, h => by
   cases h with
   | cons h1 h2 =>
     cases h1
     rw [ints_dw r _ h2] <;> rfl
section
variable {P : Program} {w : World} {K : PySem.W.Frag} {H : Hp} {h : Heap} {R : PySem.W.WRecords} {cl : Str -> Option Addr}
theorem sqL_at {a : Addr} {xs : List V} (hok : HOk P w H h) (KX : K.In h) (q : SqL K H a xs) : ∃ (its : List Value) (o : Obj) (n : Nat), Vals xs its /\ h.get? a = some o /\ o.cls = .type "list" /\ o.data = .seq its.toArray n := by
 rcases q with q | ⟨o, its, n, e, hc, _, hd, _, hv⟩
 . obtain ⟨_, its, n, hv, e⟩ := (show ObjOk P w H h a (.lst xs) from q.ok hok)
   exact ⟨its, _, n, hv, e, rfl, rfl⟩
 . exact ⟨its.toList, o, n, hv, KX _ _ e, hc, by simp [hd]⟩
theorem sqT_at {a : Addr} {xs : List V} (hok : HOk P w H h) (KX : K.In h) (q : SqT K H a xs) : ∃ (its : List Value) (o : Obj) (n : Nat), Vals xs its /\ h.get? a = some o /\ o.cls = .type "tuple" /\ o.data = .seq its.toArray n := by
 rcases q with q | ⟨o, its, n, e, hc, hd, _, hv⟩
 . obtain ⟨_, its, hv, o, e, hc, n, hd⟩ := (show ObjOk P w H h a (.tup xs) from q.ok hok)
   exact ⟨its, o, n, hv, e, hc, hd⟩
 . exact ⟨its.toList, o, n, hv, KX _ _ e, hc, by simp [hd]⟩
mutual
theorem Dw.reads (hok : HOk P w H h) (KX : K.In h) : ∀ (d : WData) (v : V) (u : Value), Dw K H v d -> RelV v u -> ∃ as, ReadsW R cl h u d as
 | .none, _, _, x, r => by
   cases x
   cases r
   exact ⟨_, ReadsW.none⟩
 | .bool b, _, _, x, r => by
   cases x
   cases r
   exact ⟨_, ReadsW.bool b⟩
 | .int i, _, _, x, r => by
   cases x
   obtain ⟨t, rfl⟩ := r
   exact ⟨_, ReadsW.int i t⟩
 | .str s, _, _, x, r => by
   cases x
   obtain ⟨t, rfl⟩ := r
   exact ⟨_, ReadsW.str s t⟩
 | .bytes b, _, _, x, r => by
   cases x
   obtain ⟨t, rfl⟩ := r
   exact ⟨_, ReadsW.bytes _ t⟩
 | .list ds, _, _, x, r => by
   cases x with
   | lst hs ha =>
     cases r
     obtain ⟨its, o, n, rv, ho, hc, hd⟩ := sqL_at hok KX hs
     obtain ⟨as, hr⟩ := Dw.readsAll hok KX ds _ its ha rv
     exact ⟨_, ReadsW.list ho hc hd hr⟩
 | .tuple ds, _, _, x, r => by
   cases x with
   | tup hs ha =>
     cases r
     obtain ⟨its, o, n, rv, ho, hc, hd⟩ := sqT_at hok KX hs
     obtain ⟨as, hr⟩ := Dw.readsAll hok KX ds _ its ha rv
     exact ⟨_, ReadsW.tuple ho hc hd hr⟩
 | .float _, _, _, x, _ => by cases x
 | .dict _, _, _, x, _ => by cases x
 | .bytearray _, _, _, x, _ => by cases x
 | .set _, _, _, x, _ => by cases x
 | .frozenset _, _, _, x, _ => by cases x
 | .obj _ _, _, _, x, _ => by cases x
theorem Dw.readsAll (hok : HOk P w H h) (KX : K.In h) : ∀ (ds : List WData) (vs : List V) (us : List Value), DwAll K H vs ds -> Vals vs us -> ∃ as, ReadsAllW R cl h us ds as
 | [], _, _, x, r => by
   cases x
   cases r
   exact ⟨_, ReadsAllW.nil⟩
 | d :: ds, _, _, x, r => by
   cases x with
   | cons h1 h2 =>
     cases r with
     | cons r1 r2 =>
       obtain ⟨as, q1⟩ := Dw.reads hok KX d _ _ h1 r1
       obtain ⟨bs, q2⟩ := Dw.readsAll hok KX ds _ _ h2 r2
       exact ⟨_, ReadsAllW.cons q1 q2⟩
end
end
mutual
/-- data that a codec tells -/
def plW : WData -> Bool
 | .none => true
 | .bool _ => true
 | .int _ => true
 | .str _ => true
 | .bytes _ => true
 | .list xs => plWs xs
 | .tuple xs => plWs xs
 | _ => false
def plWs : List WData -> Bool
 | [] => true
 | x :: r => plW x && plWs r
end
theorem plWs_map {α : Type} {f : α -> WData} (h : ∀ a, plW (f a) = true) : ∀ l : List α, plWs (l.map f) = true
 | [] => rfl
 | x :: r => by
   show (plW (f x) && plWs (r.map f)) = true
   rw [h x, plWs_map h r] <;> rfl
theorem pl_enc : ∀ (c : Codec) (a : c.denote), plW (c.enc a) = true
 | .unit, _ => rfl
 | .bool, _ => rfl
 | .int _ _, _ => rfl
 | .nat _ _, _ => rfl
 | .u8, _ => rfl
 | .bytes _ _, _ => rfl
 | .text _ _ _ _, _ => rfl
 | .list _ _ c, a => plWs_map (fun x => pl_enc c x) a
 | .pair c d, a => by
   show (plW (c.enc a.1) && (plW (d.enc a.2) && true)) = true
   rw [pl_enc c a.1, pl_enc d a.2] <;> rfl
 | .triple c d e, a => by
   show (plW (c.enc a.1) && (plW (d.enc a.2.1) && (plW (e.enc a.2.2) && true))) = true
   rw [pl_enc c a.1, pl_enc d a.2.1, pl_enc e a.2.2] <;> rfl
 | .option c, none => rfl
 | .option c, some x => pl_enc c x
theorem pl_encAll : ∀ (cs : List Codec) (a : Codec.denoteAll cs), plWs (Codec.encAll cs a) = true
 | [], _ => rfl
 | c :: cs, a => by
   show (plW (c.enc a.1) && plWs (Codec.encAll cs a.2)) = true
   rw [pl_enc c a.1, pl_encAll cs a.2] <;> rfl
theorem weight_mem : ∀ {xs : List WData} {d : WData}, d ∈ xs -> d.weight <= WData.weightAll xs
 | [], d, h => absurd h (by simp)
 | x :: r, d, h => by
   show d.weight <= x.weight + 1 + WData.weightAll r
   rcases List.mem_cons.mp h with e | m
   . rw [e]
     omega
   . have z := weight_mem m
     omega
def toV : Value -> V
 | .none => .non
 | .bool b => .bl b
 | .int i _ => .int i
 | .str x _ => .str x
 | .bytes b _ => .byt b
 | .ref a => .ref a
 | _ => .non
def OkU (A : List Addr) : Value -> Prop
 | .none => True
 | .bool _ => True
 | .int _ _ => True
 | .str _ _ => True
 | .bytes _ _ => True
 | .ref a => a ∈ A
 | _ => False
theorem OkU.mono {A B : List Addr} (h : ∀ a ∈ A, a ∈ B) : ∀ {u : Value}, OkU A u -> OkU B u := fun {u} x => by
 cases u with
 | ref a => exact h a x
 | none => trivial
 | bool b => trivial
 | int i t => trivial
 | str s t => trivial
 | bytes b t => trivial
 | _ => exact False.elim x
theorem relV_toV {A : List Addr} {u : Value} (x : OkU A u) : RelV (toV u) u := by
 cases u with
 | ref a => rfl
 | none => rfl
 | bool b => rfl
 | int i t => exact ⟨t, rfl⟩
 | str s t => exact ⟨t, rfl⟩
 | bytes b t => exact ⟨t, rfl⟩
 | _ => exact False.elim x
theorem vals_toV {A : List Addr} : ∀ {vs : List Value}, (∀ u ∈ vs, OkU A u) -> Vals (vs.map toV) vs
 | [], _ => .nil
 | u :: r, h => .cons (relV_toV (h u (List.mem_cons_self ..))) (vals_toV fun x hx => h x (List.mem_cons_of_mem _ hx))
def ArgOb (h : Heap) (A : List Addr) (a : Addr) : Prop := ∃ vs : List Value, vs.length <= sizeLine /\ (∀ u ∈ vs, OkU A u) /\
 (h.get? a = some { cls := .type "list", data := .seq vs.toArray } \/ h.get? a = some { cls := .type "tuple", data := .seq vs.toArray })
theorem ArgOb.mono {h : Heap} {A B : List Addr} {a : Addr} (k : ∀ a ∈ A, a ∈ B) (x : ArgOb h A a) : ArgOb h B a := by
 obtain ⟨vs, h1, h2, h3⟩ := x
 exact ⟨vs, h1, fun u hu => (h2 u hu).mono k, h3⟩
theorem Qa {P : Params} {h : Heap} : ∀ {vs : List Value} {ds : List WData}, WellAll P h vs ds -> vs.length = ds.length
 | _, _, .nil => rfl
 | _, _, .cons _ b => by
   show _ + 1 = _ + 1
   rw [Qa b]
theorem well_list {P : Params} {h : Heap} {v : Value} {ds : List WData} (x : Well P h v (.list ds)) : ∃ (a : Addr) (vs : List Value), v = .ref a /\ h.get? a = some { cls := .type "list", data := .seq vs.toArray } /\ WellAll P h vs ds := by
 cases x with
 | list ho hall => exact ⟨_, _, rfl, ho, hall⟩
theorem well_tuple {P : Params} {h : Heap} {v : Value} {ds : List WData} (x : Well P h v (.tuple ds)) : ∃ (a : Addr) (vs : List Value), v = .ref a /\ h.get? a = some { cls := .type "tuple", data := .seq vs.toArray } /\ WellAll P h vs ds := by
 cases x with
 | tuple ho hall => exact ⟨_, _, rfl, ho, hall⟩
theorem well_cons {P : Params} {h : Heap} {us : List Value} {d : WData} {ds : List WData} (x : WellAll P h us (d :: ds)) : ∃ (v : Value) (vs : List Value), us = v :: vs /\ Well P h v d /\ WellAll P h vs ds := by
 cases x with
 | cons a b => exact ⟨_, _, rfl, a, b⟩
theorem line_of {n : Nat} (h : n <= 1048576) : n <= sizeLine := Nat.le_trans h (by decide)
section
variable {P : Params} {h : Heap}
mutual
theorem area_one : ∀ (d : WData) (v : Value), Well P h v d -> plW d = true -> d.weight <= 1048576 -> ∃ A : List Addr, OkU A v /\ ∀ a ∈ A, ArgOb h A a
 | .none, _, x, _, _ => by
   cases x
   exact ⟨[], trivial, fun a m => absurd m (by simp)⟩
 | .bool b, _, x, _, _ => by
   cases x
   exact ⟨[], trivial, fun a m => absurd m (by simp)⟩
 | .int i, _, x, _, _ => by
   cases x
   exact ⟨[], trivial, fun a m => absurd m (by simp)⟩
 | .str s, _, x, _, _ => by
   cases x
   exact ⟨[], trivial, fun a m => absurd m (by simp)⟩
 | .bytes b, _, x, _, _ => by
   cases x
   exact ⟨[], trivial, fun a m => absurd m (by simp)⟩
 | .list ds, _, x, p, z => by
   obtain ⟨a, vs, rfl, ho, hall⟩ := well_list x
   have z2 : WData.weightAll ds <= 1048576 := z
   obtain ⟨A, h1, h2⟩ := area_all ds _ hall p fun d hd => Nat.le_trans (weight_mem hd) z2
   have k : ∀ b ∈ A, b ∈ a :: A := fun b hb => List.mem_cons_of_mem _ hb
   refine ⟨a :: A, List.mem_cons_self .., fun b hb => ?_⟩
   rcases List.mem_cons.mp hb with e | m
   . rw [e]
     exact ⟨vs, line_of (by rw [Qa hall]; exact Nat.le_trans (PySem.W.length_le_weightAllW ds) z2), fun u hu => (h1 u hu).mono k, .inl ho⟩
   . exact (h2 b m).mono k
 | .tuple ds, _, x, p, z => by
   obtain ⟨a, vs, rfl, ho, hall⟩ := well_tuple x
   have z2 : WData.weightAll ds <= 1048576 := z
   obtain ⟨A, h1, h2⟩ := area_all ds _ hall p fun d hd => Nat.le_trans (weight_mem hd) z2
   have k : ∀ b ∈ A, b ∈ a :: A := fun b hb => List.mem_cons_of_mem _ hb
   refine ⟨a :: A, List.mem_cons_self .., fun b hb => ?_⟩
   rcases List.mem_cons.mp hb with e | m
   . rw [e]
     exact ⟨vs, line_of (by rw [Qa hall]; exact Nat.le_trans (PySem.W.length_le_weightAllW ds) z2), fun u hu => (h1 u hu).mono k, .inr ho⟩
   . exact (h2 b m).mono k
 | .float _, _, _, p, _ => Bool.noConfusion (show false = true from p)
 | .dict _, _, _, p, _ => Bool.noConfusion (show false = true from p)
 | .bytearray _, _, _, p, _ => Bool.noConfusion (show false = true from p)
 | .set _, _, _, p, _ => Bool.noConfusion (show false = true from p)
 | .frozenset _, _, _, p, _ => Bool.noConfusion (show false = true from p)
 | .obj _ _, _, _, p, _ => Bool.noConfusion (show false = true from p)
theorem area_all : ∀ (ds : List WData) (vs : List Value), WellAll P h vs ds -> plWs ds = true -> (∀ d ∈ ds, d.weight <= 1048576) -> ∃ A : List Addr, (∀ u ∈ vs, OkU A u) /\ ∀ a ∈ A, ArgOb h A a
 | [], _, x, _, _ => by
   cases x
   exact ⟨[], fun u m => absurd m (by simp), fun a m => absurd m (by simp)⟩
 | d :: ds, _, x, p, z => by
   obtain ⟨v, vs, rfl, x1, x2⟩ := well_cons x
   have q : plW d = true /\ plWs ds = true := Bool.and_eq_true_iff.mp p
   obtain ⟨A, a1, a2⟩ := area_one d v x1 q.1 (z d (List.mem_cons_self ..))
   obtain ⟨B, b1, b2⟩ := area_all ds vs x2 q.2 fun e he => z e (List.mem_cons_of_mem _ he)
   have kA : ∀ b ∈ A, b ∈ A ++ B := fun b hb => List.mem_append.mpr (.inl hb)
   have kB : ∀ b ∈ B, b ∈ A ++ B := fun b hb => List.mem_append.mpr (.inr hb)
   refine ⟨A ++ B, fun u hu => ?_, fun b hb => ?_⟩
   . rcases List.mem_cons.mp hu with e | m
     . rw [e]
       exact a1.mono kA
     . exact (b1 u m).mono kB
   . rcases List.mem_append.mp hb with m | m
     . exact (a2 b m).mono kA
     . exact (b2 b m).mono kB
end
end
def hoOf (o : Obj) : Option HO := match o.data with
 | .seq vs _ => if (o.cls == Value.type "list") = true then some (.frz o (.lst (vs.toList.map toV))) else some (.frz o (.tup (vs.toList.map toV)))
 | _ => none
def argH (K : PySem.W.Frag) (h : Heap) (A : List Addr) : Hp := fun b => if b ∈ A then (if (K.lookup b).isNone = true then (h.get? b).bind hoOf else none) else none
def OnlyF (H : Hp) : Prop := ∀ b, H b = none \/ ∃ o u, H b = some (.frz o u)
theorem hoOf_lst (vs : List Value) : hoOf { cls := .type "list", data := .seq vs.toArray } = some (.frz { cls := .type "list", data := .seq vs.toArray } (.lst (vs.map toV))) := by
 show (if (Value.type "list" == Value.type "list") = true then some (HO.frz { cls := .type "list", data := .seq vs.toArray } (.lst (vs.toArray.toList.map toV))) else some (HO.frz { cls := .type "list", data := .seq vs.toArray } (.tup (vs.toArray.toList.map toV)))) = _
 rw [if_pos (beq_self_eq_true _)]
theorem hoOf_tup (vs : List Value) : hoOf { cls := .type "tuple", data := .seq vs.toArray } = some (.frz { cls := .type "tuple", data := .seq vs.toArray } (.tup (vs.map toV))) := by
 show (if (Value.type "tuple" == Value.type "list") = true then some (HO.frz { cls := .type "tuple", data := .seq vs.toArray } (.lst (vs.toArray.toList.map toV))) else some (HO.frz { cls := .type "tuple", data := .seq vs.toArray } (.tup (vs.toArray.toList.map toV)))) = _
 rw [if_neg (by decide)]
section
variable {P : Program} {w : World} {K : PySem.W.Frag} {h : Heap} {A : List Addr}
theorem argH_at {b : Addr} {o : Obj} (hb : b ∈ A) (hk : K.lookup b = none) (e : h.get? b = some o) : argH K h A b = hoOf o := by
 unfold argH
 rw [if_pos hb, hk, if_pos (show (none : Option Obj).isNone = true from rfl), e] <;> rfl
theorem of_argH {b : Addr} {u : HO} (q : argH K h A b = some u) : b ∈ A /\ K.lookup b = none := by
 unfold argH at q
 by_cases hb : b ∈ A
 . rw [if_pos hb] at q
   cases hk : K.lookup b with
   | none => exact ⟨hb, rfl⟩
   | some o =>
     rw [hk, if_neg (by simp)] at q
     cases q
 . rw [if_neg hb] at q
   cases q
theorem argH_is (ar : ∀ a ∈ A, ArgOb h A a) {b : Addr} {u : HO} (q : argH K h A b = some u) : K.lookup b = none /\ ∃ vs : List Value, vs.length <= sizeLine /\ (∀ u ∈ vs, OkU A u) /\
   ((h.get? b = some { cls := .type "list", data := .seq vs.toArray } /\ u = .frz { cls := .type "list", data := .seq vs.toArray } (.lst (vs.map toV))) \/
    (h.get? b = some { cls := .type "tuple", data := .seq vs.toArray } /\ u = .frz { cls := .type "tuple", data := .seq vs.toArray } (.tup (vs.map toV)))) := by
 obtain ⟨hb, hk⟩ := of_argH q
 obtain ⟨vs, h1, h2, h3⟩ := ar b hb
 refine ⟨hk, vs, h1, h2, ?_⟩
 rcases h3 with e | e
 . rw [argH_at hb hk e, hoOf_lst] at q
   exact .inl ⟨e, (Option.some.inj q).symm⟩
 . rw [argH_at hb hk e, hoOf_tup] at q
   exact .inr ⟨e, (Option.some.inj q).symm⟩
theorem argH_only (ar : ∀ a ∈ A, ArgOb h A a) : OnlyF (argH K h A) := fun b => by
 cases q : argH K h A b with
 | none => exact .inl rfl
 | some u =>
   obtain ⟨_, vs, _, _, ⟨_, e⟩ | ⟨_, e⟩⟩ := argH_is ar q
   . exact .inr ⟨_, _, by rw [e]⟩
   . exact .inr ⟨_, _, by rw [e]⟩
theorem argH_ok (ar : ∀ a ∈ A, ArgOb h A a) : HOk P w (argH K h A) h := fun b u q => by
 obtain ⟨_, vs, h1, h2, ⟨e, rfl⟩ | ⟨e, rfl⟩⟩ := argH_is ar q
 . exact ⟨e, by rw [List.length_map]; exact h1, vs, _, vals_toV h2, e⟩
 . exact ⟨e, by rw [List.length_map]; exact h1, vs, vals_toV h2, _, e, rfl, _, rfl⟩
theorem seq_inj {c c' : Value} {vs us : List Value} (e : (some { cls := c, data := .seq vs.toArray } : Option Obj) = some { cls := c', data := .seq us.toArray }) : c = c' /\ vs = us := by
 have e1 := Option.some.inj e
 have e2 : c = c' := congrArg Obj.cls e1
 have e3 : Data.seq vs.toArray = Data.seq us.toArray := congrArg Obj.data e1
 injection e3 with e4
 refine ⟨e2, ?_⟩
 have e5 := congrArg Array.toList e4
 simpa using e5
theorem argL (KX : K.In h) (ar : ∀ a ∈ A, ArgOb h A a) {a : Addr} {vs : List Value} (ha : a ∈ A) (e : h.get? a = some { cls := .type "list", data := .seq vs.toArray }) : (∀ u ∈ vs, OkU A u) /\ SqL K (argH K h A) a (vs.map toV) := by
 obtain ⟨us, h1, h2, h3⟩ := ar a ha
 have hu : us = vs := by
   rcases h3 with q | q
   . rw [e] at q
     exact (seq_inj q).2.symm
   . rw [e] at q
     exact absurd (Value.type.inj (seq_inj q).1) (by decide)
 subst hu
 refine ⟨h2, ?_⟩
 cases hk : K.lookup a with
 | none => exact .inl (.inr ⟨_, by rw [argH_at ha hk e, hoOf_lst]⟩)
 | some o =>
   have e2 := KX a o hk
   rw [e] at e2
   obtain rfl := Option.some.inj e2
   exact .inr ⟨_, us.toArray, _, hk, rfl, rfl, rfl, by rw [List.size_toArray]; exact h1, by simpa using vals_toV h2⟩
theorem argT (KX : K.In h) (ar : ∀ a ∈ A, ArgOb h A a) {a : Addr} {vs : List Value} (ha : a ∈ A) (e : h.get? a = some { cls := .type "tuple", data := .seq vs.toArray }) : (∀ u ∈ vs, OkU A u) /\ SqT K (argH K h A) a (vs.map toV) := by
 obtain ⟨us, h1, h2, h3⟩ := ar a ha
 have hu : us = vs := by
   rcases h3 with q | q
   . rw [e] at q
     exact absurd (Value.type.inj (seq_inj q).1) (by decide)
   . rw [e] at q
     exact (seq_inj q).2.symm
 subst hu
 refine ⟨h2, ?_⟩
 cases hk : K.lookup a with
 | none => exact .inl (.inr ⟨_, by rw [argH_at ha hk e, hoOf_tup]⟩)
 | some o =>
   have e2 := KX a o hk
   rw [e] at e2
   obtain rfl := Option.some.inj e2
   exact .inr ⟨_, us.toArray, _, hk, rfl, rfl, by rw [List.size_toArray]; exact h1, by simpa using vals_toV h2⟩
mutual
theorem dw_one {Pm : Params} (KX : K.In h) (ar : ∀ a ∈ A, ArgOb h A a) : ∀ (d : WData) (v : Value), Well Pm h v d -> plW d = true -> OkU A v -> Dw K (argH K h A) (toV v) d
 | .none, _, x, _, _ => by
   cases x
   exact .non
 | .bool b, _, x, _, _ => by
   cases x
   exact .bl b
 | .int i, _, x, _, _ => by
   cases x
   exact .int i
 | .str s, _, x, _, _ => by
   cases x
   exact .str s
 | .bytes b, _, x, _, _ => by
   cases x
   have z := Dw.byt (K := K) (H := argH K h A) b.toArray
   exact z
 | .list ds, _, x, p, hu => by
   obtain ⟨a, vs, rfl, ho, hall⟩ := well_list x
   obtain ⟨h2, hs⟩ := argL KX ar hu ho
   exact .lst hs (dw_all KX ar ds _ hall p h2)
 | .tuple ds, _, x, p, hu => by
   obtain ⟨a, vs, rfl, ho, hall⟩ := well_tuple x
   obtain ⟨h2, hs⟩ := argT KX ar hu ho
   exact .tup hs (dw_all KX ar ds _ hall p h2)
 | .float _, _, _, p, _ => Bool.noConfusion (show false = true from p)
 | .dict _, _, _, p, _ => Bool.noConfusion (show false = true from p)
 | .bytearray _, _, _, p, _ => Bool.noConfusion (show false = true from p)
 | .set _, _, _, p, _ => Bool.noConfusion (show false = true from p)
 | .frozenset _, _, _, p, _ => Bool.noConfusion (show false = true from p)
 | .obj _ _, _, _, p, _ => Bool.noConfusion (show false = true from p)
theorem dw_all {Pm : Params} (KX : K.In h) (ar : ∀ a ∈ A, ArgOb h A a) : ∀ (ds : List WData) (vs : List Value), WellAll Pm h vs ds -> plWs ds = true -> (∀ u ∈ vs, OkU A u) -> DwAll K (argH K h A) (vs.map toV) ds
 | [], _, x, _, _ => by
   cases x
   exact .nil
 | d :: ds, _, x, p, hu => by
   obtain ⟨v, vs, rfl, x1, x2⟩ := well_cons x
   have q : plW d = true /\ plWs ds = true := Bool.and_eq_true_iff.mp p
   exact .cons (dw_one KX ar d v x1 q.1 (hu _ (List.mem_cons_self ..))) (dw_all KX ar ds vs x2 q.2 fun u m => hu u (List.mem_cons_of_mem _ m))
end
end
theorem spec_call {P : Program} {w : World} {K : PySem.W.Frag} {mg mb : Str -> Option Value} {CX : CXT} {k : Nat} {fa : Addr} {fd : FuncData} {ps : List Str} {sp : Sp} {s₁ : Shared} {vals : List Value} {ds : List WData} {R : PySem.W.WRecords} {cl : Str -> Option Addr} {d0 : WData}
   (KX : K.In s₁.heap) (hns : s₁.heap.Ns mainGlobals mg) (hb : s₁.heap.Ns builtinsNs mb) (hbb : ∀ x : Str, x ≠ "__name__" -> mb x = bootBuiltins x) (hlim : s₁.heap.NoLimit) (hg : s₁.gens = #[])
   (hwl : WellAll w.params s₁.heap vals ds) (hpl : plWs ds = true) (hwt : ∀ d ∈ ds, d.weight <= 1048576) (hr : Room k callerA)
   (F : ∀ base : Heap, K.In base -> base.Ns mainGlobals mg -> FnOk P w K mg base CX k fa fd ps sp) (hbind : ∀ (s : Shared) (us : List Value), us.length = ps.length -> BindsTo s fd ⟨us, []⟩ (ps.zip us)) (hlen : ds.length = ps.length)
   (hsp : ∀ (H : Hp) (xs : List V), OnlyF H -> DwAll K H xs ds -> sp xs H (fun v H' => Dw K H' v d0) fun _ _ _ => False)
   (hCX : ∀ H e s', CX [] H s₁ (fun _ _ _ => False) e s' -> False) :
   codeAny (model P w) callerA (.call (.ref fa) ⟨vals, []⟩) (fun r s' => ∃ u as, r = .ok (.ret u) /\ ReadsW R cl s'.heap u d0 as /\ OldK s₁.heap s'.heap /\ s'.os = s₁.os /\ AllBare s'.gens) s₁ := by
 obtain ⟨A, ho, ar⟩ := area_all ds vals hwl hpl hwt
 have hO : OnlyF (argH K s₁.heap A) := argH_only ar
 have hok : HOk P w (argH K s₁.heap A) s₁.heap := argH_ok ar
 have hS := dw_all KX ar ds vals hwl hpl ho
 have hV := vals_toV ho
 have hK : ∀ b u, argH K s₁.heap A b = some u -> K.lookup b = none := fun b u q => (argH_is ar q).1
 have noA : ∀ {b : Addr} {o : Obj} {es : Array DictEntry} {ep : Nat}, s₁.heap.get? b = some o -> o.data = .dict es ep -> argH K s₁.heap A b = none := fun {b o es ep} e d => by
   cases q : argH K s₁.heap A b with
   | none => rfl
   | some u =>
     obtain ⟨_, vs, _, _, ⟨e2, _⟩ | ⟨e2, _⟩⟩ := argH_is ar q
     . rw [e2] at e
       cases e
       have d' : Data.seq vs.toArray _ = Data.dict es ep := d
       cases d'
     . rw [e2] at e
       cases e
       have d' : Data.seq vs.toArray _ = Data.dict es ep := d
       cases d'
 generalize argH K s₁.heap A = H at hO hok hS hK noA
 have base_of : ∀ {b : Addr} {o : Obj}, s₁.heap.get? b = some o -> H b = none -> (hidT s₁.heap H).get? b = some o := fun e n => hidT_get e n
 have nsK : ∀ {b : Addr} {m : Str -> Option Value}, s₁.heap.Ns b m -> (hidT s₁.heap H).Ns b m := fun {b m} ⟨o, es, ep, e, d, r⟩ => ⟨o, es, ep, base_of e (noA e d), d, r⟩
 have nK : ∀ b o, K.lookup b = some o -> H b = none := fun b o e => by
   cases q : H b with
   | none => rfl
   | some u =>
     rw [hK b u q] at e
     cases e
 have hKb : K.In (hidT s₁.heap H) := fun b o e => base_of (KX b o e) (nK b o e)
 have hM : Mod K mg (hidT s₁.heap H) := ⟨hKb, nsK hns, ⟨mb, nsK hb, hbb⟩, let ⟨mc, h1, h2⟩ := hlim; ⟨mc, nsK h1, h2⟩⟩
 have e0 : Env0 P w K mg (hidT s₁.heap H) callerA [] s₁ H := ⟨rfl, hM, fun b o e => of_hidT e, Nat.le_of_eq (hidT_size _ _), trivial, fun b hb => absurd (show b ∈ ([] : List Addr) from hb) (by simp), hok, .of_eq hg⟩
 have hl : vals.length = ps.length := by rw [Qa hwl]; exact hlen
 refine codeAny_mono ((F _ hKb (nsK hns)).run callerA [] s₁ H ⟨vals, []⟩ vals (vals.map toV) _ _ hr e0 (hbind s₁ vals hl) hV (hsp H _ hO hS)) fun r s' x => ?_
 cases r with
 | error e => exact (hCX H e s' x).elim
 | ok fl =>
   cases fl with
   | next => exact False.elim x
   | brk => exact False.elim x
   | cont => exact False.elim x
   | ret u =>
     obtain ⟨v, H', os, bare, un, hok', r', q⟩ := x
     have kept : ∀ b o, s₁.heap.get? b = some o -> s'.heap.get? b = some o := fun b o e => by
       cases q2 : H b with
       | none => exact un.keep b o e q2 (by intro z; exact absurd (show b ∈ ([] : List Addr) from z) (by simp)) (by simp)
       | some u2 =>
         rcases hO b with z | ⟨ob, u3, z⟩
         . rw [q2] at z
           cases z
         . have z2 := un.frzs b ob _ z
           obtain ⟨e1, _⟩ := hok b _ z
           obtain ⟨e2, _⟩ := hok' b _ z2
           rw [e] at e1
           cases e1
           exact e2
     have KX' : K.In s'.heap := fun b o e => kept b o (KX b o e)
     obtain ⟨as, hrd⟩ := Dw.reads (R := R) (cl := cl) hok' KX' d0 v u q r'
     exact ⟨u, as, rfl, hrd, OldK.of_keep kept, os, bare⟩
theorem layable_weight {ds : List WData} (h : WData.layableAll ds = true) : ∀ d ∈ ds, d.weight <= 1048576 := fun d hd =>
 (PySem.W.layableW_iff.mp (List.all_eq_true.mp h d hd)).2.2
theorem encAll_len : ∀ (cs : List Codec) (a : Codec.denoteAll cs), (Codec.encAll cs a).length = cs.length
 | [], _ => rfl
 | c :: cs, a => by
   show (Codec.encAll cs a.2).length + 1 = cs.length + 1
   rw [encAll_len cs a.2]
theorem walk_spec {r : OpenSpec} {k : Nat} {q : Program} {loose : List Str} {XP : (Str -> Option Value) -> Heap -> Prop} {YP : World -> Heap -> Prop} {d : DefRec} {K : Params -> PySem.W.Frag} {CX : World -> CXT} {ps : List Str} {sp : World -> Sp}
   (hwell : r.wellSaid = true) (hdf : d.params.defaults = []) (hlen : r.args.length = ps.length) (hr : Room k callerA)
   (hY : ∀ (w : World) (h : Heap), YP w h -> (K w.params).In h)
   (F : ∀ (w : World) (mg : Str -> Option Value) (fa : Addr) (h : Heap), YP w h -> (K w.params).In h -> h.Ns mainGlobals mg -> mg d.name = some (.ref fa) ->
     ∃ fd : FuncData, (∀ (s : Shared) (us : List Value), us.length = ps.length -> BindsTo s fd ⟨us, []⟩ (ps.zip us)) /\
       ∀ base : Heap, (K w.params).In base -> base.Ns mainGlobals mg -> FnOk r.prog w (K w.params) mg base (CX w) k fa fd ps (sp w))
   (hsp : ∀ (w : World) (H : Hp) (xs : List V) (a : Codec.denoteAll r.args), OnlyF H -> Codec.withinAll r.args a = true -> Codec.app r.args r.asked a = true -> DwAll (K w.params) H xs (Codec.encAll r.args a) ->
     sp w xs H (fun v H' => Dw (K w.params) H' v (r.ret.enc (Codec.app r.args r.f a))) fun _ _ _ => False)
   (hCX : ∀ (w : World) (H : Hp) (s : Shared) (e : Value) (s' : Shared), CX w [] H s (fun _ _ _ => False) e s' -> False) :
   PySem.W.WalkOS q loose XP YP r d [] (fun f vs => PySem.call f vs) := by
 intro w s_0 s₁ mg mb G Y fa o pm cd doc dV kV ho hd hcd hD hmg hg args vals as hpre hlay hrd hwl hlo
 obtain ⟨a, e1, e2⟩ := PySem.W.os_pre_some hpre
 obtain ⟨e3, hwi⟩ := Codec.encAll_of_decAll r.args args a e1
 subst e3
 have KX := hY w _ Y
 obtain ⟨fd, hb, hF⟩ := F w mg fa _ Y KX G.T.g hmg
 refine PySem.W.enter_call (codeAny_mono (spec_call (R := []) (cl := classAt s_0.heap) (d0 := r.ret.enc (Codec.app r.args r.f a)) KX G.T.g G.T.b G.T.builtins G.T.nolimit hg hwl (pl_encAll _ _) (layable_weight hlay) hr hF hb (by rw [encAll_len]; exact hlen)
   (fun H xs hO hS => hsp w H xs a hO hwi e2 hS) fun H e s' => hCX w H s₁ e s') fun r' s' hq => ?_)
 obtain ⟨u, as', rfl, h1, h2, h3, h4⟩ := hq
 exact ⟨.inl ⟨u, _, as', rfl, fun _ => rfl, h1, (OpenSpec.post_iff hwell hwi _ _).mpr rfl, fun z => Bool.noConfusion (show false = true from z)⟩, h2, h3, h4⟩
theorem walk_specK {r : OpenSpec} {k : Nat} {q : Program} {loose : List Str} {XP : (Str -> Option Value) -> Heap -> Prop} {YP : World -> Heap -> Prop} {d : DefRec} {K : Params -> PySem.W.Frag} {CX : CXT} {ps : List Str} {sp : PySem.W.Frag -> Sp}
   (hwell : r.wellSaid = true) (hdf : d.params.defaults = []) (hlen : r.args.length = ps.length) (hr : Room k callerA)
   (hY : ∀ (w : World) (h : Heap), YP w h -> (K w.params).In h)
   (F : ∀ (w : World) (mg : Str -> Option Value) (fa : Addr) (h : Heap), YP w h -> (K w.params).In h -> h.Ns mainGlobals mg -> mg d.name = some (.ref fa) ->
     ∃ fd : FuncData, (∀ (s : Shared) (us : List Value), us.length = ps.length -> BindsTo s fd ⟨us, []⟩ (ps.zip us)) /\
       ∀ base : Heap, (K w.params).In base -> base.Ns mainGlobals mg -> FnOk r.prog w (K w.params) mg base CX k fa fd ps (sp (K w.params)))
   (hsp : ∀ (K : PySem.W.Frag) (H : Hp) (xs : List V) (a : Codec.denoteAll r.args), OnlyF H -> Codec.withinAll r.args a = true -> Codec.app r.args r.asked a = true -> DwAll K H xs (Codec.encAll r.args a) ->
     sp K xs H (fun v H' => Dw K H' v (r.ret.enc (Codec.app r.args r.f a))) fun _ _ _ => False)
   (hCX : ∀ (H : Hp) (s : Shared) (e : Value) (s' : Shared), CX [] H s (fun _ _ _ => False) e s' -> False) :
   PySem.W.WalkOS q loose XP YP r d [] (fun f vs => PySem.call f vs) :=
 walk_spec (K := K) (CX := fun _ => CX) (sp := fun w => sp (K w.params)) hwell hdf hlen hr hY F (fun w H xs a h1 h2 h3 h4 => hsp (K w.params) H xs a h1 h2 h3 h4) fun _ H s e s' => hCX H s e s'
end L2
-- rests on (row put in by the clerk, for the bench that shows a file only what it spells): KE.SpHead KE.OsShapes
end
end
section
set_option Elab.async false
set_option linter.all false
set_option maxRecDepth 100000
set_option maxHeartbeats 3200000
namespace L2
open PySem
def Up (l : List Nat) : Prop := l.Pairwise (· < ·)
theorem Up.get {l : List Nat} (u : Up l) {i j : Nat} {a b : Nat} (h : i < j) (ha : l[i]? = some a) (hb : l[j]? = some b) : a < b := by
 obtain ⟨h1, e1⟩ := List.getElem?_eq_some_iff.mp ha
 obtain ⟨h2, e2⟩ := List.getElem?_eq_some_iff.mp hb
 have := List.pairwise_iff_getElem.mp u i j h1 h2 h
 rw [e1, e2] at this; exact this
theorem below_go {xs : Array Nat} (u : Up xs.toList) (j : Nat) : ∀ (fuel lo hi : Nat), hi - lo <= fuel -> lo <= hi -> hi <= xs.size -> (∀ i a, i < lo -> xs[i]? = some a -> a < j) -> (∀ i a, hi <= i -> xs[i]? = some a -> j <= a) ->
   ∃ p, SetTable.below.go xs j fuel lo hi = p /\ p <= xs.size /\ (∀ i a, i < p -> xs[i]? = some a -> a < j) /\ ∀ i a, p <= i -> xs[i]? = some a -> j <= a
 | 0, lo, hi, hf, hl, hh, h1, h2 => ⟨lo, rfl, by omega, h1, fun i a hi' => h2 i a (by omega)⟩
 | fuel + 1, lo, hi, hf, hl, hh, h1, h2 => by
   unfold SetTable.below.go
   by_cases c : lo < hi
   . rw [if_pos c]
     have hm : (lo + hi) / 2 < xs.size := by omega
     have em : xs[(lo + hi) / 2]? = some xs[(lo + hi) / 2] := Array.getElem?_eq_getElem hm
     have ed : xs.getD ((lo + hi) / 2) j = xs[(lo + hi) / 2] := by simp [Array.getD, hm]
     dsimp only
     rw [ed]
     have ul : ∀ {i k a b : Nat}, i < k -> xs[i]? = some a -> xs[k]? = some b -> a < b := fun {i k a b} hik ha hb => u.get hik (by rw [Array.getElem?_toList]; exact ha) (by rw [Array.getElem?_toList]; exact hb)
     by_cases d : xs[(lo + hi) / 2] < j
     . rw [if_pos d]
       refine below_go u j fuel _ hi (by omega) (by omega) hh (fun i a hi' ha => ?_) h2
       rcases Nat.lt_or_ge i ((lo + hi) / 2) with q | q
       . have := ul q ha em; omega
       . have e : i = (lo + hi) / 2 := by omega
         subst e
         rw [em] at ha; cases ha; exact d
     . rw [if_neg d]
       refine below_go u j fuel lo _ (by omega) (by omega) (by omega) h1 fun i a hi' ha => ?_
       rcases Nat.lt_or_ge ((lo + hi) / 2) i with q | q
       . have := ul q em ha; omega
       . have e : i = (lo + hi) / 2 := by omega
         subst e
         rw [em] at ha; cases ha; omega
   . rw [if_neg c]
     exact ⟨lo, rfl, by omega, h1, fun i a hi' => h2 i a (by omega)⟩
theorem below_is {xs : Array Nat} (u : Up xs.toList) (j : Nat) : SetTable.below xs j <= xs.size /\ (∀ i a, i < SetTable.below xs j -> xs[i]? = some a -> a < j) /\ ∀ i a, SetTable.below xs j <= i -> xs[i]? = some a -> j <= a := by
 obtain ⟨p, e, h⟩ := below_go u j xs.size 0 xs.size (by omega) (Nat.zero_le _) (Nat.le_refl _) (fun i a h => absurd h (Nat.not_lt_zero _)) (fun i a h ha => by
   rw [Array.getElem?_eq_none (by omega)] at ha; cases ha)
 unfold SetTable.below
 rw [e]; exact h
theorem below_at {xs : Array Nat} (u : Up xs.toList) {i a : Nat} (h : xs[i]? = some a) : SetTable.below xs a = i := by
 obtain ⟨h1, h2, h3⟩ := below_is u a
 rcases Nat.lt_trichotomy (SetTable.below xs a) i with q | q | q
 . have hl : SetTable.below xs a < xs.size := by
     have := (Array.getElem?_eq_some_iff.mp h).1; omega
   have e := Array.getElem?_eq_getElem hl
   have := h3 _ _ (Nat.le_refl _) e
   have := u.get q (by rw [Array.getElem?_toList]; exact e) (by rw [Array.getElem?_toList]; exact h)
   omega
 . exact q
 . have := h2 i a q h; omega
theorem below_next {xs : Array Nat} (u : Up xs.toList) {i a : Nat} (h : xs[i]? = some a) : SetTable.below xs (a + 1) = i + 1 := by
 obtain ⟨h1, h2, h3⟩ := below_is u (a + 1)
 have hi : i < SetTable.below xs (a + 1) := by
   rcases Nat.lt_or_ge i (SetTable.below xs (a + 1)) with q | q
   . exact q
   . have := h3 i a q h; omega
 rcases Nat.lt_or_ge (i + 1) (SetTable.below xs (a + 1)) with q | q
 . have hl : i + 1 < xs.size := by omega
   have e := Array.getElem?_eq_getElem hl
   have := h2 _ _ q e
   have := u.get (Nat.lt_succ_self i) (by rw [Array.getElem?_toList]; exact h) (by rw [Array.getElem?_toList]; exact e)
   omega
 . omega
theorem below_zero {xs : Array Nat} (u : Up xs.toList) : SetTable.below xs 0 = 0 := by
 obtain ⟨h1, h2, h3⟩ := below_is u 0
 rcases Nat.eq_zero_or_pos (SetTable.below xs 0) with q | q
 . exact q
 . have hl : 0 < xs.size := by omega
   have := h2 0 _ q (Array.getElem?_eq_getElem hl)
   omega
theorem Up.insert {xs : Array Nat} (u : Up xs.toList) {j : Nat} (h : xs[SetTable.below xs j]? ≠ some j) : Up (SetTable.insertAt xs (SetTable.below xs j) j).toList := by
 obtain ⟨h1, h2, h3⟩ := below_is u j
 rw [SetTable.toList_insertAt]
 have e := List.take_append_drop (SetTable.below xs j) xs.toList
 have u' := u
 unfold Up at u'
 rw [<- e, List.pairwise_append] at u'
 unfold Up
 rw [List.pairwise_append]
 refine ⟨u'.1, List.pairwise_cons.mpr ⟨fun b hb => ?_, u'.2.1⟩, fun a ha b hb => ?_⟩
 . obtain ⟨k, hk⟩ := List.mem_iff_getElem?.mp hb
   rw [List.getElem?_drop, Array.getElem?_toList] at hk
   have := h3 _ _ (by omega) hk
   rcases Nat.lt_or_ge j b with q | q
   . exact q
   . have eb : b = j := by omega
     subst eb
     have := below_at u hk
     have e0 : k = 0 := by omega
     subst e0
     exact absurd hk h
 . rcases List.mem_cons.mp hb with q | q
   . subst q
     obtain ⟨k, hk⟩ := List.mem_iff_getElem?.mp ha
     rw [List.getElem?_take] at hk
     split at hk
     . rename_i c
       rw [Array.getElem?_toList] at hk
       exact h2 _ _ c hk
     . cases hk
   . exact u'.2.2 a ha b q
theorem Up.range (n : Nat) : Up (Array.range n).toList := by
 rw [Array.toList_range]; exact List.pairwise_lt_range
structure TOk (t : SetTable) (n : Nat) (led : Bool) : Prop where
 fits : t.fits n = true
 up : Up t.place.toList
 dum : t.dummies = #[]
 led : t.led = led
theorem probe_go_empty {t : SetTable} {hashAt : Nat -> Int} {h : Int} (hd : t.dummies = #[]) : ∀ (fuel : Nat) (p : SetTable.Probe) (j : Nat) (d : Option Nat), p.dummy = none -> SetTable.probe.go t hashAt h fuel p = some (.empty j d) -> d = none /\ t.place[SetTable.below t.place j]? ≠ some j
 | 0, p, j, d, _, e => by cases e
 | fuel + 1, p, j, d, hp, e => by
   unfold SetTable.probe.go at e
   have hno : t.slot p.j ≠ .dummy := by
     unfold SetTable.slot
     dsimp only
     split
     . exact fun z => nomatch z
     . rw [hd]
       have : SetTable.has #[] p.j = false := by simp [SetTable.has]
       rw [this]
       exact fun z => nomatch z
   have adv : ∀ q : SetTable.Probe, q.dummy = none -> (t.advance q).dummy = none := fun q hq => by
     unfold SetTable.advance
     split
     . exact hq
     . exact hq
   split at e
   . rename_i hs
     cases e
     refine ⟨hp, fun z => ?_⟩
     unfold SetTable.slot at hs
     dsimp only at hs
     rw [z] at hs
     simp at hs
   . rename_i hs
     exact absurd hs hno
   . split at e
     . cases e
     . exact probe_go_empty hd fuel _ j d (adv p hp) e
theorem layNew_ok {t : SetTable} {es : Array (Int × Value)} {h : Int} {x : Value} {led : Bool} (ok : TOk t es.size led) : TOk (layNew t es h x).2.1 (layNew t es h x).1.size led := by
 have hfit := layNew_fits t es h x
 unfold layNew at hfit ⊢
 split
 . rename_i slot wd e
   rw [e] at hfit
   dsimp only at hfit ⊢
   have hs : t.place[SetTable.below t.place slot]? ≠ some slot := by
     unfold SetTable.freeSlot at e
     split at e
     . rename_i j dm hp
       have := probe_go_empty ok.dum _ _ j dm rfl hp
       obtain ⟨rfl, h2⟩ := this
       cases e
       exact h2
     . cases e
   have hput : Up (t.put slot).1.place.toList /\ (t.put slot).1.dummies = #[] /\ (t.put slot).1.led = led := by
     refine ⟨ok.up.insert hs, ?_, ok.led⟩
     show (if SetTable.has t.dummies slot then _ else t.dummies) = #[]
     rw [ok.dum]
     have : SetTable.has #[] slot = false := by simp [SetTable.has]
     rw [this]; rfl
   refine ⟨hfit, ?_, ?_, ?_⟩ <;> (unfold SetTable.orStandIn; split)
   . exact hput.1
   . exact Up.range _
   . exact hput.2.1
   . rfl
   . exact hput.2.2
   . exact hput.2.2
 . rename_i e
   rw [e] at hfit
   exact ⟨hfit, Up.range _, rfl, ok.led⟩
theorem Up.sub {l m : List Nat} (h : l.Sublist m) (u : Up m) : Up l := u.sublist h
theorem live_sub {α : Type} (f : Nat -> Option α) : ∀ l : List Nat, ((l.filterMap fun j => (f j).map (j, ·)).map (·.1)).Sublist l
 | [] => by simp
 | j :: l => by
   rw [List.filterMap_cons]
   cases f j with
   | none => exact (live_sub f l).cons j
   | some y => exact (live_sub f l).cons₂ j
theorem relayAll_ok {t : SetTable} {es : Array (Int × Value)} {wanted : Nat} {led : Bool} (h : t.led = led) : TOk (relayAll t es wanted).2.1 (relayAll t es wanted).1.size led := by
 have hfit := relayAll_fits t es wanted
 unfold relayAll at hfit ⊢
 split
 . rename_i t' order e
   rw [e] at hfit
   dsimp only at hfit ⊢
   split
   . rename_i hc
     rw [if_pos hc] at hfit
     unfold SetTable.relaid SetTable.laid at e
     cases e2 : SetTable.layClean (SetTable.sizeAbove wanted - 1) (es.map (·.1)) with
     | none => rw [e2] at e; cases e
     | some owner =>
       rw [e2] at e
       cases e
       refine ⟨hfit, ?_, rfl, h⟩
       exact Up.sub (live_sub _ _) List.pairwise_lt_range
   . rename_i hc
     rw [if_neg hc] at hfit
     exact ⟨hfit, Up.range _, rfl, h⟩
 . rename_i e
   rw [e] at hfit
   exact ⟨hfit, Up.range _, rfl, h⟩
def IntE (e : Int × Value) (k : Int) : Prop := e.1 = hashInt k /\ ∃ t, e.2 = .int k t
def SetAt (w : World) (h : Heap) (a : Addr) (ns : List Int) : Prop :=
 ns.Nodup /\ ns.length < scanBound /\ ∃ (es : Array (Int × Value)) (ep : Nat) (t : SetTable) (ks : List Int), h.get? a = some { cls := .type "set", data := .set es ep t } /\ TOk t es.size (!w.params.followText "set-order") /\ Paired IntE es.toList ks /\ ks.Perm ns
theorem pairE_len {l : List (Int × Value)} {ks : List Int} (h : Paired IntE l ks) : l.length = ks.length := by
 induction h with
 | nil => rfl
 | cons _ _ ih => rw [List.length_cons, List.length_cons, ih]
theorem pairE_elems {P : Program} {w : World} {l : List (Int × Value)} {ks : List Int} (h : Paired IntE l ks) : ElemsOf (intKind P w) l := by
 induction h with
 | nil => exact fun e he => nomatch he
 | @cons e k l ks hd _ ih =>
   intro x hx
   rcases List.mem_cons.mp hx with q | q
   . subst q
     obtain ⟨h1, t, h2⟩ := hd
     refine ⟨⟨k, ?_, h1⟩, ?_⟩
     . rw [h2]; simp [intKind, Value.isInt]
     . rw [h2]; rfl
   . exact ih x q
theorem pairE_find {P : Program} {w : World} {l : List (Int × Value)} {ks : List Int} (h : Paired IntE l ks) (k : Int) : (l.findIdx? fun e => (intKind P w).is k e.2).isSome = decide (k ∈ ks) := by
 induction h with
 | nil => rfl
 | @cons e j l ks hd _ ih =>
   obtain ⟨_, t, h2⟩ := hd
   rw [List.findIdx?_cons]
   have e1 : (intKind P w).is k e.2 = decide (k = j) := by
     rw [h2]
     show (j == k) = decide (k = j)
     by_cases q : k = j
     . subst q; simp
     . have q2 : ¬ j = k := fun z => q z.symm
       simp [q, q2]
   rw [e1]
   by_cases q : k = j
   . subst q; simp
   . simp only [q, decide_false, Bool.false_eq_true, if_false, Option.isSome_map, ih, List.mem_cons, false_or]
theorem pairE_snoc {l : List (Int × Value)} {ks : List Int} (h : Paired IntE l ks) {e : Int × Value} {k : Int} (hk : IntE e k) : Paired IntE (l ++ [e]) (ks ++ [k]) := by
 induction h with
 | nil => exact .cons hk .nil
 | cons a _ ih => exact .cons a ih
theorem pairE_perm {l m : List (Int × Value)} (p : l.Perm m) : ∀ {ks : List Int}, Paired IntE l ks -> ∃ js, Paired IntE m js /\ js.Perm ks := by
 induction p with
 | nil => intro ks h; exact ⟨ks, h, .refl _⟩
 | @cons x l m _ ih =>
   intro ks h
   cases h with
   | cons a t =>
     obtain ⟨js, h1, h2⟩ := ih t
     exact ⟨_ :: js, .cons a h1, h2.cons _⟩
 | swap x y l =>
   intro ks h
   cases h with
   | cons a t => cases t with
     | cons b t => exact ⟨_, .cons b (.cons a t), .swap ..⟩
 | trans _ _ ih1 ih2 =>
   intro ks h
   obtain ⟨js, h1, h2⟩ := ih1 h
   obtain ⟨is, h3, h4⟩ := ih2 h1
   exact ⟨is, h3, h4.trans h2⟩
def Xo (ns : List Int) (v : Int) : List Int := if v ∈ ns then ns else ns ++ [v]
section
variable {P : Program} {w : World} {A : Around} {E : Value -> Shared -> Prop} {s : Shared} {a : Addr}
theorem set_put {es es' : Array (Int × Value)} {ep : Nat} {t t' : SetTable} {Q : Unit -> Shared -> Prop} (ho : s.heap.get? a = some { cls := .type "set", data := .set es ep t }) (hz : es'.size < scanBound)
   (h : ∀ h', Heap.SameBut a s.heap h' -> h'.get? a = some { cls := .type "set", data := .set es' (ep + 1) t' } -> Q () { s with heap := h' }) : wpAny (model P w) A (storeSet a es' t') Q E s := by
 refine wpAny_storeSet_of ho rfl ?_ (fits_of_scanBound hz)
 refine h _ (Heap.SameBut.update s.heap a _) ?_
 exact Heap.get?_update_self (Obj.putSet es' t') ho rfl
set_option maxHeartbeats 1000000 in
theorem set_add {ns : List Int} {v : Int} {t0 : Tok} {Q : Bool -> Shared -> Prop} (hS : SetAt w s.heap a ns) (hr : ns.length + 1 < scanBound)
   (h : ∀ h', Heap.SameBut a s.heap h' -> SetAt w h' a (Xo ns v) -> ∀ b, Q b { s with heap := h' }) : wpAny (model P w) A (setAddHashed a (.int v t0) (hashInt v)) Q E s := by
 obtain ⟨hnd, hlen, es, ep, t, ks, ho, ok, pe, pm⟩ := hS
 have hel := pairE_elems (P := P) (w := w) pe
 have hkl := pairE_len pe
 have hpl := pm.length_eq
 have hesz : es.size = ns.length := by rw [<- Array.length_toList]; omega
 have hb : es.size < scanBound := by omega
 have hkey : (intKind P w).is v (.int v t0) = true := by simp [intKind, Value.isInt]
 unfold setAddHashed setAddHashedIn
 refine wpAny_holding (wpAny_bind (wpAny_setState_of ho rfl ok.fits ?_))
 dsimp only
 rw [byScan_of (knd := intKind P w) (x := .int v t0) rfl hb hel]
 rw [if_pos rfl]
 unfold setAddByScan
 refine wpAny_bind (wpAny_bind (wpAny_rule (wpAny_bind ?_)))
 have hfind := pairE_find (P := P) (w := w) pe v
 refine wpAny_setScan_of (knd := intKind P w) (k := v) hkey ho rfl ok.fits hel ?_
 cases hf : es.toList.findIdx? (fun e => (intKind P w).is v e.2) with
 | some j =>
   rw [hf] at hfind
   have hin : v ∈ ns := pm.mem_iff.mp (of_decide_eq_true hfind.symm)
   dsimp only
   refine wpAny_pure (wpAny_pure ?_)
   have e1 : Xo ns v = ns := if_pos hin
   exact h s.heap (Heap.SameBut.refl a s.heap) (by rw [e1]; exact ⟨hnd, hlen, es, ep, t, ks, ho, ok, pe, pm⟩) _
 | none =>
   rw [hf] at hfind
   have hin : v ∉ ns := fun z => by
     rw [decide_eq_true (pm.mem_iff.mpr z)] at hfind
     cases hfind
   have e1 : Xo ns v = ns ++ [v] := if_neg hin
   rw [e1] at h
   dsimp only
   have hp := layNew_perm t es (hashInt v) (.int v t0)
   have hok := layNew_ok (h := hashInt v) (x := .int v t0) ok
   generalize layNew t es (hashInt v) (.int v t0) = L at hp hok ⊢
   obtain ⟨es1, t1, wd, gave⟩ := L
   dsimp only at hp hok ⊢
   rw [Array.toList_push] at hp
   obtain ⟨js, pe1, pm1⟩ := pairE_perm hp.symm (pairE_snoc pe (e := (hashInt v, .int v t0)) (k := v) ⟨rfl, t0, rfl⟩)
   have pm2 : js.Perm (ns ++ [v]) := pm1.trans (pm.append_right _)
   have hsz1 : es1.size = ns.length + 1 := by rw [<- Array.length_toList, pairE_len pe1, pm2.length_eq, List.length_append]; rfl
   have nd : (ns ++ [v]).Nodup := by
     rw [List.nodup_append]
     exact ⟨hnd, by simp, fun x hx y hy e => hin (by rw [List.mem_singleton.mp hy] at e; rw [<- e]; exact hx)⟩
   have ln : (ns ++ [v]).length < scanBound := by rw [List.length_append]; exact hr
   have gw : ∀ (b : Bool) (s1 : Shared) (Q' : Unit -> Shared -> Prop), Q' () s1 -> wpAny (model P w) A (match b with | true => rule "set.scan.the-table-gave-way" | false => pure ()) Q' E s1 := fun b s1 Q' q => by
     cases b
     . exact wpAny_pure q
     . exact wpAny_rule q
   refine wpAny_bind (gw _ _ _ ?_)
   have tail : ∀ (t2 : SetTable), TOk t2 es1.size (!w.params.followText "set-order") -> wpAny (model P w) A (do
       storeSet a es1 t2
       if (!wd && t2.tooFull) = true then do
           (match (relayAll t2 es1 (SetTable.grown es1.size)).2.2 with | true => rule "set.scan.the-table-gave-way" | false => pure ())
           storeSet a (relayAll t2 es1 (SetTable.grown es1.size)).1 (relayAll t2 es1 (SetTable.grown es1.size)).2.1
           pure (some true)
         else pure (some true)) (fun r s' => ∃ b, r = some b /\ Q b s') E s := fun t2 ok2 => by
     refine wpAny_bind (set_put (t' := t2) ho (by rw [hsz1]; exact hr) fun h1 sb1 ho1 => ?_)
     split
     . have hp3 := relayAll_perm t2 es1 (SetTable.grown es1.size)
       have ok3 := relayAll_ok (es := es1) (wanted := SetTable.grown es1.size) ok2.led
       generalize relayAll t2 es1 (SetTable.grown es1.size) = R at hp3 ok3 ⊢
       obtain ⟨es2, t3, gave2⟩ := R
       dsimp only at hp3 ok3 ⊢
       obtain ⟨is, pe3, pm3⟩ := pairE_perm hp3.symm pe1
       have hsz2 : es2.size = ns.length + 1 := by rw [<- Array.length_toList, pairE_len pe3, pm3.length_eq, pm2.length_eq, List.length_append]; rfl
       refine wpAny_bind (gw _ _ _ (wpAny_bind (set_put (t' := t3) ho1 (by rw [hsz2]; exact hr) fun h2 sb2 ho2 => wpAny_pure ?_)))
       exact ⟨true, rfl, h h2 (sb1.trans sb2) ⟨nd, ln, es2, ep + 1 + 1, t3, is, ho2, ok3, pe3, pm3.trans pm2⟩ true⟩
     . exact wpAny_pure ⟨true, rfl, h h1 sb1 ⟨nd, ln, es1, ep + 1, t2, js, ho1, ok2, pe1, pm2⟩ true⟩
   have fin : ∀ (t2 : SetTable), TOk t2 es1.size (!w.params.followText "set-order") -> _ := fun t2 ok2 => wpAny_mono (tail t2 ok2) (Q' := fun r s' => wpAny (model P w) A (match r with | some added => pure added | none => setAddHashedIn a (.int v t0) (hashInt v) 99999) Q E s') (fun r s' hrr => by
     obtain ⟨b, rfl, q⟩ := hrr
     exact wpAny_pure q) (fun _ _ x => x)
   split
   . refine wpAny_bind ?_
     rw [hashByValue_scannable 8 (x := .int v t0) rfl]
     refine wpAny_pure ?_
     exact fin _ hok
   . refine wpAny_bind (wpAny_pure ?_)
     exact fin _ hok
end
theorem seti_next : Slot "set_iterator" "__next__" "set_iterator.__next__" := .of (owner := "set_iterator") (n := "__next__") (by rw [typeLookup_type, builtinLookup_eq_fast]; kernel_rfl) (by decide +kernel) (by decide +kernel) (by decide +kernel) (by first | exact .inl (by decide +kernel) | exact .inr (by decide +kernel)) (by rw [isSubtype_type]; kernel_rfl)
theorem seti_next_entry : entryFor table "set_iterator.__next__" = some Builtin.«set_iterator.__next__» := entryFor_of_fast (by kernel_rfl)
theorem seti_next_args (a : Value) : argsOk "set_iterator.__next__" ⟨[a], []⟩ := by unfold argsOk; kernel_rfl
theorem set_iter_entry : entryFor table "set.__iter__" = some Builtin.«frozenset.__iter__» := entryFor_alias (id' := "frozenset.__iter__") (by kernel_rfl) rfl (by decide +kernel) (by kernel_rfl)
theorem any_choose {M : Model} {A : Around} {E : Value -> Shared -> Prop} {s : Shared} {src : Source} {n : Nat} {Q : Nat -> Shared -> Prop} (hn : n ≠ 0) (h : ∀ i d, i < n -> Q i { s with drawn := d }) : wpAny M A (choose src n) Q E s := fun Γ p _ => by
 show Sem.wp M Γ (.choose src n .pure) _ _ p s
 exact ⟨hn, h _ _ (Nat.mod_lt _ (Nat.pos_of_ne_zero hn))⟩
theorem erase_perm {α : Type} : ∀ {l : List α} {i : Nat} {x : α}, l[i]? = some x -> (x :: l.eraseIdx i).Perm l
 | [], i, x, h => by simp at h
 | y :: l, 0, x, h => by
   have e : y = x := by simpa using h
   subst e; exact .refl _
 | y :: l, i + 1, x, h => by
   have h' : l[i]? = some x := by simpa using h
   exact (List.Perm.swap y x _).trans ((erase_perm h').cons y)
theorem draw_order {α : Type} {M : Model} {A : Around} {E : Value -> Shared -> Prop} : ∀ (n : Nat) (xs : List α) (s : Shared) (Q : List α -> Shared -> Prop), n = xs.length -> (∀ ys d, ys.Perm xs -> Q ys { s with drawn := d }) -> wpAny M A (drawOrder n xs) Q E s
 | 0, xs, s, Q, e, h => by
   have : xs = [] := List.eq_nil_of_length_eq_zero e.symm
   subst this
   exact wpAny_pure (h [] s.drawn (.refl _))
 | n + 1, [], s, Q, e, h => by cases e
 | n + 1, x :: xs, s, Q, e, h => by
   unfold drawOrder
   refine wpAny_bind (any_choose (by simp) fun i d hi => ?_)
   have hg : (x :: xs)[i]? = some (x :: xs)[i] := List.getElem?_eq_getElem hi
   rw [hg]
   dsimp only
   have hp := erase_perm hg
   refine wpAny_bind (draw_order n _ _ _ ?_ fun ys d' py => wpAny_pure (h _ d' ((py.cons _).trans hp)))
   have := hp.length_eq
   rw [List.length_cons] at this; omega
theorem pick_go {α : Type} (next : Nat -> Nat) : ∀ (fuel k : Nat) (left : List α) (out : Array α), fuel = left.length -> (pickOrder.go next fuel k left out).toList.Perm (out.toList ++ left)
 | 0, k, left, out, e => by
   have : left = [] := List.eq_nil_of_length_eq_zero e.symm
   subst this
   unfold pickOrder.go
   rw [List.append_nil]
 | fuel + 1, k, left, out, e => by
   unfold pickOrder.go
   have hl : next k % left.length < left.length := Nat.mod_lt _ (by omega)
   have hg : left[next k % left.length]? = some left[next k % left.length] := List.getElem?_eq_getElem hl
   rw [hg]
   dsimp only
   have hp := erase_perm hg
   have hlen := hp.length_eq
   rw [List.length_cons] at hlen
   refine (pick_go next fuel (k + 1) _ _ (by omega)).trans ?_
   rw [Array.toList_push, List.append_assoc]
   exact (hp.append_left _)
theorem pick_perm {α : Type} (next : Nat -> Nat) (xs : Array α) : (pickOrder next xs).toList.Perm xs.toList := by
 have := pick_go next xs.size 0 xs.toList #[] (by rw [Array.length_toList])
 simpa [pickOrder] using this
def placed (es : Array (Int × Value)) (t : SetTable) (slot : Nat) : Option (Value × Nat) := match es[SetTable.below t.place slot]?, t.place[SetTable.below t.place slot]? with | some (_, x), some j => some (x, j + 1) | _, _ => none
inductive Walk1 (w : World) (a : Addr) (es : Array (Int × Value)) (ep : Nat) (t : SetTable) (h : Heap) : Value -> Nat -> List Value -> Prop
 | text (f : w.params.followText "set-order" = true) (i : Nat) : Walk1 w a es ep t h (rawInt 0) i ((pickOrder (w.params.setOrder a ep) es).toList.map (·.2))
 | place (f : w.params.followText "set-order" = false) (d : (!t.plain && decide (es.size > 1)) = false) (i : Nat) (j : Nat) (hj : SetTable.below t.place j = i) : Walk1 w a es ep t h (rawInt j) i (es.toList.map (·.2))
 | drawn (f : w.params.followText "set-order" = false) (d : (!t.plain && decide (es.size > 1)) = true) (i : Nat) (b : Addr) (ps : List Nat) (hp : ps.Perm (List.range es.size)) (hb : h.get? b = some { cls := .type "tuple", data := .seq (ps.map fun (p : Nat) => rawInt p).toArray 0 }) :
     Walk1 w a es ep t h (.ref b) i (ps.filterMap fun p => es[p]?.map (·.2))
def SetIt (w : World) (a I : Addr) (es : Array (Int × Value)) (ep : Nat) (t : SetTable) (its : List Value) (fp : List Addr) (i : Nat) (h : Heap) : Prop :=
 h.get? a = some { cls := .type "set", data := .set es ep t } /\ a ∈ fp /\ I ∈ fp /\ ∃ first, h.get? I = some { cls := .type "set_iterator", data := .fields #[first, rawInt i, .ref a, rawInt es.size, rawInt ep] } /\ Walk1 w a es ep t h first i its /\ ∀ b, first = .ref b -> b ∈ fp /\ b ≠ I
section
variable {P : Program} {w : World} {A : Around} {E : Value -> Shared -> Prop} {s : Shared} {a : Addr} {es : Array (Int × Value)} {ep : Nat} {t : SetTable}
theorem set_drawn {Q : Bool -> Shared -> Prop} (ho : s.heap.get? a = some { cls := .type "set", data := .set es ep t }) (hf : t.fits es.size = true) (h : Q (!w.params.followText "set-order" && (!t.plain && decide (es.size > 1))) s) : wpAny (model P w) A (setDrawn a) Q E s := by
 unfold setDrawn
 refine wpAny_bind (wpAny_setState_of ho rfl hf (wpAny_bind (m := setsByText) ?_))
 unfold setsByText
 exact wpAny_bind (wpAny_askSetting (wpAny_pure (wpAny_pure h)))
theorem set_next {slot given ept : Nat} {Q : Option (Value × Nat) -> Shared -> Prop} (ho : s.heap.get? a = some { cls := .type "set", data := .set es ep t }) (ok : TOk t es.size (!w.params.followText "set-order"))
   (h1 : w.params.followText "set-order" = true -> ep = ept /\ Q (((pickOrder (w.params.setOrder a ep) es)[given]?).map fun e => (e.2, slot)) s)
   (h2 : w.params.followText "set-order" = false -> (!t.plain && decide (es.size > 1)) = false /\ Q (placed es t slot) s) : wpAny (model P w) A (setNext a slot given ept) Q E s := by
 unfold setNext
 refine wpAny_bind (wpAny_setState_of ho rfl ok.fits (wpAny_bind (m := setsByText) ?_))
 unfold setsByText
 refine wpAny_bind (wpAny_askSetting (wpAny_pure ?_))
 cases hf : w.params.followText "set-order" with
 | true =>
   obtain ⟨e, q⟩ := h1 hf
   subst e
   show wpAny _ _ (if w.params.followText "set-order" = true then _ else _) _ _ _
   rw [if_pos hf]
   simp only [bne_self_eq_false, Bool.false_eq_true, if_false]
   first | refine wpAny_bind (m := setWalk a) ?_ | refine wpAny_bind (wpAny_pure (wpAny_bind (m := setWalk a) ?_))
   unfold setWalk
   refine wpAny_bind (wpAny_setState_of ho rfl ok.fits (wpAny_bind (m := setsByText) ?_))
   unfold setsByText
   refine wpAny_bind (wpAny_askSetting (wpAny_pure ?_))
   show wpAny _ _ (if w.params.followText "set-order" = true then _ else _) _ _ _
   rw [if_pos hf]
   exact wpAny_bind (wpAny_askSetting (wpAny_pure (wpAny_pure q)))
 | false =>
   obtain ⟨e, q⟩ := h2 hf
   have hl : t.led = true := by rw [ok.led, hf]; rfl
   show wpAny _ _ (if w.params.followText "set-order" = true then _ else _) _ _ _
   rw [if_neg (by rw [hf]; exact Bool.false_ne_true)]
   show wpAny _ _ (if (!t.plain && decide (es.size > 1)) = true then _ else _) _ _ _
   rw [if_neg (by rw [e]; exact Bool.false_ne_true)]
   first
     | (show wpAny _ _ ((if (!t.led && !es.isEmpty) = true then unsupported "set:maker-not-led" else pure ()) >>= _) _ _ _
        rw [hl]
        exact wpAny_bind (wpAny_pure (wpAny_pure q)))
     | (show wpAny _ _ (if (!t.led && !es.isEmpty) = true then _ else _) _ _ _
        rw [hl]
        exact wpAny_pure q)
theorem set_iter {Q : Value -> Shared -> Prop} (ho : s.heap.get? a = some { cls := .type "set", data := .set es ep t }) (ok : TOk t es.size (!w.params.followText "set-order")) (hsz : es.size < scanBound)
   (h : ∀ (h' : Heap) (d : _) (its : List Value) (I : Addr) (fp : List Addr), its.Perm (es.toList.map (·.2)) -> (∀ b o, s.heap.get? b = some o -> h'.get? b = some o) -> s.heap.objs.size <= I -> SetIt w a I es ep t its fp 0 h' -> (∀ b ∈ fp, b = a \/ s.heap.objs.size <= b) -> Q (.ref I) { s with heap := h', drawn := d }) :
   wpAny (model P w) A (pyIter (.ref a)) Q E s := by
 have hT : s.TypeIs (.ref a) "set" := ⟨_, ho, rfl⟩
 have hlt : a < s.heap.objs.size := Heap.lt_size ho
 refine wpAny_pyIter_slot hT F.slot_set_iter (wpAny_call_entry F.slot_set_iter hT set_iter_entry ?_ (F.args_set_iter_1 _))
 unfold Builtin.«frozenset.__iter__» Builtin.Frozenset.slot0 slotArgs Builtin.Frozenset.addrOf Builtin.Frozenset.sizeOf
 simp only [List.isEmpty_nil, Bool.not_true, Bool.false_eq_true, ↓reduceIte, bind_assoc, List.length_nil, bne_self_eq_false]
 refine wpAny_bind (wpAny_pure ?_)
 try dsimp only
 refine wpAny_bind (wpAny_pure ?_)
 refine wpAny_bind (wpAny_setEntries_of ho rfl ok.fits (wpAny_bind (wpAny_pure ?_)))
 have fin : ∀ (s1 : Shared) (first : Value) (its : List Value), (∀ b o, s.heap.get? b = some o -> s1.heap.get? b = some o) -> s1.gens = s.gens -> s1.toks = s.toks -> s1.os = s.os -> s.heap.objs.size <= s1.heap.objs.size -> Walk1 w a es ep t s1.heap first 0 its -> its.Perm (es.toList.map (·.2)) -> (∀ b, first = .ref b -> b < s1.heap.objs.size /\ s.heap.objs.size <= b) ->
     wpAny (model P w) A.in1 (do ret (<- newFields "set_iterator" [first, rawInt 0, .ref a, rawInt es.size, rawInt (<- setEpoch a)])) (fun fin s' => ∃ r, fin = .done (.ret r) /\ ∃ T' r', s'.TypeIs r T' /\ typeLookup (.type T') "__next__" = pure (some r') /\ Q r s') E s1 := fun s1 first its k eg et eo hle wk pm hbl => by
   refine wpAny_bind (wpAny_setEpoch_of (k _ _ ho) rfl ok.fits (wpAny_bind (wpAny_newObj_type (wpAny_pure ⟨_, rfl, "set_iterator", _, ⟨_, Heap.get?_push_size _ rfl, rfl⟩, seti_next.lookup, ?_⟩))))
   have e1 : ({ s1 with heap := s1.heap.push { cls := .type "set_iterator", dict := none, data := .fields [first, rawInt 0, .ref a, rawInt es.size, rawInt ep].toArray } } : Shared) = { s with heap := s1.heap.push { cls := .type "set_iterator", dict := none, data := .fields [first, rawInt 0, .ref a, rawInt es.size, rawInt ep].toArray }, drawn := s1.drawn } := by
     cases s1; cases s; dsimp only at eg et eo ⊢; subst eg et eo; rfl
   rw [e1]
   refine h _ s1.drawn its s1.heap.objs.size (match first with | .ref b => [s1.heap.objs.size, a, b] | _ => [s1.heap.objs.size, a]) pm (fun b o e => Heap.get?_push_of_some _ (k b o e)) hle ⟨Heap.get?_push_of_some _ (k _ _ ho), ?_, ?_, first, Heap.get?_push_size _ rfl, ?_, fun b hb => ?_⟩ ?_
   . split <;> simp
   . split <;> simp
   . cases wk with
     | text f i => exact .text f _
     | place f d i j hj => exact .place f d _ j hj
     | drawn f d i b ps hp hb => exact .drawn f d _ b ps hp (Heap.get?_push_of_some _ hb)
   . subst hb
     exact ⟨by simp, Nat.ne_of_lt (hbl b rfl).1⟩
   . intro b hb
     have h3 : b = s1.heap.objs.size \/ b = a \/ first = .ref b := by
       cases first <;> simp only [List.mem_cons, List.not_mem_nil, or_false] at hb <;> rcases hb with q | q
       all_goals first | exact .inl q | exact .inr (.inl q) | skip
       rcases q with q | q
       . exact .inr (.inl q)
       . subst q; exact .inr (.inr rfl)
     rcases h3 with q | q | q
     . rw [q]; exact .inr hle
     . exact .inl q
     . exact .inr (hbl b q).2
 refine wpAny_bind (set_drawn ho ok.fits ?_)
 cases hf : w.params.followText "set-order" with
 | true =>
   simp only [Bool.not_true, Bool.false_and, Bool.false_eq_true, if_false]
   first
     | exact fin s (rawInt 0) _ (fun _ _ e => e) rfl rfl rfl (Nat.le_refl _) (.text hf 0) ((pick_perm _ es).map _) (fun b z => nomatch z)
     | exact wpAny_bind (wpAny_pure (fin s (rawInt 0) _ (fun _ _ e => e) rfl rfl rfl (Nat.le_refl _) (.text hf 0) ((pick_perm _ es).map _) (fun b z => nomatch z)))
 | false =>
   cases hd : (!t.plain && decide (es.size > 1)) with
   | false =>
     simp only [Bool.and_false, Bool.false_eq_true, if_false]
     first
       | exact fin s (rawInt 0) _ (fun _ _ e => e) rfl rfl rfl (Nat.le_refl _) (.place hf hd 0 0 (below_zero ok.up)) (.refl _) (fun b z => nomatch z)
       | exact wpAny_bind (wpAny_pure (fin s (rawInt 0) _ (fun _ _ e => e) rfl rfl rfl (Nat.le_refl _) (.place hf hd 0 0 (below_zero ok.up)) (.refl _) (fun b z => nomatch z)))
   | true =>
     simp only [Bool.not_false, Bool.and_self, if_true]
     refine wpAny_bind (draw_order es.size (List.range es.size) s _ (by simp) fun ps d pp => wpAny_bind (wpAny_newObj_type ?_ ?_))
     . refine fin _ (.ref s.heap.objs.size) (ps.filterMap fun p => es[p]?.map (·.2)) (fun b o e => Heap.get?_push_of_some _ e) rfl rfl rfl (by show _ <= (Heap.push _ _).objs.size; rw [Heap.size_push]; exact Nat.le_succ _) (.drawn hf hd 0 _ ps pp (Heap.get?_push_size _ rfl)) ?_ fun b z => ?_
       . refine (pp.filterMap _).trans ?_
         have := filterMap_getElem?_range es
         have e2 : (List.range es.size).filterMap (fun p => es[p]?.map (·.2)) = ((List.range es.size).filterMap fun p => es[p]?).map (·.2) := by rw [List.map_filterMap]
         rw [e2, this]
       . cases z
         refine ⟨?_, Nat.le_refl _⟩
         show _ < (Heap.push _ _).objs.size
         rw [Heap.size_push]; exact Nat.lt_succ_self _
     . have := pp.length_eq
       rw [List.length_range] at this
       show (ps.map _).toArray.size <= _
       simp only [List.size_toArray, List.length_map, this]
       exact Nat.le_trans (fits_of_scanBound hsz) (by first | exact Nat.le_refl _ | exact Nat.le_succ _)
end
section
variable {P : Program} {w : World} {A : Around} {E : Value -> Shared -> Prop} {s : Shared} {a I : Addr} {es : Array (Int × Value)} {ep : Nat} {t : SetTable} {its : List Value} {fp : List Addr} {i : Nat}
theorem SetIt.frame {h h' : Heap} (st : SetIt w a I es ep t its fp i h) (k : ∀ b ∈ fp, ∀ o, h.get? b = some o -> h'.get? b = some o) : SetIt w a I es ep t its fp i h' := by
 obtain ⟨ho, ha, hI, first, hi, wk, hb⟩ := st
 refine ⟨k a ha _ ho, ha, hI, first, k I hI _ hi, ?_, hb⟩
 cases wk with
 | text f i => exact .text f _
 | place f d i j hj => exact .place f d _ j hj
 | drawn f d i b ps hp h1 => exact .drawn f d _ b ps hp (k b (hb b rfl).1 _ h1)
theorem SetIt.typeIs (st : SetIt w a I es ep t its fp i s.heap) : s.TypeIs (.ref I) "set_iterator" := by
 obtain ⟨_, _, _, _, hi, _⟩ := st
 exact ⟨_, hi, rfl⟩
theorem walk_item {h : Heap} {first v : Value} (ok : TOk t es.size (!w.params.followText "set-order")) (wk : Walk1 w a es ep t h first i its) (hv : its[i]? = some v) :
   (∃ slot nx : Nat, first = rawInt slot /\ (w.params.followText "set-order" = true -> ((pickOrder (w.params.setOrder a ep) es)[i]?).map (fun e => (e.2, slot)) = some (v, nx)) /\
     (w.params.followText "set-order" = false -> (!t.plain && decide (es.size > 1)) = false /\ placed es t slot = some (v, nx)) /\ ∀ h', Walk1 w a es ep t h' (rawInt nx) (i + 1) its) \/
   (∃ (b : Addr) (ps : List Nat) (p : Nat) (e : Int), first = .ref b /\ h.get? b = some { cls := .type "tuple", data := .seq (ps.map fun (p : Nat) => rawInt p).toArray 0 } /\ ps[i]? = some p /\ es[p]? = some (e, v) /\
     ∀ h', h'.get? b = h.get? b -> Walk1 w a es ep t h' first (i + 1) its) := by
 cases wk with
 | text f _ =>
   refine .inl ⟨0, 0, rfl, fun _ => ?_, fun z => (by rw [f] at z; cases z), fun h' => .text f _⟩
   rw [List.getElem?_map, Array.getElem?_toList] at hv
   obtain ⟨e, he, hv⟩ := Option.map_eq_some_iff.mp hv
   rw [he, <- hv]; rfl
 | place f d _ j hj =>
   rw [List.getElem?_map, Array.getElem?_toList] at hv
   obtain ⟨e, he, hv⟩ := Option.map_eq_some_iff.mp hv
   have hsz : t.place.size = es.size := by
     have := ok.fits
     unfold SetTable.fits at this
     exact eq_of_beq (Bool.and_eq_true_iff.mp this).1
   have hi : i < t.place.size := by rw [hsz]; exact (Array.getElem?_eq_some_iff.mp he).1
   have hp := Array.getElem?_eq_getElem hi
   refine .inl ⟨j, t.place[i] + 1, rfl, fun z => (by rw [f] at z; cases z), fun _ => ⟨d, ?_⟩, fun h' => .place f d _ _ (below_next ok.up hp)⟩
   unfold placed
   rw [hj, he, hp]
   obtain ⟨e1, e2⟩ := e
   cases hv; rfl
 | drawn f d _ b ps hp hb =>
   refine .inr ?_
   have full : ∀ p ∈ ps, ∃ e, es[p]? = some e := fun p hpm => by
     have := List.mem_range.mp (hp.mem_iff.mp hpm)
     exact ⟨_, Array.getElem?_eq_getElem this⟩
   have at_ : ∀ (l : List Nat) (i : Nat) (v : Value), (∀ p ∈ l, ∃ e, es[p]? = some e) -> (l.filterMap fun p => es[p]?.map (·.2))[i]? = some v -> ∃ p e, l[i]? = some p /\ es[p]? = some (e, v) := by
     intro l
     induction l with
     | nil => intro i v _ h; simp at h
     | cons q l ih =>
       intro i v hf h
       obtain ⟨e, he⟩ := hf q List.mem_cons_self
       have e1 : es[q]?.map (·.2) = some e.2 := by rw [he]; rfl
       rw [List.filterMap_cons, he] at h
       dsimp only [Option.map_some] at h
       cases i with
       | zero =>
         have e2 : e.2 = v := by simpa using h
         subst e2
         exact ⟨q, e.1, rfl, he⟩
       | succ i => exact ih i v (fun p hp => hf p (List.mem_cons_of_mem _ hp)) (by simpa using h)
   obtain ⟨p, e, h1, h2⟩ := at_ ps i v full hv
   exact ⟨b, ps, p, e, rfl, hb, h1, h2, fun h' z => .drawn f d _ b ps hp (z.trans hb)⟩
theorem setField2 {h : Heap} {vs : Array Value} {j : Nat} {x : Value} (ho : h.get? I = some { cls := .type "set_iterator", data := .fields vs }) : (h.update I (Obj.mapFields (·.setIfInBounds j x))).get? I = some { cls := .type "set_iterator", data := .fields (vs.setIfInBounds j x) } := Heap.get?_update_self _ ho rfl
set_option maxHeartbeats 1000000 in
theorem set_item {v : Value} {Q : Option Value -> Shared -> Prop} (ok : TOk t es.size (!w.params.followText "set-order")) (st : SetIt w a I es ep t its fp i s.heap) (hv : its[i]? = some v)
   (h : ∀ h', SetIt w a I es ep t its fp (i + 1) h' -> (∀ b o, b ≠ I -> s.heap.get? b = some o -> h'.get? b = some o) -> Q (some v) { s with heap := h' }) : wpAny (model P w) A (pyNext (.ref I)) Q E s := by
 have hT := st.typeIs
 obtain ⟨ho, ha, hIf, first, hI, wk, hb⟩ := st
 unfold pyNext
 refine wpAny_bind (wpAny_attempt (wpAny_callSpecial?_slot (name := Str.ofString "__next__") hT seti_next (wpAny_call_entry seti_next hT seti_next_entry ?_ (seti_next_args _))))
 unfold Builtin.«set_iterator.__next__» slotArgs
 simp only [List.isEmpty_nil, Bool.not_true, Bool.false_eq_true, ↓reduceIte, bind_assoc, List.length_nil, bne_self_eq_false]
 refine wpAny_bind (wpAny_pure (wpAny_bind (wpAny_fieldsOf hI rfl ?_)))
 have hne : a ≠ I := fun z => by
   subst z
   rw [ho] at hI
   have z2 := congrArg (fun o : Obj => o.cls) (Option.some.inj hI)
   exact absurd (Value.type.inj z2) (by decide)
 rcases walk_item ok wk hv with ⟨slot, nx, rfl, t1, t2, nxt⟩ | ⟨b, ps, p, e, rfl, hbt, hpi, hes, nxt⟩
 . have tail : ∀ E', wpAny (model P w) A.in1 (do
       setField (.ref I) 0 (rawInt nx)
       setField (.ref I) 1 (rawInt ((i : Int) + 1))
       ret v) (fun fin s' => ∃ r, fin = .done (.ret r) /\ wpAny (model P w) A (match Except.ok (ε := Value) (some r) with
         | .ok (some v) => pure (some v)
         | .ok none => unsupported "iter:the-iterator's-class-has-lost-its-__next__-amid-the-walk"
         | .error e => do if <- isInstance e (.type "StopIteration") then pure none else throw e) Q E s') E' s := fun E' => by
     refine wpAny_bind (wpAny_setField hI rfl (by simp) (wpAny_bind (wpAny_setField (setField2 hI) rfl (by simp) (wpAny_pure ⟨v, rfl, wpAny_pure (h _ ⟨?_, ha, hIf, rawInt nx, ?_, nxt _, fun b z => nomatch z⟩ fun b o hb e => ?_)⟩))))
     . rw [Heap.get?_update_other _ _ (Ne.symm hne), Heap.get?_update_other _ _ (Ne.symm hne)]; exact ho
     . rw [setField2 (setField2 hI)]; rfl
     . rw [Heap.get?_update_other _ _ (Ne.symm hb), Heap.get?_update_other _ _ (Ne.symm hb)]; exact e
   refine wpAny_bind (m := setEntries a) (wpAny_setEntries_of ho rfl ok.fits ?_)
   dsimp only [rawInt]
   rw [if_neg (by simp)]
   refine wpAny_bind (set_next (P := P) ho ok (fun f => ⟨rfl, ?_⟩) fun f => ⟨(t2 f).1, ?_⟩)
   . rw [Int.toNat_natCast, Int.toNat_natCast, t1 f]
     exact tail _
   . rw [Int.toNat_natCast, (t2 f).2]
     exact tail _
 . have hbI := (hb b rfl).2
   refine wpAny_bind (m := setEntries a) (wpAny_setEntries_of ho rfl ok.fits ?_)
   dsimp only [rawInt]
   rw [if_neg (by simp)]
   refine wpAny_bind (wpAny_seqItems hbt rfl ?_)
   dsimp only
   have hpl : ((ps.map fun (p : Nat) => rawInt p).toArray)[((i : Nat) : Int).toNat]? = some (rawInt p) := by simp [hpi]
   rw [hpl]
   dsimp only [rawInt]
   refine wpAny_bind (m := setNextDrawn _ _ _) ?_
   unfold setNextDrawn
   refine wpAny_bind (wpAny_setState_of ho rfl ok.fits ?_)
   dsimp only
   rw [Int.toNat_natCast, Int.toNat_natCast, hes]
   simp only [bne_self_eq_false, Bool.false_eq_true, if_false]
   first
     | refine wpAny_pure ?_
     | refine wpAny_bind (wpAny_pure (wpAny_pure ?_))
   refine wpAny_bind (wpAny_setField hI rfl (by simp) (wpAny_pure ⟨v, rfl, wpAny_pure (h _ ⟨?_, ha, hIf, .ref b, ?_, nxt _ ?_, hb⟩ fun b o hb e => ?_)⟩))
   . rw [Heap.get?_update_other _ _ (Ne.symm hne)]; exact ho
   . rw [setField2 hI]; rfl
   . exact Heap.get?_update_other _ _ (Ne.symm hbI)
   . rw [Heap.get?_update_other _ _ (Ne.symm hb)]; exact e
end
theorem seti_iter : Slot "set_iterator" "__iter__" "set_iterator.__iter__" := .of (owner := "set_iterator") (n := "__iter__") (by rw [typeLookup_type, builtinLookup_eq_fast]; kernel_rfl) (by decide +kernel) (by decide +kernel) (by decide +kernel) (by first | exact .inl (by decide +kernel) | exact .inr (by decide +kernel)) (by rw [isSubtype_type]; kernel_rfl)
theorem seti_iter_entry : entryFor table "set_iterator.__iter__" = some Builtin.«dict_keyiterator.__iter__» := entryFor_alias (id' := "dict_keyiterator.__iter__") (by kernel_rfl) rfl (by decide +kernel) (by kernel_rfl)
theorem seti_iter_args (a : Value) : argsOk "set_iterator.__iter__" ⟨[a], []⟩ := by unfold argsOk; kernel_rfl
section
variable {P : Program} {w : World} {A : Around} {E : Value -> Shared -> Prop} {s : Shared} {a I : Addr} {es : Array (Int × Value)} {ep : Nat} {t : SetTable} {its : List Value} {fp : List Addr} {i : Nat}
theorem stop_end {R : Fin -> Shared -> Prop} {Q : Option Value -> Shared -> Prop} (hh : A.handled = none) (h : ∀ h', (∀ b o, s.heap.get? b = some o -> h'.get? b = some o) -> Q none { s with heap := h' }) :
   wpAny (model P w) A.in1 (do let e <- newExc (.type "StopIteration") []; raiseNew e) R (fun e s' => wpAny (model P w) A (do if <- isInstance e (.type "StopIteration") then pure none else throw e) Q E s') s := by
 refine wpAny_bind ?_
 simp only [newExc, newTuple]
 refine wpAny_bind (wpAny_newObj_type ?_ (by size_fits))
 refine wpAny_bind (m := firstArgMember _ _) (wpAny_of_eq (a := Value.none) (by first | rfl | (simp only [firstArgMember]; rfl)) (wpAny_newObj_type ?_ (by size_fits)))
 simp only [raiseNew]
 refine wpAny_bind (wpAny_handled ?_)
 have e1 : A.in1.handled = none := hh
 rw [e1]
 refine wpAny_bind (wpAny_pure (wpAny_throw (wpAny_bind ?_)))
 refine wpAny_isInstance (T := "StopIteration") (b := true) ⟨_, Heap.get?_push_size _ rfl, rfl⟩ isSubtype_stop (wpAny_pure (h _ fun b o e => ?_))
 exact Heap.get?_push_of_some _ (Heap.get?_push_of_some _ e)
set_option maxHeartbeats 1000000 in
theorem set_done {Q : Option Value -> Shared -> Prop} (hh : A.handled = none) (ok : TOk t es.size (!w.params.followText "set-order")) (st : SetIt w a I es ep t its fp its.length s.heap)
   (h : ∀ h', (∀ b o, b ≠ I -> s.heap.get? b = some o -> h'.get? b = some o) -> Q none { s with heap := h' }) : wpAny (model P w) A (pyNext (.ref I)) Q E s := by
 have hT := st.typeIs
 obtain ⟨ho, ha, hIf, first, hI, wk, hb⟩ := st
 unfold pyNext
 refine wpAny_bind (wpAny_attempt (wpAny_callSpecial?_slot (name := Str.ofString "__next__") hT seti_next (wpAny_call_entry seti_next hT seti_next_entry ?_ (seti_next_args _))))
 unfold Builtin.«set_iterator.__next__» slotArgs
 simp only [List.isEmpty_nil, Bool.not_true, Bool.false_eq_true, ↓reduceIte, bind_assoc, List.length_nil, bne_self_eq_false]
 refine wpAny_bind (wpAny_pure (wpAny_bind (wpAny_fieldsOf hI rfl ?_)))
 have tail : ∀ {R : Fin -> Shared -> Prop}, wpAny (model P w) A.in1 (do
     setField (.ref I) 2 .none
     let e <- newExc (.type "StopIteration") []
     raiseNew e) R (fun e s' => wpAny (model P w) A (do if <- isInstance e (.type "StopIteration") then pure none else throw e) Q E s') s := fun {R} => by
   refine wpAny_bind (wpAny_setField hI rfl (by simp) (stop_end hh fun h' k => h h' fun b o hb e => k b o ?_))
   rw [Heap.get?_update_other _ _ (Ne.symm hb)]; exact e
 have tail2 : ∀ {R : Fin -> Shared -> Prop}, wpAny (model P w) A.in1 (do
     setField (.ref I) 0 (rawInt 0)
     setField (.ref I) 2 .none
     let e <- newExc (.type "StopIteration") []
     raiseNew e) R (fun e s' => wpAny (model P w) A (do if <- isInstance e (.type "StopIteration") then pure none else throw e) Q E s') s := fun {R} => by
   refine wpAny_bind (wpAny_setField hI rfl (by simp) (wpAny_bind (wpAny_setField (setField2 hI) rfl (by simp) (stop_end hh fun h' k => h h' fun b o hb e => k b o ?_))))
   rw [Heap.get?_update_other _ _ (Ne.symm hb), Heap.get?_update_other _ _ (Ne.symm hb)]; exact e
 cases wk with
 | text f _ =>
   refine wpAny_bind (m := setEntries a) (wpAny_setEntries_of ho rfl ok.fits ?_)
   dsimp only [rawInt]
   rw [if_neg (by simp)]
   refine wpAny_bind (set_next (P := P) ho ok (fun f => ⟨rfl, ?_⟩) fun z => (by rw [f] at z; cases z))
   rw [Int.toNat_natCast, Array.getElem?_eq_none (by rw [List.length_map, Array.length_toList]; exact Nat.le_refl _)]
   exact tail
 | place f d _ j hj =>
   refine wpAny_bind (m := setEntries a) (wpAny_setEntries_of ho rfl ok.fits ?_)
   dsimp only [rawInt]
   rw [if_neg (by simp)]
   refine wpAny_bind (set_next (P := P) ho ok (fun z => (by rw [f] at z; cases z)) fun _ => ⟨d, ?_⟩)
   have e1 : placed es t j = none := by
     unfold placed
     rw [hj, Array.getElem?_eq_none (by rw [List.length_map, Array.length_toList]; exact Nat.le_refl _)]
   rw [Int.toNat_natCast, e1]
   exact tail
 | drawn f d _ b ps hp hbt =>
   refine wpAny_bind (m := setEntries a) (wpAny_setEntries_of ho rfl ok.fits ?_)
   dsimp only [rawInt]
   rw [if_neg (by simp)]
   refine wpAny_bind (wpAny_seqItems hbt rfl ?_)
   dsimp only
   have hl : (ps.filterMap fun p => es[p]?.map (·.2)).length = ps.length := by
     have h1 : (ps.filterMap fun p => es[p]?.map (·.2)).length = ((List.range es.size).filterMap fun p => es[p]?.map (·.2)).length := (hp.filterMap _).length_eq
     have e2 : (List.range es.size).filterMap (fun p => es[p]?.map (·.2)) = ((List.range es.size).filterMap fun p => es[p]?).map (·.2) := by rw [List.map_filterMap]
     rw [h1, e2, filterMap_getElem?_range, List.length_map, Array.length_toList, hp.length_eq, List.length_range]
   rw [Int.toNat_natCast, hl]
   rw [Array.getElem?_eq_none (by simp)]
   exact tail2
theorem set_self {Q : Value -> Shared -> Prop} (st : SetIt w a I es ep t its fp i s.heap) (h : Q (.ref I) s) : wpAny (model P w) A (pyIter (.ref I)) Q E s := by
 have hT := st.typeIs
 refine wpAny_pyIter_slot hT seti_iter (wpAny_call_entry seti_iter hT seti_iter_entry ?_ (seti_iter_args _))
 show wpAny _ _ (ret (.ref I)) _ _ s
 exact wpAny_pure ⟨_, rfl, "set_iterator", _, hT, seti_next.lookup, h⟩
theorem set_walks (hh : A.handled = none) (ok : TOk t es.size (!w.params.followText "set-order")) (hI : I ∈ fp) : Walks P w A I fp [I] its.length (fun i v => its[i]? = some v) (SetIt w a I es ep t its fp) where
 sub := fun b hb => by rw [List.mem_singleton.mp hb]; exact hI
 frame := fun i h h' st k => st.frame k
 item := fun i s Q E hi st hQ => set_item ok st (List.getElem?_eq_getElem hi) fun h' st' k => hQ _ h' s.toks (List.getElem?_eq_getElem hi) st' fun b o hb e => k b o (fun z => hb (List.mem_singleton.mpr z)) e
 done := fun s Q E st hQ => set_done hh ok st fun h' k => hQ h' s.toks fun b o hb e => k b o (fun z => hb (List.mem_singleton.mpr z)) e
 self := fun i s Q E st hQ => set_self st hQ
end
def met (ns : List Int) : List Int := ns.foldl Xo []
theorem stepIn_mem {ns : List Int} {v x : Int} : x ∈ Xo ns v ↔ x ∈ ns \/ x = v := by
 unfold Xo
 split
 . rename_i c
   exact ⟨.inl, fun q => q.elim id fun e => e ▸ c⟩
 . simp
theorem stepIn_nodup {ns : List Int} {v : Int} (h : ns.Nodup) : (Xo ns v).Nodup := by
 unfold Xo
 split
 . exact h
 . rename_i c
   rw [List.nodup_append]
   exact ⟨h, by simp, fun x hx y hy e => c (by rw [List.mem_singleton.mp hy] at e; rw [<- e]; exact hx)⟩
theorem stepIn_length {ns : List Int} {v : Int} : (Xo ns v).length <= ns.length + 1 := by
 unfold Xo
 split
 . omega
 . rw [List.length_append]; exact Nat.le_refl _
theorem fold_mem : ∀ (ns acc : List Int) (x : Int), x ∈ ns.foldl Xo acc ↔ x ∈ acc \/ x ∈ ns
 | [], acc, x => by simp
 | v :: ns, acc, x => by
   rw [List.foldl_cons, fold_mem ns, stepIn_mem, List.mem_cons]
   constructor
   . rintro ((h | h) | h)
     . exact .inl h
     . exact .inr (.inl h)
     . exact .inr (.inr h)
   . rintro (h | h | h)
     . exact .inl (.inl h)
     . exact .inl (.inr h)
     . exact .inr h
theorem fold_nodup : ∀ (ns acc : List Int), acc.Nodup -> (ns.foldl Xo acc).Nodup
 | [], acc, h => h
 | v :: ns, acc, h => fold_nodup ns _ (stepIn_nodup h)
theorem fold_len : ∀ (ns acc : List Int), (ns.foldl Xo acc).length <= acc.length + ns.length
 | [], acc => Nat.le_refl _
 | v :: ns, acc => by
   have h1 := fold_len ns (Xo acc v)
   have h2 := stepIn_length (ns := acc) (v := v)
   rw [List.foldl_cons, List.length_cons]; omega
theorem met_mem {ns : List Int} {x : Int} : x ∈ met ns ↔ x ∈ ns := by unfold met; rw [fold_mem]; simp
theorem met_nodup (ns : List Int) : (met ns).Nodup := fold_nodup ns [] List.nodup_nil
theorem met_len (ns : List Int) : (met ns).length <= ns.length := by have := fold_len ns []; unfold met; simpa using this
theorem met_snoc (ns : List Int) (v : Int) : met (ns ++ [v]) = Xo (met ns) v := by unfold met; rw [List.foldl_append]; rfl
theorem SetAt.keep {w : World} {h h' : Heap} {a : Addr} {ns : List Int} (S : SetAt w h a ns) (k : ∀ o, h.get? a = some o -> h'.get? a = some o) : SetAt w h' a ns := by
 obtain ⟨h1, h2, es, ep, t, ks, ho, r⟩ := S
 exact ⟨h1, h2, es, ep, t, ks, k _ ho, r⟩
section
variable {P : Program} {w : World} {A : Around} {R : Result -> Shared -> Prop} {E : Value -> Shared -> Prop} {I S : Addr} {fp wr : List Addr} {G : Array GenState -> Array GenState -> Prop} {St : Nat -> Shared -> Prop} {items : Array Value} {ns : List Int}
theorem set_loop (W : WalksS P w A.in1 I fp wr G items.size (fun i v => items[i]? = some v) St) (hSf : S ∉ fp) (hi : PyProof.Rows.IntsAre items.toList ns) (hb : items.size + 1 < scanBound) :
   ∀ (k i : Nat) (s : Shared), i + k = items.size -> St i s -> SetAt w s.heap S (met (ns.take i)) ->
     (∀ s', Moved (S :: wr) G s s' -> SetAt w s'.heap S (met ns) -> R (.ok (.ret .none)) s') -> codeAny (model P w) A (.builtin "set.update.loop" ⟨[.ref S, .ref I], []⟩) R s
 | 0, i, s, hk, st, hS, hR => by
   have hl : items.size = ns.length := by rw [<- hi.length, Array.length_toList]
   have ei : i = items.size := by omega
   subst ei
   refine codeAny_builtin PyProof.Rows.F.entry_set_update_loop ?_
   rw [Around.under_plainId PyProof.Rows.F.plain_set_update_loop _]
   refine wpAny_bind (m := pyNext (.ref I)) (W.done s _ _ st fun s' mv => ?_)
   refine wpAny_pure (hR s' (mv.mono fun b hb => List.mem_cons_of_mem _ hb) ?_)
   rw [List.take_of_length_le (by omega)] at hS
   exact hS.keep fun o e => mv.heap S o (fun z => hSf (W.sub _ z)) e
 | k + 1, i, s, hk, st, hS, hR => by
   have hl : items.size = ns.length := by rw [<- hi.length, Array.length_toList]
   refine codeAny_builtin PyProof.Rows.F.entry_set_update_loop ?_
   rw [Around.under_plainId PyProof.Rows.F.plain_set_update_loop _]
   refine wpAny_bind (m := pyNext (.ref I)) (W.item i s _ _ (by omega) st fun v s' hv st' mv => ?_)
   obtain ⟨tk, ev⟩ := PyProof.Rows.IntsAre.int_at hi i v (by rw [Array.getElem?_toList]; exact hv)
   subst ev
   have hS' : SetAt w s'.heap S (met (ns.take i)) := hS.keep fun o e => mv.heap S o (fun z => hSf (W.sub _ z)) e
   refine wpAny_bind (m := holding _ _) (wpAny_holding (wpAny_holding (wpAny_bind ((intKind P w).pyHash (k := ns.getD i 0) (by simp [intKind, Value.isInt]) ?_))))
   have hlt : (met (ns.take i)).length + 1 < scanBound := by
     have h1 := met_len (ns.take i)
     rw [List.length_take] at h1; omega
   refine set_add (P := P) (s := { s' with toks := s'.toks + 1 }) hS' hlt fun h' sb hS2 b => ?_
   have e1 : ns.take (i + 1) = ns.take i ++ [ns.getD i 0] := by
     rw [List.take_succ, List.getD_eq_getElem?_getD]
     have : i < ns.length := by omega
     rw [List.getElem?_eq_getElem this]; rfl
   have hS3 : SetAt w h' S (met (ns.take (i + 1))) := by rw [e1, met_snoc]; exact hS2
   refine wpAny_pure ⟨plainId_quiet PyProof.Rows.F.plain_set_update_loop _, set_loop W hSf hi hb k (i + 1) _ (by omega) (W.frame _ s' _ _ st' (Nat.le_succ _) fun b hb o e => ?_) hS3 fun s'' mv2 hS4 => ?_⟩
   . rw [sb.2 b fun z => hSf (z ▸ hb)]; exact e
   . refine hR s'' (Moved.trans W.gtrans ((mv.mono fun b hb => List.mem_cons_of_mem _ hb).then_heap (Nat.le_succ _) fun b o hb e => ?_) mv2) hS4
     rw [sb.2 b fun z => hb (z ▸ List.mem_cons_self)]; exact e
end
section
variable {P : Program} {w : World} {A : Around} {E : Value -> Shared -> Prop} {s : Shared}
def Vd (w : World) : Obj := { cls := .type "set", data := .set #[] 0 (.fresh 0 0 (!w.params.followText "set-order")) }
theorem set_new1 (v : Value) {Q1 : Value -> Shared -> Prop} (h : Q1 (.ref s.heap.objs.size) { s with heap := s.heap.push (Vd w) }) : codeAny (model P w) A (.call (.builtin "set.__new__") ⟨[.type "set", v], []⟩) (wants Q1 E) s := by
 refine codeAny_of_tree ?_
 refine wpAny_bind (m := checkBuiltinCall _ _) (wpAny_of_eq (F.newCall_set_1 v) (wpAny_pure ⟨plainId_quiet F.plain_set_new _, codeAny_builtin F.entry_set_new ?_⟩))
 rw [Around.under_plainId F.plain_set_new _]
 unfold Builtin.«set.__new__» Builtin.Frozenset.newClass
 have sub1 := sub_set_self
 obtain ⟨hp, g, d, tk, os⟩ := s
 dsimp only
 wp_walk
 refine wpAny_askSetting (wpAny_pure ?_)
 simp only [newObj]
 exact wpAny_bind (wpAny_alloc (wpAny_pure (wpAny_pure h)))
theorem SetAt.empty (h : Heap) : SetAt w (h.push (Vd w)) h.objs.size [] :=
 ⟨List.nodup_nil, by decide, #[], 0, _, [], Heap.get?_push_size _ rfl, ⟨rfl, List.Pairwise.nil, rfl, rfl⟩, .nil, .refl _⟩
set_option maxHeartbeats 3200000 in
theorem set_of_list {l : Addr} {items : Array Value} {ns : List Int} {Q : Value -> Shared -> Prop} (hh : A.handled = none) (hl : s.heap.IsList l items) (hi : PyProof.Rows.IntsAre items.toList ns) (hb : items.size + 1 < scanBound)
   (h : ∀ (h' : Heap) (tk : Nat), SetAt w h' s.heap.objs.size (met ns) -> (∀ b o, s.heap.get? b = some o -> h'.get? b = some o) -> Q (.ref s.heap.objs.size) { s with heap := h', toks := tk }) :
   wpAny (model P w) A (call (.type "set") [.ref l]) Q E s := by
 obtain ⟨c, tl, hmro⟩ := F.called_set.mro
 have hmade := F.called_set.made
 have hsub := F.called_set.sub
 refine wpAny_call (codeAny_of_tree ?_)
 show wpAny _ _ (callAny (.type "set") _) _ _ _
 refine wpAny_pure ⟨Code.quiet_builtin _ (by decide +kernel), codeAny_builtin F.entry_type_call ?_⟩
 rw [Around.under_plain (weight_type_call_type "set" [.ref l] []) rfl]
 have h1 := F.called_set.notType
 have h2 := F.called_set.canCreate
 have hct := F.typeCall_set_1 (.ref l)
 repeat (any_goals (first | assumption | wp_step))
 refine codeAny_mono (set_new1 (P := P) (.ref l) (E := E) (Q1 := fun ob s1 => ob = .ref s.heap.objs.size /\ s1 = { s with heap := s.heap.push (Vd w) }) ⟨rfl, rfl⟩) fun r s1 hr => ?_
 cases r with
 | error e => exact hr
 | ok fl => cases fl with
   | ret ob =>
     obtain ⟨rfl, rfl⟩ := hr
     have hS := Heap.get?_push_size s.heap (o := Vd w) rfl
     have hT : Shared.TypeIs { s with heap := s.heap.push (Vd w) } (.ref s.heap.objs.size) "set" := ⟨_, hS, rfl⟩
     have hli := F.called_set.init.lookup
     have hbi := F.called_set.init.bind (.ref s.heap.objs.size)
     repeat (any_goals (first | assumption | wp_step))
     refine codeAny_mono (codeAny_call_builtin (R := wants (fun r s2 => r = .none /\ ∃ h' tk, s2 = { s with heap := h', toks := tk } /\ SetAt w h' s.heap.objs.size (met ns) /\ ∀ b o, s.heap.get? b = some o -> h'.get? b = some o) E)
       F.called_set.init.plain F.entry_set_init (check_set_init_1 hT ?_)) fun r2 s2 hr2 => ?_
     . obtain ⟨ol, hol, hcl, nl, hdl⟩ := hl
       obtain ⟨ocls, odict, odata, oslots⟩ := ol
       simp only at hcl hdl
       subst hcl hdl
       have hol2 : (s.heap.push (Vd w)).get? l = some { cls := .type "list", dict := odict, data := .seq items nl, slots := oslots } := Heap.get?_push_of_some _ hol
       have hsls := F.sub_list_set
       have hslf := F.sub_list_frozenset
       have hne : (Value.type "list" == Value.type "dict") = false := by decide
       have hl1 : (s.heap.push (Vd w)).IsList l items := ⟨_, hol2, rfl, nl, rfl⟩
       have hS2 : (s.heap.push (Vd w)).get? s.heap.objs.size = some { cls := .type "set", data := .set #[] 0 (.fresh 0 0 (!w.params.followText "set-order")) } := hS
       unfold Builtin.«set.__init__» noKeywords Builtin.Frozenset.updateFrom
       generalize hPI : pyIter = PI
       wp_walk
       subst hPI
       refine wpAny_pyIter_list hl1 (wpAny_bind (wpAny_runValue ?_))
       have hlt : l < s.heap.objs.size := Heap.lt_size hol
       have hh3 : A.in1.in1.in1.handled = none := by simp [hh]
       have hsz := Heap.size_push s.heap (Vd w)
       have hneI : l ≠ (s.heap.push (Vd w)).objs.size := by rw [hsz]; exact Nat.ne_of_lt (Nat.lt_succ_of_lt hlt)
       have hSf : s.heap.objs.size ∉ [(s.heap.push (Vd w)).objs.size, l] := by
         rw [hsz]
         intro z
         rcases List.mem_cons.mp z with z | z
         . exact absurd z (Nat.ne_of_lt (Nat.lt_succ_self _))
         . exact absurd (List.mem_singleton.mp z).symm (Nat.ne_of_lt hlt)
       refine set_loop (P := P) ((Walks.list hh3 _ l hneI items).toS) hSf hi hb items.size 0 _ (by omega) ⟨⟨_, Heap.get?_push_size _ rfl, rfl, rfl⟩, hl1.push _⟩ ?_ fun s' mv hS4 => ?_
       . exact (SetAt.empty s.heap).keep fun o e => Heap.get?_push_of_some _ e
       . obtain ⟨h', g', d', tk', os'⟩ := s'
         have eg : g' = s.gens := mv.gens
         have ed : d' = s.drawn := mv.drawn
         have eo : os' = s.os := mv.os
         subst eg ed eo
         refine wpAny_pure (wpAny_pure ⟨rfl, h', tk', rfl, hS4, fun b o e => ?_⟩)
         have hbl := Heap.lt_size e
         refine mv.heap b o (fun z => ?_) (Heap.get?_push_of_some _ (Heap.get?_push_of_some _ e))
         rcases List.mem_cons.mp z with z | z
         . exact absurd z (Nat.ne_of_lt hbl)
         . have z2 := List.mem_singleton.mp z
           rw [hsz] at z2
           exact absurd z2 (Nat.ne_of_lt (Nat.lt_succ_of_lt hbl))
     . cases r2 with
       | error e => exact hr2
       | ok fl2 => cases fl2 with
         | ret r =>
           obtain ⟨rfl, h', tk, rfl, hS4, hk⟩ := hr2
           repeat (any_goals (first | assumption | wp_step))
           exact h _ _ hS4 hk
         | _ => exact hr2.elim
   | _ => exact hr.elim
end
def IntV (v : Value) (k : Int) : Prop := ∃ t, v = .int k t
theorem pairE_vals {l : List (Int × Value)} {ks : List Int} (h : Paired IntE l ks) : Paired IntV (l.map (·.2)) ks := by
 induction h with
 | nil => exact .nil
 | cons a _ ih => exact .cons a.2 ih
theorem pairV_perm {l m : List Value} (p : l.Perm m) : ∀ {ks : List Int}, Paired IntV l ks -> ∃ js, Paired IntV m js /\ js.Perm ks := by
 induction p with
 | nil => intro ks h; exact ⟨ks, h, .refl _⟩
 | @cons x l m _ ih =>
   intro ks h
   cases h with
   | cons a t =>
     obtain ⟨js, h1, h2⟩ := ih t
     exact ⟨_ :: js, .cons a h1, h2.cons _⟩
 | swap x y l =>
   intro ks h
   cases h with
   | cons a t => cases t with
     | cons b t => exact ⟨_, .cons b (.cons a t), .swap ..⟩
 | trans _ _ ih1 ih2 =>
   intro ks h
   obtain ⟨js, h1, h2⟩ := ih1 h
   obtain ⟨is, h3, h4⟩ := ih2 h1
   exact ⟨is, h3, h4.trans h2⟩
theorem pairV_ints {l : List Value} {ks : List Int} (h : Paired IntV l ks) : PyProof.Rows.IntsAre l ks := by
 induction h with
 | nil => exact .nil
 | cons a _ ih =>
   obtain ⟨t, rfl⟩ := a
   exact .cons _ t ih
section
variable {P : Program} {w : World} {A : Around} {E : Value -> Shared -> Prop} {s : Shared} {a : Addr}
set_option maxHeartbeats 2000000 in
theorem collect_set {ns : List Int} {Q : List Value -> Shared -> Prop} (hh : A.handled = none) (hS : SetAt w s.heap a ns)
   (h : ∀ (vs : List Value) (ks : List Int) (h' : Heap) (d : _) (tk : Nat), Paired IntV vs ks -> ks.Perm ns -> (∀ b o, s.heap.get? b = some o -> h'.get? b = some o) -> s.heap.objs.size <= h'.objs.size -> Q vs { s with heap := h', drawn := d, toks := tk }) :
   wpAny (model P w) A (collect (.ref a)) Q E s := by
 obtain ⟨hnd, hlen, es, ep, t, ks, ho, ok, pe, pm⟩ := hS
 have hlt : a < s.heap.objs.size := Heap.lt_size ho
 have hesz : es.size = ns.length := by rw [<- Array.length_toList, pairE_len pe, pm.length_eq]
 unfold collect
 refine wpAny_bind (wpAny_runValue (codeAny_builtin F.entry_proto_collect ?_))
 rw [Around.under_plainId F.plain_proto_collect _]
 refine wpAny_bind (m := newList []) (wpAny_newObj_type (wpAny_pure ⟨plainId_quiet F.plain_list_iadd _, codeAny_builtin F.entry_list_iadd ?_⟩))
 rw [Around.under_plainId F.plain_list_iadd _]
 generalize hL : ({ cls := .type "list", data := .seq ([] : List Value).toArray } : Obj) = L0
 have hL0 : (s.heap.push L0).get? s.heap.objs.size = some L0 := Heap.get?_push_size _ (by rw [<- hL]; rfl)
 have ho1 : (s.heap.push L0).get? a = some { cls := .type "set", data := .set es ep t } := Heap.get?_push_of_some _ ho
 have hT1 : Shared.TypeIs { s with heap := s.heap.push L0 } (.ref a) "set" := ⟨_, ho1, rfl⟩
 have hsame : Builtin.List.listSameRef (.ref s.heap.objs.size) (.ref a) = false := by
   show (s.heap.objs.size == a) = false
   exact beq_eq_false_iff_ne.mpr (Ne.symm (Nat.ne_of_lt hlt))
 show wpAny _ A.in1 (Builtin.List.listExtendWith (.ref s.heap.objs.size) (.ref a) (.ref s.heap.objs.size)) _ _ _
 unfold Builtin.List.listExtendWith
 refine wpAny_bind (wpAny_typeOf hT1 ?_)
 rw [if_neg (by rw [hsame]; decide)]
 refine wpAny_bind (set_iter (P := P) ho1 ok (by omega) fun h2 d its I fp pits k2 hIge st2 hfp => ?_)
 have ho2 := k2 _ _ ho1
 have hL2 := k2 _ _ hL0
 have hT2 : Shared.TypeIs { s with heap := h2, drawn := d } (.ref a) "set" := ⟨_, ho2, rfl⟩
 refine wpAny_bind (wpAny_holding ?_)
 unfold Builtin.List.listLengthHint
 refine wpAny_bind (wpAny_specialOf hT2 F.slot_set_len.lookup ?_)
 have hS2 : s.heap.objs.size ∉ fp := fun z => by
   rcases hfp _ z with q | q
   . exact absurd (q ▸ hlt) (Nat.lt_irrefl _)
   . have q2 : (s.heap.push L0).objs.size <= s.heap.objs.size := q
     rw [Heap.size_push] at q2
     exact absurd q2 (Nat.not_succ_le_self _)
 generalize hid : ("set.__len__" : String) = id0
 (fail_if_success (clear hid id0))
 wp_delta
 rw [show splitId id0 = some ("set", "__len__") from by subst hid; decide +kernel]
 subst hid
 refine wpAny_bind (wpAny_isInstance (b := true) hT2 (by rw [isSubtype_type]; kernel_rfl) ?_)
 rw [if_neg (by decide)]
 dsimp only
 rw [if_pos (by decide +kernel)]
 refine wpAny_bind (wpAny_typeOf hT2 (wpAny_pure ?_))
 rw [if_pos (by decide +kernel)]
 subst hL
 refine wpAny_bind (wpAny_rule (wpAny_bind (m := Builtin.List.listTouch _) ?_))
 refine wpAny_bind (m := updateSeq s.heap.objs.size (·.push .none)) (wpAny_updateSeq hL2 rfl ?_)
 have hL3 := Heap.get?_update_self (Obj.mapSeq (·.push Value.none)) hL2 rfl
 refine wpAny_updateSeq hL3 rfl ?_
 obtain ⟨c4, hL4⟩ : ∃ c, ((h2.update s.heap.objs.size (Obj.mapSeq (·.push Value.none))).update s.heap.objs.size (Obj.mapSeq (·.pop))).get? s.heap.objs.size = some { cls := .type "list", dict := none, data := .seq #[] c, slots := #[] } := ⟨_, Heap.get?_update_self (Obj.mapSeq (·.pop)) hL3 rfl⟩
 generalize hh4 : (h2.update s.heap.objs.size (Obj.mapSeq (·.push Value.none))).update s.heap.objs.size (Obj.mapSeq (·.pop)) = h4 at hL4 ⊢
 have oth : ∀ b o, b ≠ s.heap.objs.size -> h2.get? b = some o -> h4.get? b = some o := fun b o hb e => by
   rw [<- hh4]
   exact (Heap.get?_update_other _ _ (Ne.symm hb)).trans ((Heap.get?_update_other _ _ (Ne.symm hb)).trans e)
 have st4 : SetIt w a I es ep t its fp 0 h4 := st2.frame fun b hb o e => oth b o (fun z => hS2 (z ▸ hb)) e
 have hIf : I ∈ fp := st2.2.2.1
 have hits : its.length = ns.length := by rw [pits.length_eq, List.length_map, Array.length_toList, hesz]
 have hn : its.length <= sizeLine := fits_of_scanBound (by omega)
 have hh2 : A.in1.handled = none := hh
 refine wpAny_pure ⟨plainId_quiet F.plain_extend_loop _, codeAny_extend_loopS (set_walks (P := P) (A := A.in1) hh2 ok hIf).toS hn _ hS2 _ its.length 0 _ _ _ rfl (Nat.zero_le _) st4 hL4 (ItemsOf.nil _) fun s' acc c mv hacc ia => ?_⟩
 refine wpAny_bind (m := load s.heap.objs.size) (wpAny_load hacc ?_)
 obtain ⟨h', g', d', tk', os'⟩ := s'
 have eg : g' = s.gens := mv.gens
 have ed : d' = d := mv.drawn
 have eo : os' = s.os := mv.os
 subst eg ed eo
 have hal : acc.toList = its := by
   apply List.ext_getElem?
   intro j
   rw [Array.getElem?_toList]
   by_cases q : j < acc.size
   . rw [Array.getElem?_eq_getElem q]
     exact (ia.2 j _ (Array.getElem?_eq_getElem q)).symm
   . rw [Array.getElem?_eq_none (by omega), List.getElem?_eq_none (by have := ia.1; omega)]
 rw [<- hal] at pits
 obtain ⟨js, pj, pmj⟩ := pairV_perm pits.symm (pairE_vals pe)
 refine wpAny_pure (h acc.toList js h' d' tk' pj (pmj.trans pm) (fun b o e => ?_) (Nat.le_of_lt (Heap.lt_size hacc)))
 have hbl := Heap.lt_size e
 refine mv.heap b o (fun z => ?_) (oth b o (Nat.ne_of_lt hbl) (k2 b o (Heap.get?_push_of_some _ e)))
 rcases List.mem_cons.mp z with q | q
 . exact absurd (q ▸ hbl) (Nat.lt_irrefl _)
 . have q2 := List.mem_singleton.mp q
   subst q2
   have q3 : (s.heap.push _).objs.size <= b := hIge
   rw [Heap.size_push] at q3
   exact absurd (Nat.lt_of_lt_of_le (Nat.lt_succ_of_lt hbl) q3) (Nat.lt_irrefl _)
theorem sorted_set {ns : List Int} {Q : Value -> Shared -> Prop} (hh : A.handled = none) (hS : SetAt w s.heap a ns) (h64 : ns.length < 64)
   (h : ∀ (out : Array Value) (ns' : List Int) (h' : Heap) (d : _) (tk : Nat) (p : Addr) (n : Nat), PyProof.Rows.IntsAre out.toList ns' -> ns'.Perm ns -> ns'.Pairwise (· <= ·) -> (∀ b o, s.heap.get? b = some o -> h'.get? b = some o) -> s.heap.objs.size <= p ->
     h'.get? p = some (PyProof.Rows.seqObj "list" out n) -> Q (.ref p) { s with heap := h', drawn := d, toks := tk }) : wpAny (model P w) A (call (.builtin "sorted") [.ref a]) Q E s := by
 refine Calls.call_function_entry PyProof.Rows.kind_sorted PyProof.Rows.plain_sorted PyProof.Rows.entry_sorted (PyProof.Rows.args_sorted1 _) ?_
 unfold Builtin.«sorted»
 have hal : a < s.heap.objs.size := by
   obtain ⟨_, _, es, ep, t, ks, ho, _⟩ := hS
   exact Heap.lt_size ho
 refine wpAny_bind (m := checkCount "sorted" 1 1 _) (wpAny_pure (wpAny_bind (collect_set hh hS fun vs ks h1 d tk pv pm k1 hsz => ?_)))
 have hI := pairV_ints pv
 have hl : vs.length < 64 := by rw [hI.length, pm.length_eq]; exact h64
 refine wpAny_bind (wpAny_newList ?_ (by rw [sizeLine_eq]; omega))
 have hoL : (h1.push (PyProof.Rows.seqObj "list" vs.toArray 0)).get? h1.objs.size = some (PyProof.Rows.seqObj "list" vs.toArray 0) := Heap.get?_push_size _ rfl
 refine wpAny_bind (wpAny_holding (wpAny_call_entry PyProof.Rows.slot_list_sort ⟨_, hoL, rfl⟩ PyProof.Rows.entry_list_sort (PyProof.Rows.list_sort_tree hoL hI hl fun out ns' a1 a2 a3 => ⟨_, rfl, ?_⟩) (PyProof.Rows.args_list_sort _)))
 obtain ⟨n, hn⟩ := PyProof.Rows.sortedHeap_at (vs := vs) (out := out) hoL
 refine wpAny_pure ⟨_, rfl, h out ns' _ d tk h1.objs.size n a1 (a2.trans pm) a3 (fun b o e => ?_) hsz hn⟩
 have e1 := k1 b o e
 have hb := Heap.lt_size e1
 rw [PyProof.Rows.sortedHeap_old (Nat.ne_of_lt hb) (by rw [Heap.size_push]; exact Nat.lt_succ_of_lt hb)]
 exact Heap.get?_push_of_some _ e1
end
end L2
end
section
set_option Elab.async false
set_option linter.all false
set_option maxRecDepth 100000
set_option maxHeartbeats 2000000
namespace L2
open PySem PySem.Spec PyProof.Rows
section
variable {X : Cx}
theorem bootAny : bootBuiltins "any" = some (.builtin "any") := by decide +kernel
theorem bootMin : bootBuiltins "min" = some (.builtin "min") := by decide +kernel
theorem bootSorted : bootBuiltins "sorted" = some (.builtin "sorted") := by decide +kernel
theorem bootList : bootBuiltins "list" = some (.type "list") := by decide +kernel
theorem bootAll : bootBuiltins "all" = some (.builtin "all") := by decide +kernel
structure Def (P : Program) (w : World) (K : PySem.W.Frag) (mg : Str -> Option Value) (base : Heap) (x : Str) (k : Nat) (ps : List Str) (sp : Sp) : Prop where
 ex : ∃ f fd, mg x = some (.ref f) /\ FnOk P w K mg base CX0 k f fd ps sp /\ PySem.W.keepIn K (.ref f) = true /\ Binds K fd ps []
structure DefA (P : Program) (w : World) (K : PySem.W.Frag) (mg : Str -> Option Value) (base : Heap) (x : Str) (f : Addr) (k : Nat) (ps : List Str) (sp : Sp) : Prop where
 at_ : mg x = some (.ref f)
 kp : PySem.W.keepIn K (.ref f) = true
 ex : ∃ fd, FnOk P w K mg base CX0 k f fd ps sp /\ Binds K fd ps []
theorem DefA.def {P : Program} {w : World} {K : PySem.W.Frag} {mg : Str -> Option Value} {base : Heap} {x : Str} {f : Addr} {k : Nat} {ps : List Str} {sp : Sp} (D : DefA P w K mg base x f k ps sp) : Def P w K mg base x k ps sp := by
 obtain ⟨fd, h1, h2⟩ := D.ex
 exact ⟨f, fd, D.at_, h1, D.kp, h2⟩
theorem Zk {x : Str} {p pos : Pos} {e : Expr} {es : List Expr} {t : TA} {k : Nat} {ps : List Str} {sp : Sp} (D : Def X.prog X.w X.K X.mg X.base x k ps sp) (hr : Room k X.A) (ha : PA X (e :: es) t) (hg : Gl X x := by rfl)
   (hdb : (x == ("__debug__" : Str)) = false := by decide) (he : starEach (e :: es) X.env = (false, eval e X.env) :: starEach es X.env := by rfl) (hpl : (backTo pos (starEach es X.env)).any (·.1) = false := by rfl) :
   PE X (.Call (.Name x p) (e :: es) [] pos) (tCall sp [] E0 t) := by
 obtain ⟨f, fd, hm, F, hk, hb⟩ := D.ex
 exact pe_call F hr hg hm hk hb .nil pass0 ha hdb he hpl
def tCallV (i : Nat) (f : Addr) (sp : Sp) (t : TA) : TE := fun σ H Q => σ[i]? = some (some (.ref f)) /\ tCall sp [] E0 t σ H Q
theorem pe_fnV {i : Nat} {x y : Str} {p pos : Pos} {e : Expr} {es : List Expr} {t : TA} {f : Addr} {k : Nat} {ps : List Str} {sp : Sp} (D : DefA X.prog X.w X.K X.mg X.base y f k ps sp) (hr : Room k X.A) (ha : PA X (e :: es) t)
   (hN : X.N[i]? = some x := by rfl) (hv : Vis X.env.scope x := by first | exact Or.inl rfl | exact Or.inr (Or.inl rfl) | exact Or.inr (Or.inr rfl)) (hd : (x == ("__debug__" : Str)) = false := by decide) (hcd : (x == ("__classdict__" : Str)) = false := by decide)
   (he : starEach (e :: es) X.env = (false, eval e X.env) :: starEach es X.env := by rfl) (hpl : (backTo pos (starEach es X.env)).any (·.1) = false := by rfl) :
   PE X (.Call (.Name x p) (e :: es) [] pos) (tCallV i f sp t) := by
 intro pins s σ H Q I h
 obtain ⟨h0, h⟩ := h
 obtain ⟨fd, F, hb⟩ := D.ex
 refine wpAny_Call_Name_kw (thn (pe_var hN hv hd hcd pins s σ H (fun v H' => v = .ref f /\ H' = H) I ⟨_, h0, rfl, rfl⟩) fun fv s0 ⟨v, H0, I0, r0, e1, e2⟩ => ?_)
 subst e1; subst e2
 obtain rfl : fv = Value.ref f := r0
 refine PySem.W.callWith_K (h₀ := X.base) I.ok.mod.kin D.kp (thn (ha pos pins s0 σ _ _ I0 h) fun us s1 ⟨vs, H1, I1, r, q⟩ => ⟨I1.kIn, ?_⟩) he hpl
 exact run_fn F hr hb .nil pass0 I1 r q
structure MethD (P : Program) (w : World) (K : PySem.W.Frag) (mg : Str -> Option Value) (base : Heap) (C : Addr) (m : Str) (k : Nat) (ps : List Str) (sp : Sp) : Prop where
 cl : Cls K C
 ex : ∃ f fd, Meth K C m f /\ FnOk P w K mg base CX0 k f fd ps sp /\ Binds K fd ps []
theorem pe_mth {C : Addr} {o : Expr} {m : Str} {apos pos : Pos} {e : Expr} {es : List Expr} {ta : TE} {t : TA} {k : Nat} {ps : List Str} {sp : Sp} {pl : Sem Bool} (D : MethD X.prog X.w X.K X.mg X.base C m k ps sp) (hr : Room k X.A) (he : PE X o ta) (ha : PA X (e :: es) t)
   (hst : starEach (e :: es) X.env = (false, eval e X.env) :: starEach es X.env := by rfl) (hpl : (backTo pos (starEach es X.env)).any (·.1) = false := by rfl)
   (ht : eval (.Call (.Attribute o m apos) (e :: es) [] pos) X.env = (do
     let ov <- eval o X.env
     standAt apos.atName
     let (f, first) <- holding [ov] (getMethod ov m pl)
     callWith pos f first (backTo pos (starEach (e :: es) X.env)) (backToKw pos (keywordEach [] X.env))) := by rfl) :
   PE X (.Call (.Attribute o m apos) (e :: es) [] pos) (tMeth C m sp [] E0 ta t) := by
 obtain ⟨f, fd, hm, F, hb⟩ := D.ex
 exact pe_meth he D.cl hm F hr hb .nil pass0 ha hst hpl ht
theorem pe_mth0 {C : Addr} {o : Expr} {m : Str} {apos pos : Pos} {ta : TE} {k : Nat} {ps : List Str} {sp : Sp} {pl : Sem Bool} (D : MethD X.prog X.w X.K X.mg X.base C m k ps sp) (hr : Room k X.A) (he : PE X o ta)
   (ht : eval (.Call (.Attribute o m apos) [] [] pos) X.env = (do
     let ov <- eval o X.env
     standAt apos.atName
     let (f, first) <- holding [ov] (getMethod ov m pl)
     callWith pos f first (backTo pos (starEach [] X.env)) (backToKw pos (keywordEach [] X.env))) := by rfl) :
   PE X (.Call (.Attribute o m apos) [] [] pos) (tMeth C m sp [] E0 ta tNil) := by
 obtain ⟨f, fd, hm, F, hb⟩ := D.ex
 exact pe_meth0 he D.cl hm F hr hb .nil pass0 ht
theorem Zy {x : Str} {i : Int} {pos : Pos} (h : ∃ t, X.mg x = some (.int i t)) (hg : Gl X x := by rfl) (hd : (x == ("__debug__" : Str)) = false := by decide) : PE X (.Name x pos) (tC (.int i)) := by
 obtain ⟨t, h⟩ := h
 exact pe_glob hg h ⟨t, rfl⟩ hd
theorem pe_gr {x : Str} {a : Addr} {pos : Pos} (h : X.mg x = some (.ref a)) (hg : Gl X x := by rfl) (hd : (x == ("__debug__" : Str)) = false := by decide) : PE X (.Name x pos) (tC (.ref a)) := pe_glob hg h rfl hd
end
section
variable {X : Cx} {tg : Expr}
theorem Zd (K : PySem.W.Frag) (h : X.K = K := by rfl) : IxR X (rIxL K) := by subst h; exact ix_list
theorem Xg (K : PySem.W.Frag) (h : X.K = K := by rfl) : IxR X (rIxT K) := by subst h; exact ix_tup
theorem Yg (K : PySem.W.Frag) {l : Expr} {tl : TE} (hl : PE X l tl) (h : X.K = K := by rfl) : PI X tg l (iList K tl) := by subst h; exact pi_list hl
theorem pi_enumK (K : PySem.W.Frag) {e : Expr} {ta : TA} {p pos tpos : Pos} {elts : List Expr} {kk : Nat} (hg : Gl X "enumerate") (hm : X.mg "enumerate" = none) (ha : PA X [e] ta) (hs : starEach [e] X.env = [(false, eval e X.env)] := by rfl) (h : X.K = K := by rfl) :
   PI X (.Tuple elts kk tpos) (.Call (.Name "enumerate" p) [e] [] pos) (iEnum K ta) := by subst h; exact pi_enum hg hm ha hs
theorem pi_zipK (K : PySem.W.Frag) {e e2 : Expr} {ta : TA} {p pos tpos : Pos} {elts : List Expr} {kk : Nat} (hg : Gl X "zip") (hm : X.mg "zip" = none) (ha : PA X [e, e2] ta) (h : X.K = K := by rfl)
   (hs : starEach [e, e2] X.env = (false, eval e X.env) :: starEach [e2] X.env := by rfl) (hs2 : (backTo pos (starEach [e2] X.env)).any (·.1) = false := by rfl) : PI X (.Tuple elts kk tpos) (.Call (.Name "zip" p) [e, e2] [] pos) (iZip K ta) := by subst h; exact pi_zip hg hm ha hs hs2
theorem pi_reversedK (K : PySem.W.Frag) {e : Expr} {ta : TA} {p pos : Pos} (hg : Gl X "reversed") (hm : X.mg "reversed" = none) (ha : PA X [e] ta) (hs : starEach [e] X.env = [(false, eval e X.env)] := by rfl) (h : X.K = K := by rfl) :
   PI X tg (.Call (.Name "reversed" p) [e] [] pos) (iRev K ta) := by subst h; exact pi_reversed hg hm ha hs
theorem Qi (K : PySem.W.Frag) {es : List Expr} {k : Nat} {t : TGs} {n : Nat} {pos : Pos} (hc : X.calm = true) (h : PGs X es t) (hn : (assignEach es X.env).length = n := by rfl) (hst : (assignEach es X.env).findIdx? (·.1) = none := by rfl) (hK : X.K = K := by rfl) :
   PG X (.Tuple es k pos) (gTup K n t) := by subst hK; exact pg_tup hc h hn hst
theorem cr_anyK (K : PySem.W.Frag) (hc : X.calm = true) (h : X.K = K := by rfl) : Xw X (.builtin "any") (rAny K) := by subst h; exact cr_any hc
theorem cr_allK (K : PySem.W.Frag) (hc : X.calm = true) (h : X.K = K := by rfl) : Xw X (.builtin "all") (rAll K) := by subst h; exact cr_all hc
theorem cr_minK (K : PySem.W.Frag) (hc : X.calm = true) (h : X.K = K := by rfl) : Xw X (.builtin "min") (rMin K) := by subst h; exact cr_min hc
theorem cr_sortedK (K : PySem.W.Frag) (h : X.K = K := by rfl) : Xw X (.builtin "sorted") (rSorted K) := by subst h; exact cr_sorted
def rLen (K : PySem.W.Frag) : List V -> Hp -> VK -> Prop := fun xs H Q => ∃ p ys, xs = [.ref p] /\ (SqL K H p ys \/ SqT K H p ys) /\ Q (.int ys.length) H
theorem Yl (K : PySem.W.Frag) (h : X.K = K := by rfl) : Xw X (.builtin "len") (rLen K) := by subst h; exact call_len_seq
def rListOf (K : PySem.W.Frag) : List V -> Hp -> VK -> Prop := fun xs H Q => ∃ p ys, xs = [.ref p] /\ (SqL K H p ys \/ SqT K H p ys) /\ ∀ l, H l = none -> Q (.ref l) (upd H l (.lst ys))
theorem cr_listK (K : PySem.W.Frag) (h : X.K = K := by rfl) : Xw X (.type "list") (rListOf K) := by subst h; exact call_list_of
theorem Ye (K : PySem.W.Frag) {e : Expr} {f : Str} {pos : Pos} {ta : TE} (he : PE X e ta) (hb : attributeBase e f X.env (eval e X.env) = eval e X.env := by rfl) (h : X.K = K := by rfl) : PE X (.Attribute e f pos) (tFld K ta f) := by subst h; exact pe_fld he hb
theorem op_inK (K : PySem.W.Frag) (h : X.K = K := by rfl) : OpR X (compareOp .In) (rIn K false) := by subst h; exact op_in_seq
theorem op_notInK (K : PySem.W.Frag) (h : X.K = K := by rfl) : OpR X (compareOp .NotIn) (rIn K true) := by subst h; exact op_notIn_seq
theorem sl_listK (K : PySem.W.Frag) (h : X.K = K := by rfl) : SlR X (rSlL K) := by subst h; exact sl_list
theorem op_neDK (K : PySem.W.Frag) (hu : X.A.units + 64 < cLine) (h : X.K = K := by rfl) : OpR X (compareOp .NotEq) (rNeD K) := by subst h; exact op_neD hu
end
theorem Same.new {H : Hp} {p : Addr} {o : HO} (h : H p = none) : Same H (upd H p o) := fun b u e => by
 rw [Zl (Yb e h)]
 exact e
theorem Same.put {H H' : Hp} {p : Addr} {o : HO} (s : Same H H') (h : H p = none) : Same H (upd H' p o) := fun b u e => by
 rw [Zl (Yb e h)]
 exact s b u e
def LcOk (H1 : Hp) (D : Addr) (Good : Nat -> List V -> Hp -> Prop) (i : Nat) (H : Hp) : Prop := Same H1 H /\ ∃ acc, H D = some (.lst acc) /\ acc.length <= i /\ Good i acc H
section
variable {H1 H H4 : Hp} {D : Addr} {Good : Nat -> List V -> Hp -> Prop} {i : Nat} {acc : List V} {y : V}
theorem LcOk.push (hD : H1 D = none) (s1 : Same H1 H) (hd : H D = some (.lst acc)) (hl : acc.length <= i) (s : Same H H4) (hi : i < sizeLine) (hg : Good (i + 1) (acc ++ [y]) (upd H4 D (.lst (acc ++ [y])))) :
   ∃ acc, H4 D = some (.lst acc) /\ acc.length < sizeLine /\ LcOk H1 D Good (i + 1) (upd H4 D (.lst (acc ++ [y]))) :=
 ⟨acc, s _ _ hd, Nat.lt_of_le_of_lt hl hi, (s1.trans s).put hD, acc ++ [y], Zb, by rw [List.length_append]; exact Nat.succ_le_succ hl, hg⟩
theorem LcOk.skip (s1 : Same H1 H) (hd : H D = some (.lst acc)) (hl : acc.length <= i) (s : Same H H4) (hg : Good (i + 1) acc H4) : LcOk H1 D Good (i + 1) H4 :=
 ⟨s1.trans s, acc, s _ _ hd, Nat.le_succ_of_le hl, hg⟩
end
theorem lc_any {J : It} {n : Nat} {g : TG} {tt : TT} {te : TE} {vs : List Nat} {σ : St} {H1 : Hp} {D : Addr} {Qd : Hp -> Prop} (hD : H1 D = none) (Good : Nat -> List V -> Hp -> Prop)
   (h0 : Good 0 [] (upd H1 D (.lst []))) (hgo : ∀ i H, i < n -> Same H1 H -> J.go i H) (hst : ∀ H, Same H1 H -> J.stop n H)
   (hs : ∀ i H acc x H', i < n -> Same H1 H -> H D = some (.lst acc) -> acc.length <= i -> Good i acc H -> J.yld i H x H' -> g x (wipe σ vs) H' fun σ2 H2 => wipe σ2 vs = wipe σ vs /\ tt σ2 H2 fun b H3 =>
     if b = true then te σ2 H3 fun y H4 => ∃ acc, H4 D = some (.lst acc) /\ acc.length < sizeLine /\ LcOk H1 D Good (i + 1) (upd H4 D (.lst (acc ++ [y]))) else LcOk H1 D Good (i + 1) H3)
   (hd : ∀ H acc, Same H1 H -> H D = some (.lst acc) -> acc.length <= n -> Good n acc H -> Qd H) :
   ∃ W : Nat -> Nat -> Hp -> Prop, (∃ m, W 0 m (upd H1 D (.lst []))) /\ ∀ i m H, W i m H ->
     (J.stop i H /\ Qd H) \/ (J.go i H /\ ∃ Nx : Hp -> Prop, (∀ H', Nx H' -> ∃ m', m' < m /\ W (i + 1) m' H') /\ ∀ x H', J.yld i H x H' -> g x (wipe σ vs) H' fun σ2 H2 => wipe σ2 vs = wipe σ vs /\ tt σ2 H2 fun b H3 =>
       if b = true then te σ2 H3 fun y H4 => ∃ acc, H4 D = some (.lst acc) /\ acc.length < sizeLine /\ Nx (upd H4 D (.lst (acc ++ [y]))) else Nx H3) := by
 refine ⟨fun i m H => m = n - i /\ i <= n /\ LcOk H1 D Good i H, ⟨n, by simp, Nat.zero_le _, Same.new hD, [], Zb, Nat.le_refl _, h0⟩, ?_⟩
 rintro i m H ⟨rfl, hi, s1, acc, ha, hl, hg⟩
 by_cases q : i < n
 . exact .inr ⟨hgo i H q s1, LcOk H1 D Good (i + 1), fun H' z => ⟨n - (i + 1), by omega, rfl, q, z⟩, fun x H' y => hs i H acc x H' q s1 ha hl hg y⟩
 . have e : i = n := by omega
   subst e
   exact .inl ⟨hst H s1, hd H acc s1 ha hl hg⟩
theorem lcL {K : PySem.W.Frag} {a : Addr} {xs : List V} {g : TG} {tt : TT} {te : TE} {vs : List Nat} {σ : St} {H1 : Hp} {D : Addr} {Qd : Hp -> Prop} (hx : SqL K H1 a xs) (hD : H1 D = none) (Good : Nat -> List V -> Hp -> Prop)
   (h0 : Good 0 [] (upd H1 D (.lst [])))
   (hs : ∀ i H acc x, xs[i]? = some x -> Same H1 H -> H D = some (.lst acc) -> acc.length <= i -> Good i acc H -> g x (wipe σ vs) H fun σ2 H2 => wipe σ2 vs = wipe σ vs /\ tt σ2 H2 fun b H3 =>
     if b = true then te σ2 H3 fun y H4 => ∃ acc, H4 D = some (.lst acc) /\ acc.length < sizeLine /\ LcOk H1 D Good (i + 1) (upd H4 D (.lst (acc ++ [y]))) else LcOk H1 D Good (i + 1) H3)
   (hd : ∀ H acc, Same H1 H -> H D = some (.lst acc) -> acc.length <= xs.length -> Good xs.length acc H -> Qd H) :
   ∃ W : Nat -> Nat -> Hp -> Prop, (∃ m, W 0 m (upd H1 D (.lst []))) /\ ∀ i m H, W i m H ->
     ((Itl K a).stop i H /\ Qd H) \/ ((Itl K a).go i H /\ ∃ Nx : Hp -> Prop, (∀ H', Nx H' -> ∃ m', m' < m /\ W (i + 1) m' H') /\ ∀ x H', (Itl K a).yld i H x H' -> g x (wipe σ vs) H' fun σ2 H2 => wipe σ2 vs = wipe σ vs /\ tt σ2 H2 fun b H3 =>
       if b = true then te σ2 H3 fun y H4 => ∃ acc, H4 D = some (.lst acc) /\ acc.length < sizeLine /\ Nx (upd H4 D (.lst (acc ++ [y]))) else Nx H3) := by
 refine lc_any (J := Itl K a) (n := xs.length) hD Good h0 (fun i H hi s => ⟨xs, xs[i], s.seq hx, List.getElem?_eq_getElem hi⟩) (fun H s => ⟨xs, s.seq hx, Nat.le_refl _⟩) (fun i H acc x H' hi s ha hl hg y => ?_) hd
 obtain ⟨e, y⟩ := y
 subst e
 exact hs i _ acc x (y xs (s.seq hx)) s ha hl hg
theorem lcR {lo : Int} {n : Nat} {g : TG} {tt : TT} {te : TE} {vs : List Nat} {σ : St} {H1 : Hp} {D : Addr} {Qd : Hp -> Prop} (hD : H1 D = none) (Good : Nat -> List V -> Hp -> Prop)
   (h0 : Good 0 [] (upd H1 D (.lst [])))
   (hs : ∀ i H acc, i < n -> Same H1 H -> H D = some (.lst acc) -> acc.length <= i -> Good i acc H -> g (.int (lo + i)) (wipe σ vs) H fun σ2 H2 => wipe σ2 vs = wipe σ vs /\ tt σ2 H2 fun b H3 =>
     if b = true then te σ2 H3 fun y H4 => ∃ acc, H4 D = some (.lst acc) /\ acc.length < sizeLine /\ LcOk H1 D Good (i + 1) (upd H4 D (.lst (acc ++ [y]))) else LcOk H1 D Good (i + 1) H3)
   (hd : ∀ H acc, Same H1 H -> H D = some (.lst acc) -> acc.length <= n -> Good n acc H -> Qd H) :
   ∃ W : Nat -> Nat -> Hp -> Prop, (∃ m, W 0 m (upd H1 D (.lst []))) /\ ∀ i m H, W i m H ->
     ((Itr lo n).stop i H /\ Qd H) \/ ((Itr lo n).go i H /\ ∃ Nx : Hp -> Prop, (∀ H', Nx H' -> ∃ m', m' < m /\ W (i + 1) m' H') /\ ∀ x H', (Itr lo n).yld i H x H' -> g x (wipe σ vs) H' fun σ2 H2 => wipe σ2 vs = wipe σ vs /\ tt σ2 H2 fun b H3 =>
       if b = true then te σ2 H3 fun y H4 => ∃ acc, H4 D = some (.lst acc) /\ acc.length < sizeLine /\ Nx (upd H4 D (.lst (acc ++ [y]))) else Nx H3) := by
 refine lc_any (J := Itr lo n) (n := n) hD Good h0 (fun i H hi s => hi) (fun H s => Nat.le_refl _) (fun i H acc x H' hi s ha hl hg y => ?_) hd
 obtain ⟨e, y⟩ := y
 subst e
 subst y
 exact hs i _ acc hi s ha hl hg
theorem lcE {K : PySem.W.Frag} {a : Addr} {xs : List V} {g : TG} {tt : TT} {te : TE} {vs : List Nat} {σ : St} {H1 : Hp} {D : Addr} {Qd : Hp -> Prop} (hx : SqL K H1 a xs) (hD : H1 D = none) (Good : Nat -> List V -> Hp -> Prop)
   (h0 : Good 0 [] (upd H1 D (.lst [])))
   (hs : ∀ i H acc x T, xs[i]? = some x -> Same H1 H -> H D = some (.lst acc) -> acc.length <= i -> Good i acc H -> H T = none -> g (.ref T) (wipe σ vs) (upd H T (.tup [.int (i : Nat), x])) fun σ2 H2 => wipe σ2 vs = wipe σ vs /\ tt σ2 H2 fun b H3 =>
     if b = true then te σ2 H3 fun y H4 => ∃ acc, H4 D = some (.lst acc) /\ acc.length < sizeLine /\ LcOk H1 D Good (i + 1) (upd H4 D (.lst (acc ++ [y]))) else LcOk H1 D Good (i + 1) H3)
   (hd : ∀ H acc, Same H1 H -> H D = some (.lst acc) -> acc.length <= xs.length -> Good xs.length acc H -> Qd H) :
   ∃ W : Nat -> Nat -> Hp -> Prop, (∃ m, W 0 m (upd H1 D (.lst []))) /\ ∀ i m H, W i m H ->
     ((Ite K a).stop i H /\ Qd H) \/ ((Ite K a).go i H /\ ∃ Nx : Hp -> Prop, (∀ H', Nx H' -> ∃ m', m' < m /\ W (i + 1) m' H') /\ ∀ x H', (Ite K a).yld i H x H' -> g x (wipe σ vs) H' fun σ2 H2 => wipe σ2 vs = wipe σ vs /\ tt σ2 H2 fun b H3 =>
       if b = true then te σ2 H3 fun y H4 => ∃ acc, H4 D = some (.lst acc) /\ acc.length < sizeLine /\ Nx (upd H4 D (.lst (acc ++ [y]))) else Nx H3) := by
 refine lc_any (J := Ite K a) (n := xs.length) hD Good h0 (fun i H hi s => ⟨xs, xs[i], s.seq hx, List.getElem?_eq_getElem hi⟩) (fun H s => ⟨xs, s.seq hx, Nat.le_refl _⟩) (fun i H acc v H' hi s ha hl hg y => ?_) hd
 obtain ⟨T, x, e1, e2, e3, y⟩ := y
 subst e1
 subst e3
 exact hs i H acc x T (y xs (s.seq hx)) s ha hl hg e2
theorem lcZ {K : PySem.W.Frag} {a b : Addr} {xs ys : List V} {g : TG} {tt : TT} {te : TE} {vs : List Nat} {σ : St} {H1 : Hp} {D : Addr} {Qd : Hp -> Prop} (hx : SqL K H1 a xs) (hy : SqL K H1 b ys) (hxy : xs.length = ys.length) (hD : H1 D = none)
   (Good : Nat -> List V -> Hp -> Prop) (h0 : Good 0 [] (upd H1 D (.lst [])))
   (hs : ∀ i H acc x y T, xs[i]? = some x -> ys[i]? = some y -> Same H1 H -> H D = some (.lst acc) -> acc.length <= i -> Good i acc H -> H T = none -> g (.ref T) (wipe σ vs) (upd H T (.tup [x, y])) fun σ2 H2 => wipe σ2 vs = wipe σ vs /\ tt σ2 H2 fun b H3 =>
     if b = true then te σ2 H3 fun y H4 => ∃ acc, H4 D = some (.lst acc) /\ acc.length < sizeLine /\ LcOk H1 D Good (i + 1) (upd H4 D (.lst (acc ++ [y]))) else LcOk H1 D Good (i + 1) H3)
   (hd : ∀ H acc, Same H1 H -> H D = some (.lst acc) -> acc.length <= xs.length -> Good xs.length acc H -> Qd H) :
   ∃ W : Nat -> Nat -> Hp -> Prop, (∃ m, W 0 m (upd H1 D (.lst []))) /\ ∀ i m H, W i m H ->
     ((Itz K a b).stop i H /\ Qd H) \/ ((Itz K a b).go i H /\ ∃ Nx : Hp -> Prop, (∀ H', Nx H' -> ∃ m', m' < m /\ W (i + 1) m' H') /\ ∀ x H', (Itz K a b).yld i H x H' -> g x (wipe σ vs) H' fun σ2 H2 => wipe σ2 vs = wipe σ vs /\ tt σ2 H2 fun b H3 =>
       if b = true then te σ2 H3 fun y H4 => ∃ acc, H4 D = some (.lst acc) /\ acc.length < sizeLine /\ Nx (upd H4 D (.lst (acc ++ [y]))) else Nx H3) := by
 refine lc_any (J := Itz K a b) (n := xs.length) hD Good h0 (fun i H hi s => ⟨xs, ys, xs[i], ys[i]'(hxy ▸ hi), s.seq hx, s.seq hy, List.getElem?_eq_getElem hi, List.getElem?_eq_getElem (hxy ▸ hi)⟩) (fun H s => ⟨xs, ys, s.seq hx, s.seq hy, .inl (Nat.le_refl _)⟩)
   (fun i H acc v H' hi s ha hl hg z => ?_) hd
 obtain ⟨T, x, y, e1, e2, e3, z1, z2⟩ := z
 subst e1
 subst e3
 exact hs i H acc x y T (z1 xs (s.seq hx)) (z2 ys (s.seq hy)) s ha hl hg e2
theorem for_rev {K : PySem.W.Frag} {a : Addr} {xs : List V} {g : TG} {tb : TS} {D : Ends} {σ : St} {H : Hp} (Pv : Nat -> St -> Hp -> Prop) (h0 : Pv 0 σ H) (hl : ∀ i σ H, i <= xs.length -> Pv i σ H -> SqL K H a xs)
   (hs : ∀ i x σ H, xs[xs.length - 1 - i]? = some x -> i < xs.length -> Pv i σ H -> g x σ H fun σ2 H2 => tb { D with nx := Pv (i + 1), ct := Pv (i + 1), bk := D.nx } σ2 H2) (hd : ∀ σ H, Pv xs.length σ H -> D.nx σ H) :
   ∃ W : Nat -> Nat -> St -> Hp -> Prop, (∃ m, W 0 m σ H) /\ ∀ i m σ H, W i m σ H ->
     ((Itv K a xs.length).stop i H /\ D.nx σ H) \/ ((Itv K a xs.length).go i H /\ ∃ N : St -> Hp -> Prop, (∀ σ' H', N σ' H' -> ∃ m', m' < m /\ W (i + 1) m' σ' H') /\ ∀ x H', (Itv K a xs.length).yld i H x H' -> g x σ H' fun σ2 H2 => tb { D with nx := N, ct := N, bk := D.nx } σ2 H2) := by
 refine ⟨fun i m σ H => m = xs.length - i /\ i <= xs.length /\ Pv i σ H, ⟨xs.length, by simp, Nat.zero_le _, h0⟩, ?_⟩
 rintro i m σ H ⟨rfl, hi, p⟩
 have q := hl i σ H hi p
 by_cases hlt : i < xs.length
 . have hj : xs.length - 1 - i < xs.length := by omega
   refine .inr ⟨⟨hlt, xs, xs[xs.length - 1 - i], q, List.getElem?_eq_getElem hj⟩, Pv (i + 1), fun σ' H' p' => ⟨xs.length - (i + 1), by omega, rfl, hlt, p'⟩, fun x H' y => ?_⟩
   obtain ⟨e, y⟩ := y
   subst e
   exact hs i x σ _ (y xs q) hlt p
 . have e : i = xs.length := by omega
   subst e
   exact .inl ⟨Nat.le_refl _, hd σ H p⟩
theorem RgC.two {n : Nat} (h : n < 1000000) : RgC 0 (n : Int) 2 ((n + 1) / 2) := by
 have e : Builtin.Range.rangeSize 0 (n : Int) 2 = (((n + 1) / 2 : Nat) : Int) := by
   unfold Builtin.Range.rangeSize
   rw [if_pos (by decide)]
   split <;> omega
 refine ⟨by decide, by decide, ?_, e⟩
 have fits : ∀ i : Int, 0 <= i -> i < 10000000 -> Builtin.Range.rangeFitsLong i = true := fun i h1 h2 => by
   unfold Builtin.Range.rangeFitsLong
   rw [decide_eq_true (show -(2 ^ 63 : Int) <= i by omega), decide_eq_true (show i < (2 ^ 63 : Int) by omega)]; rfl
 unfold Builtin.Range.small
 rw [e, fits 0 (by omega) (by omega), fits n (by omega) (by omega), fits 2 (by omega) (by omega), fits _ (by omega) (by omega), if_pos (by decide), fits _ (by omega) (by omega)]
 simp
theorem Room.m {j k : Nat} {A : Around} (r : Room k A) (h : j <= k := by decide) : Room j A := r.mono h
theorem FnScope.k {N P : List Str} {sc : Scope} (a : sc.kind = .function := by rfl) (b : sc.isCoroutine = false := by rfl) (c : sc.isGenerator = false := by rfl) (d : N.Nodup := by decide +kernel) (e : N.take P.length = P := by rfl)
   (f : ∀ x ∈ P, sc.names.lookup x = some .local \/ sc.names.lookup x = some .cell := by decide +kernel) (g : ∀ y ∈ sc.names, y.2 ≠ .free := by decide +kernel) : FnScope N P sc := ⟨a, b, c, d, e, f, g⟩
section
variable {X : Cx} {e1 e2 e3 e4 : Expr} {t1 t2 t3 t4 : TE}
theorem pa1 (a1 : PE X e1 t1) (h1 : starEach [e1] X.env = (false, eval e1 X.env) :: starEach [] X.env := by rfl) : PA X [e1] (tCons t1 tNil) := (Vm a1 Vc h1)
theorem pa2 (a1 : PE X e1 t1) (a2 : PE X e2 t2) (h1 : starEach [e1, e2] X.env = (false, eval e1 X.env) :: starEach [e2] X.env := by rfl) (h2 : starEach [e2] X.env = (false, eval e2 X.env) :: starEach [] X.env := by rfl) : PA X [e1, e2] (tCons t1 (tCons t2 tNil)) := (Vm a1 (Vm a2 Vc h2) h1)
theorem pa3 (a1 : PE X e1 t1) (a2 : PE X e2 t2) (a3 : PE X e3 t3) (h1 : starEach [e1, e2, e3] X.env = (false, eval e1 X.env) :: starEach [e2, e3] X.env := by rfl) (h2 : starEach [e2, e3] X.env = (false, eval e2 X.env) :: starEach [e3] X.env := by rfl) (h3 : starEach [e3] X.env = (false, eval e3 X.env) :: starEach [] X.env := by rfl) : PA X [e1, e2, e3] (tCons t1 (tCons t2 (tCons t3 tNil))) := (Vm a1 (Vm a2 (Vm a3 Vc h3) h2) h1)
theorem pa4 (a1 : PE X e1 t1) (a2 : PE X e2 t2) (a3 : PE X e3 t3) (a4 : PE X e4 t4) (h1 : starEach [e1, e2, e3, e4] X.env = (false, eval e1 X.env) :: starEach [e2, e3, e4] X.env := by rfl) (h2 : starEach [e2, e3, e4] X.env = (false, eval e2 X.env) :: starEach [e3, e4] X.env := by rfl) (h3 : starEach [e3, e4] X.env = (false, eval e3 X.env) :: starEach [e4] X.env := by rfl) (h4 : starEach [e4] X.env = (false, eval e4 X.env) :: starEach [] X.env := by rfl) : PA X [e1, e2, e3, e4] (tCons t1 (tCons t2 (tCons t3 (tCons t4 tNil)))) := (Vm a1 (Vm a2 (Vm a3 (Vm a4 Vc h4) h3) h2) h1)
end
theorem le1 : 1 <= sizeLine := by decide
theorem le2 : 2 <= sizeLine := by decide
theorem le3 : 3 <= sizeLine := by decide
section
variable {X : Cx}
theorem bootSet : bootBuiltins "set" = some (.type "set") := by decide +kernel
def SetO (w : World) (a : Addr) (ns : List Int) : HO := .ext fun h => SetAt w h a ns
theorem setO_ok {P : Program} {w : World} {H : Hp} {h : Heap} {a : Addr} {ns : List Int} (S : SetAt w h a ns) : ObjOk P w H h a (SetO w a ns) := by
 obtain ⟨_, _, es, ep, t, ks, ho, _⟩ := id S
 exact ⟨S, ⟨_, ho⟩, fun h1 h2 s k => s.keep k⟩
theorem setO_at {P : Program} {w : World} {H : Hp} {h : Heap} {a : Addr} {ns : List Int} (ok : HOk P w H h) (e : H a = some (SetO w a ns)) : SetAt w h a ns := (show ObjOk P w H h a (SetO w a ns) from ok a _ e).1
theorem Inv.drew {pins : List (Addr × Obj)} {σ : St} {H : Hp} {s : Shared} (I : Inv X pins σ H s) (d : Drawn) : Inv X pins σ H { s with drawn := d } := ⟨I.ok, I.os, I.bare, I.base, I.loc, I.cell, I.free, I.freeC, I.pin, I.hok, I.len⟩
def rSet (w : World) (K : PySem.W.Frag) : List V -> Hp -> VK -> Prop := fun vs H Q => ∃ (a : Addr) (ns : List Int), vs = [V.ref a] /\ SqL K H a (ns.map V.int) /\ ns.length < 64 /\ ∀ p, H p = none -> Q (.ref p) (upd H p (SetO w p (met ns)))
theorem cr_set (hc : X.calm = true) : Xw X (.type "set") (rSet X.w X.K) := by
 intro pins s σ H vs us Q I r h
 obtain ⟨a, ns, rfl, hs, h64, q⟩ := h
 obtain ⟨its, rv, hl, _⟩ := I.list hs
 rw [Vals.ref1 r]
 have hi := rv.ints
 refine set_of_list (P := X.prog) (w := X.w) (I.ok.hd hc) hl.isList (by simpa using hi) (by have := hi.length; rw [List.size_toArray]; unfold scanBound; omega) fun h' tk hS k => ?_
 exact ⟨.ref _, upd H s.heap.objs.size (SetO X.w s.heap.objs.size (met ns)), I.laid k (Nat.le_refl _) (setO_ok hS), rfl, q _ (I.hok.fresh (Nat.le_refl _))⟩
def rSortedO (w : World) : List V -> Hp -> VK -> Prop := fun vs H Q => ∃ (a : Addr) (ns : List Int), vs = [V.ref a] /\ H a = some (SetO w a ns) /\ ns.length < 64 /\
 ∀ (ns' : List Int) (p : Addr), ns'.Perm ns -> ns'.Pairwise (· <= ·) -> H p = none -> Q (.ref p) (upd H p (.lst (ns'.map V.int)))
theorem cr_sortedO (hc : X.calm = true) : Xw X (.builtin "sorted") (rSortedO X.w) := by
 intro pins s σ H vs us Q I r h
 obtain ⟨a, ns, rfl, hs, h64, q⟩ := h
 rw [Vals.ref1 r]
 refine sorted_set (P := X.prog) (w := X.w) (I.ok.hd hc) (setO_at I.hok hs) h64 fun out ns' h' d tk p n a1 a2 a3 k hp he => ?_
 have hlen : (ns'.map V.int).length <= sizeLine := by rw [List.length_map, a2.length_eq]; exact small64 h64
 have I2 : Inv X pins σ (upd H p (.lst (ns'.map V.int))) { s with heap := h', toks := tk } := I.laid k hp ⟨hlen, out.toList, n, vals_of_ints a1, he⟩
 exact ⟨.ref p, upd H p (.lst (ns'.map V.int)), I2.drew d, rfl, q ns' p a2 a3 (I.hok.fresh hp)⟩
def rLenO (w : World) : List V -> Hp -> VK -> Prop := fun vs H Q => ∃ (a : Addr) (ns : List Int), vs = [V.ref a] /\ H a = some (SetO w a ns) /\ Q (.int (ns.length : Nat)) H
theorem cr_lenO : Xw X (.builtin "len") (rLenO X.w) := by
 intro pins s σ H vs us Q I r h
 obtain ⟨a, ns, rfl, hs, q⟩ := h
 rw [Vals.ref1 r]
 obtain ⟨_, hl, es, ep, t, ks, ho, ok, pe, pm⟩ := setO_at I.hok hs
 have hsz : es.size = ns.length := by rw [<- Array.length_toList, pairE_len pe, pm.length_eq]
 refine call_len_set ho ⟨rfl, rfl, rfl⟩ rfl ok.fits (by unfold scanBound at hl; omega) ⟨.int (ns.length : Nat), H, I.tok _, ⟨_, by rw [hsz]⟩, q⟩
theorem cr_setW (w : World) (K : PySem.W.Frag) (hc : X.calm = true) (hw : X.w = w := by rfl) (hK : X.K = K := by rfl) : Xw X (.type "set") (rSet w K) := by subst hw hK; exact cr_set hc
theorem cr_sortedW (w : World) (hc : X.calm = true) (hw : X.w = w := by rfl) : Xw X (.builtin "sorted") (rSortedO w) := by subst hw; exact cr_sortedO hc
theorem cr_lenW (w : World) (hw : X.w = w := by rfl) : Xw X (.builtin "len") (rLenO w) := by subst hw; exact cr_lenO
def rIndexD (K : PySem.W.Frag) : V -> List V -> Hp -> VK -> Prop := fun x xs H Q => ∃ (a : Addr) (ys : List V) (ds : List PyData) (y : V) (dy : PyData) (j : Nat) (dj : PyData), x = V.ref a /\ xs = [y] /\ SqL K H a ys /\ DpAll K H ys ds /\ Dp K H y dy /\ (∀ d ∈ ds, SeqAt.shaped d = true) /\ SeqAt.shaped dy = true /\
 ds[j]? = some dj /\ PyData.eqv dj dy = true /\ (∀ (m : Nat) (d : PyData), m < j -> ds[m]? = some d -> PyData.eqv d dy = false) /\ Q (.int (j : Nat)) H
theorem readsAll_at {h : Heap} : ∀ {us : List Value} {ds : List PyData} {as : List Addr}, ReadsAll h us ds as -> us.length = ds.length /\ ∀ (j : Nat) (u : Value), us[j]? = some u -> ∃ d bs, ds[j]? = some d /\ Reads h u d bs := by
 intro us
 induction us with
 | nil => intro ds as r; cases r; exact ⟨rfl, fun j u hu => by simp at hu⟩
 | cons u us ih =>
   intro ds as r
   cases r with
   | cons r1 r2 =>
     obtain ⟨l, g⟩ := ih r2
     refine ⟨by rw [List.length_cons, List.length_cons, l], fun j v hv => ?_⟩
     cases j with
     | zero =>
       have e : u = v := by simpa using hv
       subst e; exact ⟨_, _, rfl, r1⟩
     | succ j => exact g j v (by simpa using hv)
theorem mt_indexD (hu : X.A.units + 65 < cLine) : MtR X "list.index" (rIndexD X.K) := by
 intro pins s σ H x xs v us Q I rx rxs h
 obtain ⟨a, ys, ds, y, dy, j, dj, rfl, rfl, hs, hds, hdy, sds, sdy, hj, hej, hno, q⟩ := h
 cases rx
 cases rxs with
 | cons ry rt =>
   rename_i uy ut
   cases rt
   obtain ⟨its, rv, ⟨⟨cls, dd, data, sl⟩, n, ho, hc, hdn, hd⟩, hlen⟩ := I.list hs
   simp only at hc hd
   subst hc hd
   obtain ⟨as, r1⟩ := Dp.readsAll I ds ys its hds rv
   obtain ⟨bs, r2⟩ := Dp.reads I dy y uy hdy ry
   obtain ⟨hl1, at1⟩ := readsAll_at r1
   have hlen2 := rv.length
   have val : ∀ (m : Nat) (u : Value), its[m]? = some u -> ∃ d, ds[m]? = some d /\ PyData.eqv (SeqAt.readOf s.heap u) dy = PyData.eqv d dy /\ SeqAt.EqAt X.A.in1 s u uy (PyData.eqv (SeqAt.readOf s.heap u) dy) := fun m u hm => by
     obtain ⟨d, cs, hd, rd⟩ := at1 m u hm
     have hsd := sds d (List.mem_of_getElem? hd)
     have e := SeqAt.readOf_eq (SeqAt.canLay_of_shaped hsd) rd
     refine ⟨d, hd, by rw [e], ?_⟩
     rw [e]
     exact SeqAt.eqAt_reads d dy _ s u uy cs bs rd r2 (SeqAt.canLay_of_shaped hsd) (SeqAt.canLay_of_shaped sdy) (SeqAt.room_of_shaped hsd (by show X.A.units + 1 + 64 < cLine; omega))
   have hjl : j < its.length := by have := (List.getElem?_eq_some_iff.mp hj).1; omega
   refine call_meets PySem.F.slot_list_index ⟨_, ho, rfl⟩ PySem.F.entry_list_index (PySem.F.args_list_index_2 _ _)
     (SeqAt.list_indexAt a its.toArray n dd sl uy (fun u => PyData.eqv (SeqAt.readOf s.heap u) dy) j (by simpa using hjl) (by rw [sizeLine_eq] at hlen; omega) ?_ ?_) ⟨ho, fun u' hu' => ?_, ?_⟩
   . obtain ⟨d, hd, e, _⟩ := val j its[j] (List.getElem?_eq_getElem hjl)
     rw [hj] at hd
     cases hd
     show PyData.eqv (SeqAt.readOf s.heap its.toArray[j]) dy = true
     have e3 : its.toArray[j] = its[j] := by simp
     rw [e3, e]; exact hej
   . intro m hm hmj
     have hml : m < its.length := by simpa using hm
     obtain ⟨d, hd, e, _⟩ := val m its[m] (List.getElem?_eq_getElem hml)
     show PyData.eqv (SeqAt.readOf s.heap its.toArray[m]) dy = false
     have e3 : its.toArray[m] = its[m] := by simp
     rw [e3, e]; exact hno m d hmj hd
   . obtain ⟨m, hm⟩ := List.mem_iff_getElem?.mp (show u' ∈ its by simpa using hu')
     exact (val m u' hm).choose_spec.2.2
   . exact ⟨.int (j : Nat), H, I.tok _, ⟨_, rfl⟩, q⟩
theorem mt_indexK (K : PySem.W.Frag) (h : X.K = K := by rfl) : MtR X "list.index" (rIndex K) := by subst h; exact mt_index
theorem mt_indexDK (K : PySem.W.Frag) (hu : X.A.units + 65 < cLine) (h : X.K = K := by rfl) : MtR X "list.index" (rIndexD K) := by subst h; exact mt_indexD hu
def rIndexE (K : PySem.W.Frag) : V -> List V -> Hp -> VK -> Prop := fun x xs H Q => rIndex K x xs H Q \/ rIndexD K x xs H Q
theorem mt_indexE (K : PySem.W.Frag) (hu : X.A.units + 65 < cLine) (h : X.K = K := by rfl) : MtR X "list.index" (rIndexE K) := MtR.or (mt_indexK K h) (mt_indexDK K hu h)
theorem pe_bmK (K : PySem.W.Frag) {o e : Expr} {es : List Expr} {to : TE} {t : TA} {name : Str} {apos cpos : Pos} {T id : String} {r : V -> List V -> Hp -> VK -> Prop} (pa : PlainAttrs T) (slot : Slot T name id) (hty : typeOf (.builtin id) = pure (.type "method_descriptor")) (hm : MtR X id r) (ho : PE X o to) (ha : PA X (e :: es) t) (hK : X.K = K := by rfl)
   (hbase : attributeBase o name X.env (eval o X.env) = eval o X.env := by rfl)
   (hfew : ((backTo cpos (starEach (e :: es) X.env)).all (fun x => !x.1) && (backToKw cpos (keywordEach [] X.env)).all (fun x => x.1.isSome)
     && decide ((e :: es).length + ([] : List Keyword).length + (if ([] : List Keyword).isEmpty then 0 else 1) < 30)) = true := by rfl)
   (hline : (apos.endLine == cpos.line) = true := by rfl) (hs : starEach (e :: es) X.env = (false, eval e X.env) :: starEach es X.env := by rfl) (hplain : (backTo cpos (starEach es X.env)).any (·.1) = false := by rfl) :
   PE X (.Call (.Attribute o name apos) (e :: es) [] cpos) (tBM K T r to t) := by subst hK; exact Uw pa slot hty hm ho ha hbase hfew hline hs hplain
end
theorem sw_cell {elt : Expr} {gs : List Comprehension} {scope : Scope} {pos py : Pos} {y : Str} {l : Nat} {env : Env} (hy : env.scope.names.lookup y = some .cell) : swapsWith (.ListComp elt gs scope pos) (some (.Name y py)) l env = pure false := by
 have ky : env.kindOf y = some .cell := hy
 unfold swapsWith
 simp only [ky]
 have e : ((some NameKind.cell : Option NameKind) == some NameKind.local) = false := by decide
 simp [e]
theorem Room.u65 {k : Nat} {A : Around} (r : Room k A) : A.units + 65 < cLine := by have := r.un; omega
theorem Room.u1 {k : Nat} {A : Around} (r : Room k A) : A.units + 1 < cLine := by have := r.un; omega
theorem for_enum {K : PySem.W.Frag} {a : Addr} {xs : List V} {g : TG} {tb : TS} {D : Ends} {σ : St} {H : Hp} (Pv : Nat -> St -> Hp -> Prop) (h0 : Pv 0 σ H) (hl : ∀ i σ H, i <= xs.length -> Pv i σ H -> SqL K H a xs)
   (hs : ∀ i x T σ H, xs[i]? = some x -> Pv i σ H -> H T = none -> g (.ref T) σ (upd H T (.tup [.int (i : Nat), x])) fun σ2 H2 => tb { D with nx := Pv (i + 1), ct := Pv (i + 1), bk := D.nx } σ2 H2) (hd : ∀ σ H, Pv xs.length σ H -> D.nx σ H) :
   ∃ W : Nat -> Nat -> St -> Hp -> Prop, (∃ m, W 0 m σ H) /\ ∀ i m σ H, W i m σ H ->
     ((Ite K a).stop i H /\ D.nx σ H) \/ ((Ite K a).go i H /\ ∃ N : St -> Hp -> Prop, (∀ σ' H', N σ' H' -> ∃ m', m' < m /\ W (i + 1) m' σ' H') /\ ∀ x H', (Ite K a).yld i H x H' -> g x σ H' fun σ2 H2 => tb { D with nx := N, ct := N, bk := D.nx } σ2 H2) := by
 refine ⟨fun i m σ H => m = xs.length - i /\ i <= xs.length /\ Pv i σ H, ⟨xs.length, by simp, Nat.zero_le _, h0⟩, ?_⟩
 rintro i m σ H ⟨rfl, hi, p⟩
 have q := hl i σ H hi p
 by_cases hlt : i < xs.length
 . refine .inr ⟨⟨xs, xs[i], q, by simp [hlt]⟩, Pv (i + 1), fun σ' H' p' => ⟨xs.length - (i + 1), by omega, rfl, hlt, p'⟩, fun x H' y => ?_⟩
   obtain ⟨T, v, e1, e2, e3, y⟩ := y
   subst e1; subst e3
   exact hs i v T σ H (y xs q) p e2
 . have e : i = xs.length := by omega
   subst e
   exact .inl ⟨⟨xs, q, Nat.le_refl _⟩, hd σ H p⟩
end L2
end
section
set_option Elab.async false
set_option linter.all false
set_option maxRecDepth 100000
set_option maxHeartbeats 2000000
namespace WM
open Ways
theorem Ze (g : Graph) (f : Nat -> Bool) : (g.setBy f).length = g.size := by simp [Graph.setBy, Graph.all]
theorem Zu {g : Graph} {f : Nat -> Bool} {s : Nat} (h : s < g.size) : has (g.setBy f) s = f s := by
 have hl : s < (g.setBy f).length := by rw [Ze]; exact h
 unfold has
 rw [List.getD_eq_getElem?_getD, List.getElem?_eq_getElem hl]
 simp [Graph.setBy, Graph.all]
theorem has_out {a : Set} {s : Nat} (h : a.length <= s) : has a s = false := by
 unfold has
 rw [List.getD_eq_getElem?_getD, List.getElem?_eq_none h]; rfl
theorem has_lt {a : Set} {s : Nat} (h : has a s = true) : s < a.length := by
 by_cases q : s < a.length
 . exact q
 . rw [has_out (by omega)] at h; cases h
theorem Qp {a : Set} {s : Nat} {b : Bool} (h : a[s]? = some b) : has a s = b := by
 unfold has; rw [List.getD_eq_getElem?_getD, h]; rfl
theorem Yz {a : Set} {s : Nat} (h : s < a.length) : a[s]? = some (has a s) := by
 unfold has; rw [List.getD_eq_getElem?_getD, List.getElem?_eq_getElem h]; rfl
theorem set_ext {a b : Set} {n : Nat} (ha : a.length = n) (hb : b.length = n) (h : ∀ s, s < n -> has a s = has b s) : a = b := by
 apply List.ext_getElem?
 intro s
 by_cases q : s < n
 . rw [Yz (by omega), Yz (by omega), h s q]
 . rw [List.getElem?_eq_none (by omega), List.getElem?_eq_none (by omega)]
theorem Qg {g : Graph} {f h : Nat -> Bool} (e : ∀ s, s < g.size -> f s = h s) : g.setBy f = g.setBy h :=
 set_ext (Ze _ _) (Ze _ _) fun s hs => by rw [Zu hs, Zu hs, e s hs]
structure WF (g : Graph) : Prop where
 pos : 0 < g.size
 le : g.size <= 12
 len : g.next.length = g.size
 marks : ∀ x ∈ g.marks, x < 256
 lt : ∀ l ∈ g.next, ∀ t ∈ l, t < g.size
 srt : ∀ l ∈ g.next, l.Pairwise (· < ·)
theorem WF.next_mem {g : Graph} (w : WF g) {s : Nat} (h : s < g.size) : g.next.getD s [] ∈ g.next := by
 have hl : s < g.next.length := by rw [w.len]; exact h
 rw [List.getD_eq_getElem?_getD, List.getElem?_eq_getElem hl]
 exact List.getElem_mem hl
theorem on_eq (g : Graph) (s : Nat) : g.on s = if g.next.getD s [] = [] then [s] else g.next.getD s [] := by
 unfold Graph.on
 split
 . rename_i e; rw [if_pos e]
 . rename_i e; rw [if_neg e]
theorem WF.on_lt {g : Graph} (w : WF g) {s : Nat} (h : s < g.size) : ∀ t ∈ g.on s, t < g.size := by
 intro t ht
 rw [on_eq] at ht
 split at ht
 . have e : t = s := by simpa using ht
   omega
 . exact w.lt _ (w.next_mem h) t ht
theorem WF.on_srt {g : Graph} (w : WF g) {s : Nat} (h : s < g.size) : (g.on s).Pairwise (· < ·) := by
 rw [on_eq]
 split
 . exact List.pairwise_singleton _ _
 . exact w.srt _ (w.next_mem h)
theorem on_ne (g : Graph) (s : Nat) : g.on s ≠ [] := by
 rw [on_eq]
 split
 . simp
 . assumption
def cnt (a : Set) : Nat := (a.filter id).length
theorem cnt_le (a : Set) : cnt a <= a.length := List.length_filter_le _ _
def Le (a b : Set) : Prop := ∀ s, has a s = true -> has b s = true
theorem cnt_mono : ∀ {a b : Set}, a.length = b.length -> Le a b -> cnt a <= cnt b
 | [], [], _, _ => Nat.le_refl _
 | x :: a, y :: b, hl, h => by
   have h' : Le a b := fun s q => h (s + 1) q
   have ih := cnt_mono (by simpa using hl) h'
   have h0 := h 0
   unfold cnt at ih ⊢
   cases x <;> cases y <;> simp_all [has] <;> omega
theorem cnt_lt : ∀ {a b : Set}, a.length = b.length -> Le a b -> a ≠ b -> cnt a < cnt b
 | [], [], _, _, e => absurd rfl e
 | x :: a, y :: b, hl, h, e => by
   have h' : Le a b := fun s q => h (s + 1) q
   have hl' : a.length = b.length := by simpa using hl
   have m := cnt_mono hl' h'
   have h0 := h 0
   by_cases q : a = b
   . subst q
     have exy : x ≠ y := fun z => e (by rw [z])
     unfold cnt
     cases x <;> cases y <;> simp_all [has]
   . have ih := cnt_lt hl' h' q
     unfold cnt at ih ⊢
     cases x <;> cases y <;> simp_all [has] <;> omega
def iter (F : Set -> Set) (a : Set) : Nat -> Set
 | 0 => a
 | n + 1 => F (iter F a n)
theorem iter_stay {F : Set -> Set} {a : Set} {k : Nat} (h : F (iter F a k) = iter F a k) : ∀ m, iter F a (k + m) = iter F a k
 | 0 => rfl
 | m + 1 => by
   show F (iter F a (k + m)) = _
   rw [iter_stay h m, h]
structure Grows (n : Nat) (F : Set -> Set) (a : Set) : Prop where
 len : ∀ k, (iter F a k).length = n
 le : ∀ k, Le (iter F a k) (iter F a (k + 1))
theorem Grows.count {n : Nat} {F : Set -> Set} {a : Set} (g : Grows n F a) : ∀ k, (∀ j, j < k -> F (iter F a j) ≠ iter F a j) -> k <= cnt (iter F a k)
 | 0, _ => Nat.zero_le _
 | k + 1, h => by
   have ih := g.count k fun j hj => h j (by omega)
   have := cnt_lt (by rw [g.len, g.len]) (g.le k) fun z => h k (by omega) z.symm
   omega
theorem Grows.rest {n : Nat} {F : Set -> Set} {a : Set} (g : Grows n F a) : F (iter F a n) = iter F a n := by
 by_cases q : ∃ j, j <= n /\ F (iter F a j) = iter F a j
 . obtain ⟨j, hj, e⟩ := q
   have e1 := iter_stay e (n - j)
   have e2 : j + (n - j) = n := by omega
   rw [e2] at e1
   rw [e1, e]
 . have := g.count (n + 1) fun j hj z => q ⟨j, by omega, z⟩
   have h2 := cnt_le (iter F a (n + 1))
   rw [g.len] at h2
   omega
theorem Grows.fin {n : Nat} {F : Set -> Set} {a : Set} (g : Grows n F a) {k : Nat} (h : F (iter F a k) = iter F a k) : iter F a k = iter F a n := by
 rcases Nat.le_total k n with q | q
 . have e1 := iter_stay h (n - k)
   have e2 : k + (n - k) = n := by omega
   rw [e2] at e1
   exact e1.symm
 . have e1 := iter_stay g.rest (k - n)
   have e2 : n + (k - n) = k := by omega
   rw [e2] at e1
   exact e1
def Vq (g : Graph) (a c : Set) : Set := g.setBy fun s => has c s || (has a s && g.someNext c s)
def Vy (g : Graph) (a c : Set) : Set := g.setBy fun s => has c s || (has a s && (g.on s).all (has c))
theorem gain_iter (g : Graph) (a b : Set) : ∀ n, g.gain a b n = iter (Vq g a) b n
 | 0 => rfl
 | n + 1 => by
   show Vq g a (g.gain a b n) = Vq g a _
   rw [gain_iter g a b n]
theorem Ve (g : Graph) (a b : Set) : ∀ n, g.gainAll a b n = iter (Vy g a) b n
 | 0 => rfl
 | n + 1 => by
   show Vy g a (g.gainAll a b n) = Vy g a _
   rw [Ve g a b n]
theorem takeSome_le {g : Graph} {a c : Set} {s : Nat} (hs : s < g.size) (h : has c s = true) : has (Vq g a c) s = true := by
 unfold Vq
 rw [Zu hs, h]; rfl
theorem takeAll_le {g : Graph} {a c : Set} {s : Nat} (hs : s < g.size) (h : has c s = true) : has (Vy g a c) s = true := by
 unfold Vy
 rw [Zu hs, h]; rfl
theorem grows_some {g : Graph} {a b : Set} (hb : b.length = g.size) : Grows g.size (Vq g a) b := by
 have len : ∀ k, (iter (Vq g a) b k).length = g.size := fun k => by
   cases k with
   | zero => exact hb
   | succ k => exact Ze _ _
 refine ⟨len, fun k s h => ?_⟩
 have hs := has_lt h
 rw [len] at hs
 exact takeSome_le hs h
theorem grows_all {g : Graph} {a b : Set} (hb : b.length = g.size) : Grows g.size (Vy g a) b := by
 have len : ∀ k, (iter (Vy g a) b k).length = g.size := fun k => by
   cases k with
   | zero => exact hb
   | succ k => exact Ze _ _
 refine ⟨len, fun k s h => ?_⟩
 have hs := has_lt h
 rw [len] at hs
 exact takeAll_le hs h
theorem Vt {g : Graph} {a b : Set} (hb : b.length = g.size) (n : Nat) : (g.gain a b n).length = g.size := by
 rw [gain_iter]; exact (grows_some hb).len n
theorem Xd {g : Graph} {a b : Set} (hb : b.length = g.size) (n : Nat) : (g.gainAll a b n).length = g.size := by
 rw [Ve]; exact (grows_all hb).len n
theorem Qn {g : Graph} {a : Set} (ha : a.length = g.size) (n : Nat) : (g.keep a n).length = g.size := by
 cases n with
 | zero => exact ha
 | succ n => exact Ze _ _
theorem keep_dual {g : Graph} (w : WF g) {a : Set} (ha : a.length = g.size) : ∀ n, g.setBy (fun s => !has (g.gainAll (g.setBy fun _ => true) (g.setBy fun s => !has a s) n) s) = g.keep a n
 | 0 => by
   refine set_ext (Ze _ _) ha fun s hs => ?_
   show has (g.setBy _) s = has a s
   rw [Zu hs]
   show (!has (g.setBy _) s) = _
   rw [Zu hs, Bool.not_not]
 | n + 1 => by
   have ih := keep_dual w ha n
   refine set_ext (Ze _ _) (Ze _ _) fun s hs => ?_
   have key : ∀ t, t < g.size -> has (g.gainAll (g.setBy fun _ => true) (g.setBy fun s => !has a s) n) t = !has (g.keep a n) t := fun t ht => by
     rw [<- ih, Zu ht, Bool.not_not]
   have onK : ∀ l : List Nat, (∀ t ∈ l, t < g.size) -> l.all (has (g.gainAll (g.setBy fun _ => true) (g.setBy fun s => !has a s) n)) = !l.any (has (g.keep a n)) := by
     intro l
     induction l with
     | nil => intro _; rfl
     | cons t l ih =>
       intro hl
       rw [List.all_cons, List.any_cons, key t (hl t (by simp)), ih fun u hu => hl u (by simp [hu])]
       simp
   rw [Zu hs]
   show (!has (g.setBy _) s) = has (g.setBy _) s
   rw [Zu hs, Zu hs, Zu hs, key s hs, onK _ (w.on_lt hs)]
   show _ = (has (g.keep a n) s && (g.on s).any (has (g.keep a n)))
   simp
theorem Yj (g : Graph) : ∀ f : Form, (g.holds f).length = g.size
 | .yes => Ze _ _
 | .mark _ => Ze _ _
 | .not_ _ => Ze _ _
 | .and_ _ _ => Ze _ _
 | .next _ => Ze _ _
 | .always f => Qn (Yj g f) _
 | .until_ f h => Vt (Yj g h) _
 | .allUntil f h => Xd (Yj g h) _
def behindN (k : Nat) : Nat := if k = 3 \/ k = 4 \/ k = 11 \/ k = 12 then 2 else if k = 0 \/ k = 1 then 0 else 1
def partAt (l : List Nat) : Option (Nat × Nat) := match l with
 | [] => none
 | k :: r => if 13 <= k then none else if k ≠ 1 then some (k, 0) else match r with
   | [] => none
   | m :: _ => if 8 <= m then none else some (1, m)
def width (p : Nat × Nat) : Nat := if p.1 = 1 then 2 else 1
theorem partAt_width {l : List Nat} {p : Nat × Nat} (h : partAt l = some p) : width p <= l.length := by
 unfold partAt at h
 split at h
 . cases h
 . rename_i k r
   split at h
   . cases h
   . split at h
     . rename_i _ hk
       cases h
       simp [width, hk]
     . rename_i hk
       have hk : k = 1 := by simpa using hk
       split at h
       . cases h
       . split at h
         . cases h
         . cases h
           simp [width]
theorem partAt_ok {l : List Nat} {p : Nat × Nat} (h : partAt l = some p) : p.1 < 13 /\ p.2 < 8 := by
 unfold partAt at h
 split at h
 . cases h
 . rename_i k r
   split at h
   . cases h
   . split at h
     . cases h
       exact ⟨by simp; omega, by simp⟩
     . split at h
       . cases h
       . split at h
         . cases h
         . cases h
           exact ⟨by simp, by simp; omega⟩
theorem Vb {k : Nat} {r : List Nat} (hk : k < 13) (hk1 : k ≠ 1) : partAt (k :: r) = some (k, 0) := by
 show (if 13 <= k then none else if k ≠ 1 then some (k, 0) else _) = _
 rw [if_neg (by omega), if_pos hk1]
theorem width_pos (p : Nat × Nat) : 0 < width p := by unfold width; split <;> omega
def scan (d : Nat) (l : List Nat) : Option (List (Nat × Nat) × List Nat) := match d with
 | 0 => some ([], l)
 | d + 1 => match h : partAt l with
   | none => none
   | some p => match scan (d + behindN p.1) (l.drop (width p)) with
     | none => none
     | some x => some (p :: x.1, x.2)
termination_by l.length
decreasing_by
 have h1 := partAt_width h
 have h2 := width_pos p
 rw [List.length_drop]; omega
theorem scan_zero (l : List Nat) : scan 0 l = some ([], l) := by unfold scan; rfl
theorem scan_none {d : Nat} {l : List Nat} (h : partAt l = none) : scan (d + 1) l = none := by
 unfold scan
 split
 . rfl
 . rename_i p e
   rw [h] at e; cases e
theorem Vg {d : Nat} {l : List Nat} {p : Nat × Nat} (h : partAt l = some p) : scan (d + 1) l = (scan (d + behindN p.1) (l.drop (width p))).map fun x => (p :: x.1, x.2) := by
 rw [scan.eq_def]
 split
 . rename_i e; cases e
 . rename_i d' e
   cases e
   split
   . rename_i e
     rw [h] at e; cases e
   . rename_i q e
     rw [h] at e
     cases e
     cases scan (d + behindN p.1) (l.drop (width p)) <;> rfl
def one (g : Graph) (k m : Nat) (a b : Set) : Set :=
 if k = 0 then g.setBy fun _ => true
 else if k = 1 then g.setBy fun s => (g.mark s).testBit m
 else if k = 2 then g.setBy fun s => !has a s
 else if k = 3 then g.setBy fun s => has a s && has b s
 else if k = 4 then g.setBy fun s => !has (g.setBy fun s => has (g.setBy fun s => !has a s) s && has (g.setBy fun s => !has b s) s) s
 else if k = 5 then g.setBy (g.someNext a)
 else if k = 6 then g.setBy fun s => !has (g.setBy (g.someNext (g.setBy fun s => !has a s))) s
 else if k = 7 then g.keep a g.size
 else if k = 8 then g.setBy fun s => !has (g.gain (g.setBy fun _ => true) (g.setBy fun s => !has a s) g.size) s
 else if k = 9 then g.gain (g.setBy fun _ => true) a g.size
 else if k = 10 then g.setBy fun s => !has (g.keep (g.setBy fun s => !has a s) g.size) s
 else if k = 11 then g.gain a b g.size
 else g.gainAll a b g.size
def stepBack (g : Graph) (p : Nat × Nat) (T : List Set) : List Set := one g p.1 p.2 (T.getD 0 []) (T.getD 1 []) :: T.drop (behindN p.1)
def backRun (g : Graph) : List (Nat × Nat) -> List Set -> List Set
 | [], S => S
 | p :: P, S => stepBack g p (backRun g P S)
theorem backRun_append (g : Graph) : ∀ (P P' : List (Nat × Nat)) (S : List Set), backRun g (P ++ P') S = backRun g P (backRun g P' S)
 | [], _, _ => rfl
 | p :: P, P', S => by
   show stepBack g p (backRun g (P ++ P') S) = stepBack g p (backRun g P (backRun g P' S))
   rw [backRun_append g P P' S]
def hRun : List (Nat × Nat) -> Nat -> Option Nat
 | [], h => some h
 | p :: P, h => match hRun P h with
   | none => none
   | some j => if behindN p.1 <= j then some (j - behindN p.1 + 1) else none
theorem hRun_append : ∀ (P R : List (Nat × Nat)) (h : Nat), hRun (P ++ R) h = (hRun R h).bind (hRun P)
 | [], R, h => by
   show hRun R h = _
   cases hRun R h <;> rfl
 | p :: P, R, h => by
   show (match hRun (P ++ R) h with | none => none | some j => if behindN p.1 <= j then some (j - behindN p.1 + 1) else none) = _
   rw [hRun_append P R h]
   cases hRun R h <;> rfl
theorem hRun_drop {P : List (Nat × Nat)} {h n : Nat} (q : hRun P h = some n) (j : Nat) : ∃ m, hRun (P.drop j) h = some m := by
 have e : P = P.take j ++ P.drop j := (List.take_append_drop j P).symm
 rw [e, hRun_append] at q
 cases z : hRun (P.drop j) h with
 | none => rw [z] at q; cases q
 | some m => exact ⟨m, rfl⟩
theorem Uz (g : Graph) : ∀ {P : List (Nat × Nat)} {S : List Set} {n : Nat}, hRun P S.length = some n -> (backRun g P S).length = n
 | [], S, n, h => Option.some.inj h
 | p :: P, S, n, h => by
   have h : (match hRun P S.length with | none => none | some j => if behindN p.1 <= j then some (j - behindN p.1 + 1) else none) = some n := h
   cases e : hRun P S.length with
   | none => rw [e] at h; cases h
   | some j =>
     rw [e] at h
     have ih := Uz g e
     have h : (if behindN p.1 <= j then some (j - behindN p.1 + 1) else none) = some n := h
     by_cases q : behindN p.1 <= j
     . rw [if_pos q] at h
       cases h
       show (_ :: List.drop (behindN p.1) (backRun g P S)).length = _
       rw [List.length_cons, List.length_drop, ih]
     . rw [if_neg q] at h; cases h
structure Vx (P : List (Nat × Nat)) (f : Form) : Prop where
 run : ∀ (g : Graph) (S : List Set), backRun g P S = g.holds f :: S
 head : ∃ k m Q, P = (k, m) :: Q /\
   ((k = 5 /\ ∃ f', f = .next f' /\ ∀ (g : Graph) (S : List Set), backRun g Q S = g.holds f' :: S) \/
    (k = 7 /\ ∃ f', f = .always f') \/
    (k = 9 /\ ∃ f', f = .until_ .yes f' /\ ∀ (g : Graph) (S : List Set), backRun g Q S = g.holds f' :: S) \/
    (k = 11 /\ ∃ f' h', f = .until_ f' h' /\ ∀ (g : Graph) (S : List Set), backRun g Q S = g.holds f' :: g.holds h' :: S) \/
    (k ≠ 5 /\ k ≠ 7 /\ k ≠ 9 /\ k ≠ 11 /\ ∀ (g : Graph) (s : Nat), g.shows s f = none))
 ok : ∀ p ∈ P, p.1 < 13 /\ p.2 < 8 /\ (p.1 ≠ 1 -> p.2 = 0)
 fit : ∀ h, hRun P h = some (h + 1)
theorem tells1 {k : Nat} {P : List (Nat × Nat)} {f F : Form} (t : Vx P f) (hk : k < 13) (hb : behindN k = 1) (ho : ∀ g a b, a = g.holds f -> one g k 0 a b = g.holds F)
   (hd : (k = 5 /\ F = .next f) \/ (k = 7 /\ F = .always f) \/ (k = 9 /\ F = .until_ .yes f) \/ (k ≠ 5 /\ k ≠ 7 /\ k ≠ 9 /\ k ≠ 11 /\ ∀ (g : Graph) (s : Nat), g.shows s F = none)) : Vx ((k, 0) :: P) F := by
 refine ⟨fun g S => ?_, ⟨k, 0, P, rfl, ?_⟩, ?_, fun h => ?_⟩
 rotate_left 3
 . show (match hRun P h with | none => none | some j => if behindN k <= j then some (j - behindN k + 1) else none) = _
   rw [t.fit h, hb]
   show (if 1 <= h + 1 then some (h + 1 - 1 + 1) else none) = _
   rw [if_pos (by omega)]; rfl
 . show stepBack g (k, 0) (backRun g P S) = _
   rw [t.run g S]
   show one g k 0 (g.holds f) _ :: List.drop (behindN k) _ = _
   rw [hb, ho g _ _ rfl]; rfl
 . rcases hd with ⟨h, e⟩ | ⟨h, e⟩ | ⟨h, e⟩ | h
   . exact .inl ⟨h, f, e, t.run⟩
   . exact .inr (.inl ⟨h, f, e⟩)
   . exact .inr (.inr (.inl ⟨h, f, e, t.run⟩))
   . exact .inr (.inr (.inr (.inr h)))
 . intro p hp
   rcases List.mem_cons.mp hp with e | hp
   . subst e; exact ⟨hk, (by omega : (0 : Nat) < 8), fun _ => rfl⟩
   . exact t.ok p hp
theorem tells2 {k : Nat} {P R : List (Nat × Nat)} {f h F : Form} (t : Vx P f) (u : Vx R h) (hk : k < 13) (hb : behindN k = 2) (ho : ∀ g a b, a = g.holds f -> b = g.holds h -> one g k 0 a b = g.holds F)
   (hd : (k = 11 /\ F = .until_ f h) \/ (k ≠ 5 /\ k ≠ 7 /\ k ≠ 9 /\ k ≠ 11 /\ ∀ (g : Graph) (s : Nat), g.shows s F = none)) : Vx ((k, 0) :: (P ++ R)) F := by
 have run2 : ∀ (g : Graph) (S : List Set), backRun g (P ++ R) S = g.holds f :: g.holds h :: S := fun g S => by
   rw [backRun_append, u.run g S, t.run g]
 refine ⟨fun g S => ?_, ⟨k, 0, P ++ R, rfl, ?_⟩, ?_, fun h' => ?_⟩
 rotate_left 3
 . show (match hRun (P ++ R) h' with | none => none | some j => if behindN k <= j then some (j - behindN k + 1) else none) = _
   rw [hRun_append, u.fit h', hb]
   show (match hRun P (h' + 1) with | none => none | some j => if 2 <= j then some (j - 2 + 1) else none) = _
   rw [t.fit (h' + 1)]
   show (if 2 <= h' + 1 + 1 then some (h' + 1 + 1 - 2 + 1) else none) = _
   rw [if_pos (by omega)]; rfl
 . show stepBack g (k, 0) (backRun g (P ++ R) S) = _
   rw [run2 g S]
   show one g k 0 (g.holds f) (g.holds h) :: List.drop (behindN k) _ = _
   rw [hb, ho g _ _ rfl rfl]; rfl
 . rcases hd with ⟨h', e⟩ | h'
   . exact .inr (.inr (.inr (.inl ⟨h', f, h, e, run2⟩)))
   . exact .inr (.inr (.inr (.inr h')))
 . intro p hp
   rcases List.mem_cons.mp hp with e | hp
   . subst e; exact ⟨hk, (by omega : (0 : Nat) < 8), fun _ => rfl⟩
   . rcases List.mem_append.mp hp with q | q
     . exact t.ok p q
     . exact u.ok p q
theorem tells0 {k m : Nat} {F : Form} (hk : k < 13) (hm : m < 8) (hm0 : k ≠ 1 -> m = 0) (hb : behindN k = 0) (ho : ∀ g a b, one g k m a b = g.holds F) (hd : k ≠ 5 /\ k ≠ 7 /\ k ≠ 9 /\ k ≠ 11 /\ ∀ (g : Graph) (s : Nat), g.shows s F = none) : Vx [(k, m)] F := by
 refine ⟨fun g S => ?_, ⟨k, m, [], rfl, .inr (.inr (.inr (.inr hd)))⟩, ?_, fun h => ?_⟩
 rotate_left 2
 . show (if behindN k <= h then some (h - behindN k + 1) else none) = _
   rw [hb, if_pos (Nat.zero_le _)]; rfl
 . show one g k m _ _ :: List.drop (behindN k) S = _
   rw [hb, ho]; rfl
 . intro p hp
   have e : p = (k, m) := by simpa using hp
   subst e; exact ⟨hk, hm, hm0⟩
def Reads (l : List Nat) : Option (Form × List Nat) -> Prop
 | none => ∀ d, scan (d + 1) l = none
 | some (f, r) => r.length < l.length /\ ∃ P, Vx P f /\ ∀ d, scan (d + 1) l = (scan d r).map fun x => (P ++ x.1, x.2)
theorem reads1 {k : Nat} {r r' : List Nat} {f F : Form} (hk : k < 13) (hk1 : k ≠ 1) (hb : behindN k = 1) (h : Reads r (some (f, r'))) (T : ∀ P, Vx P f -> Vx ((k, 0) :: P) F) : Reads (k :: r) (some (F, r')) := by
 obtain ⟨hl, P, t, hs⟩ := h
 refine ⟨by rw [List.length_cons]; omega, (k, 0) :: P, T P t, fun d => ?_⟩
 have e : partAt (k :: r) = some (k, 0) := Vb hk hk1
 rw [Vg e]
 show (scan (d + behindN k) (List.drop (width (k, 0)) (k :: r))).map _ = _
 have w : width (k, 0) = 1 := by simp [width, hk1]
 rw [hb, w]
 show (scan (d + 1) r).map _ = _
 rw [hs d]
 cases scan d r' <;> rfl
theorem reads2 {k : Nat} {r r1 r2 : List Nat} {f h F : Form} (hk : k < 13) (hk1 : k ≠ 1) (hb : behindN k = 2) (h1 : Reads r (some (f, r1))) (h2 : Reads r1 (some (h, r2))) (T : ∀ P R, Vx P f -> Vx R h -> Vx ((k, 0) :: (P ++ R)) F) : Reads (k :: r) (some (F, r2)) := by
 obtain ⟨hl, P, t, hs⟩ := h1
 obtain ⟨hl2, R, u, hs2⟩ := h2
 refine ⟨by rw [List.length_cons]; omega, (k, 0) :: (P ++ R), T P R t u, fun d => ?_⟩
 have e : partAt (k :: r) = some (k, 0) := Vb hk hk1
 rw [Vg e]
 show (scan (d + behindN k) (List.drop (width (k, 0)) (k :: r))).map _ = _
 have w : width (k, 0) = 1 := by simp [width, hk1]
 rw [hb, w]
 show (scan (d + 1 + 1) r).map _ = _
 rw [hs (d + 1), hs2 d]
 cases scan d r2 <;> simp
theorem reads_none1 {k : Nat} {r : List Nat} (hk : k < 13) (hk1 : k ≠ 1) (hb : behindN k ≠ 0) (h : Reads r none) : Reads (k :: r) none := by
 intro d
 have e : partAt (k :: r) = some (k, 0) := Vb hk hk1
 rw [Vg e]
 have w : width (k, 0) = 1 := by simp [width, hk1]
 show (scan (d + behindN k) (List.drop (width (k, 0)) (k :: r))).map _ = _
 rw [w]
 obtain ⟨j, hj⟩ : ∃ j, d + behindN k = j + 1 := ⟨d + behindN k - 1, by omega⟩
 rw [hj]
 show (scan (j + 1) r).map _ = _
 rw [h j]; rfl
theorem reads_none2 {k : Nat} {r r1 : List Nat} {f : Form} (hk : k < 13) (hk1 : k ≠ 1) (hb : behindN k = 2) (h1 : Reads r (some (f, r1))) (h : Reads r1 none) : Reads (k :: r) none := by
 obtain ⟨hl, P, t, hs⟩ := h1
 intro d
 have e : partAt (k :: r) = some (k, 0) := Vb hk hk1
 rw [Vg e]
 have w : width (k, 0) = 1 := by simp [width, hk1]
 show (scan (d + behindN k) (List.drop (width (k, 0)) (k :: r))).map _ = _
 rw [hb, w]
 show (scan (d + 1 + 1) r).map _ = _
 rw [hs (d + 1), h d]; rfl
def form1 (k : Nat) (f : Form) : Form := if k = 2 then .not_ f else if k = 5 then .next f else if k = 6 then .not_ (.next (.not_ f)) else if k = 7 then .always f
 else if k = 8 then .not_ (.until_ .yes (.not_ f)) else if k = 9 then .until_ .yes f else .not_ (.always (.not_ f))
def form2 (k : Nat) (f h : Form) : Form := if k = 3 then .and_ f h else if k = 4 then or_ f h else if k = 11 then .until_ f h else .allUntil f h
theorem formIn1 {n k : Nat} {r : List Nat} (hk : k = 2 \/ k = 5 \/ k = 6 \/ k = 7 \/ k = 8 \/ k = 9 \/ k = 10) : formIn (n + 1) (k :: r) = (formIn n r).map fun x => (form1 k x.1, x.2) := by
 rcases hk with e | e | e | e | e | e | e <;> (subst e; cases h : formIn n r <;> simp [formIn, h, form1])
theorem formIn2 {n k : Nat} {r : List Nat} (hk : k = 3 \/ k = 4 \/ k = 11 \/ k = 12) : formIn (n + 1) (k :: r) = (formIn n r).bind fun x => (formIn n x.2).map fun y => (form2 k x.1 y.1, y.2) := by
 rcases hk with e | e | e | e <;> (subst e; cases h : formIn n r with
   | none => simp [formIn, h]
   | some x => cases h2 : formIn n x.2 <;> simp [formIn, h, h2, form2])
theorem reads_k1 {n k : Nat} {r : List Nat} (hk : k = 2 \/ k = 5 \/ k = 6 \/ k = 7 \/ k = 8 \/ k = 9 \/ k = 10) (ih : Reads r (formIn n r)) : Reads (k :: r) (formIn (n + 1) (k :: r)) := by
 rw [formIn1 hk]
 have hb : behindN k = 1 := by
   unfold behindN
   rw [if_neg (by omega), if_neg (by omega)]
 cases e : formIn n r with
 | none =>
   rw [e] at ih
   exact reads_none1 (by omega) (by omega) (by omega) ih
 | some x =>
   obtain ⟨f, r1⟩ := x
   rw [e] at ih
   refine reads1 (by omega) (by omega) hb ih fun P t => ?_
   rcases hk with q | q | q | q | q | q | q <;> subst q
   . exact tells1 t (by omega) rfl (fun g a b ea => by subst ea; rfl) (.inr (.inr (.inr ⟨by decide, by decide, by decide, by decide, fun g s => rfl⟩)))
   . exact tells1 t (by omega) rfl (fun g a b ea => by subst ea; rfl) (.inl ⟨rfl, rfl⟩)
   . exact tells1 t (by omega) rfl (fun g a b ea => by subst ea; rfl) (.inr (.inr (.inr ⟨by decide, by decide, by decide, by decide, fun g s => rfl⟩)))
   . exact tells1 t (by omega) rfl (fun g a b ea => by subst ea; rfl) (.inr (.inl ⟨rfl, rfl⟩))
   . exact tells1 t (by omega) rfl (fun g a b ea => by subst ea; rfl) (.inr (.inr (.inr ⟨by decide, by decide, by decide, by decide, fun g s => rfl⟩)))
   . exact tells1 t (by omega) rfl (fun g a b ea => by subst ea; rfl) (.inr (.inr (.inl ⟨rfl, rfl⟩)))
   . exact tells1 t (by omega) rfl (fun g a b ea => by subst ea; rfl) (.inr (.inr (.inr ⟨by decide, by decide, by decide, by decide, fun g s => rfl⟩)))
theorem reads_k2 {n k : Nat} {r : List Nat} (hk : k = 3 \/ k = 4 \/ k = 11 \/ k = 12) (ih : Reads r (formIn n r)) (ih2 : ∀ r', r'.length < r.length -> Reads r' (formIn n r')) : Reads (k :: r) (formIn (n + 1) (k :: r)) := by
 rw [formIn2 hk]
 have hb : behindN k = 2 := by
   unfold behindN
   rw [if_pos (by omega)]
 cases e : formIn n r with
 | none =>
   rw [e] at ih
   exact reads_none1 (by omega) (by omega) (by omega) ih
 | some x =>
   obtain ⟨f, r1⟩ := x
   rw [e] at ih
   have i2 := ih2 r1 ih.1
   show Reads (k :: r) ((formIn n r1).map _)
   cases e2 : formIn n r1 with
   | none =>
     rw [e2] at i2
     exact reads_none2 (by omega) (by omega) hb ih i2
   | some y =>
     obtain ⟨h, r2⟩ := y
     rw [e2] at i2
     refine reads2 (by omega) (by omega) hb ih i2 fun P R t u => ?_
     rcases hk with q | q | q | q <;> subst q
     . exact tells2 t u (by omega) rfl (fun g a b ea eb => by subst ea; subst eb; rfl) (.inr ⟨by decide, by decide, by decide, by decide, fun g s => rfl⟩)
     . exact tells2 t u (by omega) rfl (fun g a b ea eb => by subst ea; subst eb; rfl) (.inr ⟨by decide, by decide, by decide, by decide, fun g s => rfl⟩)
     . exact tells2 t u (by omega) rfl (fun g a b ea eb => by subst ea; subst eb; rfl) (.inl ⟨rfl, rfl⟩)
     . exact tells2 t u (by omega) rfl (fun g a b ea eb => by subst ea; subst eb; rfl) (.inr ⟨by decide, by decide, by decide, by decide, fun g s => rfl⟩)
theorem formIn_big {n k : Nat} {r : List Nat} (hk : 13 <= k) : formIn (n + 1) (k :: r) = none := by
 unfold formIn
 split
 . rename_i e; injection e with e1 e2; omega
 . rename_i e; injection e with e1 e2; omega
 . rename_i k' r' h0 h1 e
   injection e with e1 e2
   subst e1 e2
   rw [if_pos (.inl (by omega))]
 . rfl
theorem reads_form : ∀ (n : Nat) (l : List Nat), l.length < n -> Reads l (formIn n l)
 | 0, _, h => absurd h (Nat.not_lt_zero _)
 | n + 1, [], h => fun d => scan_none rfl
 | n + 1, k :: r, h => by
   have hr : r.length < n := by
     rw [List.length_cons] at h; omega
   have ih := reads_form n r hr
   by_cases k0 : k = 0
   . subst k0
     refine ⟨by simp, [(0, 0)], tells0 (by decide) (by decide) (fun _ => rfl) rfl (fun g a b => rfl) ⟨by decide, by decide, by decide, by decide, fun g s => rfl⟩, fun d => ?_⟩
     rw [Vg (p := (0, 0)) (by rfl)]
     rfl
   by_cases k1 : k = 1
   . subst k1
     cases r with
     | nil => exact fun d => scan_none rfl
     | cons m r =>
       show Reads (1 :: m :: r) (if m < 8 then some (.mark m, r) else none)
       split
       . rename_i hm
         refine ⟨by simp; omega, [(1, m)], tells0 (by decide) hm (fun z => absurd rfl z) rfl (fun g a b => rfl) ⟨by decide, by decide, by decide, by decide, fun g s => rfl⟩, fun d => ?_⟩
         rw [Vg (p := (1, m)) (by show (if 8 <= m then none else some (1, m)) = _; rw [if_neg (by omega)])]
         rfl
       . rename_i hm
         intro d
         exact scan_none (by show (if 8 <= m then none else some (1, m)) = _; rw [if_pos (by omega)])
   by_cases k13 : 13 <= k
   . rw [formIn_big k13]
     intro d
     exact scan_none (by show (if 13 <= k then none else _) = none; rw [if_pos k13])
   by_cases k2 : k = 3 \/ k = 4 \/ k = 11 \/ k = 12
   . exact reads_k2 k2 ih fun r' hr' => reads_form n r' (by omega)
   . exact reads_k1 (by omega) ih
def partsOf (l : List Nat) : Option (List (Nat × Nat)) := match scan 1 l with
 | some (P, []) => some P
 | _ => none
theorem partsOf_form (l : List Nat) : match formOf l with
   | none => partsOf l = none
   | some f => ∃ P, partsOf l = some P /\ Vx P f := by
 have h := reads_form (l.length + 1) l (Nat.lt_succ_self _)
 unfold formOf partsOf
 cases e : formIn (l.length + 1) l with
 | none =>
   rw [e] at h
   show (match scan 1 l with | some (P, []) => some P | _ => none) = none
   rw [show scan 1 l = none from h 0]
 | some x =>
   obtain ⟨f, r⟩ := x
   rw [e] at h
   obtain ⟨_, P, t, hs⟩ := h
   have e0 : scan 1 l = some (P, r) := by
     have := hs 0
     rw [scan_zero] at this
     simpa using this
   rw [e0]
   cases r with
   | nil => exact ⟨P, rfl, t⟩
   | cons _ _ => rfl
theorem find_min {p : Nat -> Bool} {m : Nat} : ∀ {l : List Nat}, l.Pairwise (· < ·) -> m ∈ l -> p m = true -> (∀ y ∈ l, p y = true -> m <= y) -> l.find? p = some m
 | x :: l, hs, hm, hp, hl => by
   rw [List.pairwise_cons] at hs
   by_cases hx : p x = true
   . have h1 := hl x (by simp) hx
     rcases List.mem_cons.mp hm with e | e
     . subst e; simp [List.find?, hx]
     . have := hs.1 m e
       omega
   . rcases List.mem_cons.mp hm with e | e
     . subst e; exact absurd hp hx
     . have ih := find_min hs.2 e hp fun y hy => hl y (by simp [hy])
       have hx : p x = false := by simpa using hx
       simp [List.find?, hx, ih]
theorem find_min' {p : Nat -> Bool} {m : Nat} {l : List Nat} (hs : l.Pairwise (· < ·)) (h : l.find? p = some m) : m ∈ l /\ p m = true /\ ∀ y ∈ l, p y = true -> m <= y := by
 refine ⟨List.mem_of_find?_eq_some h, List.find?_some h, ?_⟩
 induction l with
 | nil => cases h
 | cons x l ih =>
   rw [List.pairwise_cons] at hs
   intro y hy py
   by_cases hx : p x = true
   . simp [List.find?, hx] at h
     subst h
     rcases List.mem_cons.mp hy with e | e
     . omega
     . have := hs.1 y e; omega
   . have hx : p x = false := by simpa using hx
     simp only [List.find?, hx] at h
     rcases List.mem_cons.mp hy with e | e
     . subst e; rw [hx] at py; cases py
     . exact ih hs.2 h y e py
theorem Xt {p : Nat -> Bool} {n k : Nat} (h : (List.range n).find? p = some k) : k < n /\ p k = true /\ ∀ j, j < k -> p j = false := by
 have hm := List.mem_of_find?_eq_some h
 have hp := List.find?_some h
 refine ⟨List.mem_range.mp hm, hp, fun j hj => ?_⟩
 have hl : (List.range n).Pairwise (· < ·) := List.pairwise_lt_range
 have := (find_min' hl h).2.2 j (List.mem_range.mpr (by have := List.mem_range.mp hm; omega))
 cases e : p j with
 | false => rfl
 | true => have := this e; omega
theorem Xl {p : Nat -> Bool} {n : Nat} (h : (List.range n).find? p = none) : ∀ j, j < n -> p j = false := by
 intro j hj
 have := List.find?_eq_none.mp h j (List.mem_range.mpr hj)
 simpa using this
theorem find_range_some {p : Nat -> Bool} {n k : Nat} (hk : k < n) (hp : p k = true) (hl : ∀ j, j < k -> p j = false) : (List.range n).find? p = some k :=
 find_min List.pairwise_lt_range (List.mem_range.mpr hk) hp fun y _ py => by
   by_cases q : k <= y
   . exact q
   . rw [hl y (by omega)] at py; cases py
section
variable {g : Graph} {a b : Set}
theorem gain_succ {n s : Nat} (hs : s < g.size) : has (g.gain a b (n + 1)) s = (has (g.gain a b n) s || (has a s && (g.on s).any (has (g.gain a b n)))) := by
 show has (g.setBy _) s = _
 rw [Zu hs]; rfl
def stepsTo (g : Graph) (a b : Set) (k s : Nat) : Int := match (List.range (k + 1)).find? fun n => has (g.gain a b n) s with
 | some n => (n : Int)
 | none => -1
theorem stepsTo_nat {k s n : Nat} : stepsTo g a b k s = (n : Int) ↔ n <= k /\ has (g.gain a b n) s = true /\ ∀ j, j < n -> has (g.gain a b j) s = false := by
 unfold stepsTo
 constructor
 . intro h
   split at h
   . rename_i m e
     obtain ⟨h1, h2, h3⟩ := Xt e
     have e' : m = n := by omega
     subst e'
     exact ⟨by omega, h2, h3⟩
   . omega
 . rintro ⟨h1, h2, h3⟩
   rw [find_range_some (p := fun n => has (g.gain a b n) s) (k := n) (by omega) h2 h3]
theorem stepsTo_neg {k s : Nat} : stepsTo g a b k s = -1 ↔ ∀ j, j <= k -> has (g.gain a b j) s = false := by
 unfold stepsTo
 constructor
 . intro h
   split at h
   . omega
   . rename_i e
     exact fun j hj => Xl e j (by omega)
 . intro h
   split
   . rename_i m e
     obtain ⟨h1, h2, _⟩ := Xt e
     rw [h m (by omega)] at h2; cases h2
   . rfl
theorem stepsTo_cases (k s : Nat) : stepsTo g a b k s = -1 \/ ∃ n : Nat, n <= k /\ stepsTo g a b k s = (n : Int) := by
 unfold stepsTo
 split
 . rename_i m e
   exact .inr ⟨m, by have := (Xt e).1; omega, rfl⟩
 . exact .inl rfl
theorem stepsTo_zero {s : Nat} (hs : s < g.size) : stepsTo g a b 0 s = if has b s then 0 else -1 := by
 by_cases q : has b s = true
 . rw [if_pos q]
   exact stepsTo_nat.mpr ⟨Nat.le_refl _, q, fun j hj => absurd hj (Nat.not_lt_zero _)⟩
 . rw [if_neg q]
   refine stepsTo_neg.mpr fun j hj => ?_
   have e : j = 0 := by omega
   subst e
   show has b s = false
   simpa using q
theorem stepsTo_succ (w : WF g) {k s : Nat} (hs : s < g.size) :
   stepsTo g a b (k + 1) s = if stepsTo g a b k s = -1 /\ has a s = true /\ (g.on s).any (fun t => decide (stepsTo g a b k t = (k : Int))) = true then ((k + 1 : Nat) : Int) else stepsTo g a b k s := by
 rcases stepsTo_cases (g := g) (a := a) (b := b) k s with e | ⟨n, hn, e⟩
 . rw [e]
   have none := stepsTo_neg.mp e
   have key : has a s = true -> (g.on s).any (fun t => decide (stepsTo g a b k t = (k : Int))) = (g.on s).any (has (g.gain a b k)) := fun ha => by
     rw [Bool.eq_iff_iff, List.any_eq_true, List.any_eq_true]
     constructor
     . rintro ⟨t, ht, e⟩
       exact ⟨t, ht, (stepsTo_nat.mp (of_decide_eq_true e)).2.1⟩
     . rintro ⟨t, ht, e⟩
       refine ⟨t, ht, decide_eq_true (stepsTo_nat.mpr ⟨Nat.le_refl _, e, fun j hj => ?_⟩)⟩
       cases q : has (g.gain a b j) t with
       | false => rfl
       | true =>
         have h1 := none (j + 1) (by omega)
         rw [gain_succ hs, ha, List.any_eq_true.mpr ⟨t, ht, q⟩] at h1
         simp at h1
   have hk := none k (Nat.le_refl _)
   have e2 := gain_succ (a := a) (b := b) (n := k) hs
   rw [hk, Bool.false_or] at e2
   by_cases q : has a s = true /\ (g.on s).any (fun t => decide (stepsTo g a b k t = (k : Int))) = true
   . rw [if_pos ⟨rfl, q⟩]
     refine stepsTo_nat.mpr ⟨Nat.le_refl _, ?_, fun j hj => none j (by omega)⟩
     rw [e2, q.1, <- key q.1, q.2]; rfl
   . rw [if_neg (fun z => q z.2)]
     refine stepsTo_neg.mpr fun j hj => ?_
     by_cases hj' : j <= k
     . exact none j hj'
     . have ej : j = k + 1 := by omega
       subst ej
       rw [e2]
       cases ha : has a s with
       | false => rfl
       | true =>
         rw [<- key ha]
         cases q2 : (g.on s).any (fun t => decide (stepsTo g a b k t = (k : Int))) with
         | false => rfl
         | true => exact absurd ⟨ha, q2⟩ q
 . rw [if_neg (by rw [e]; omega), e]
   obtain ⟨h1, h2, h3⟩ := stepsTo_nat.mp e
   exact stepsTo_nat.mpr ⟨by omega, h2, h3⟩
theorem far_nat {s n : Nat} : g.far a b s = some n ↔ stepsTo g a b g.size s = (n : Int) := by
 unfold Graph.far stepsTo
 split
 . rename_i m e
   rw [e]
   constructor
   . intro h; cases h; rfl
   . intro h
     have e' : m = n := by omega
     rw [e']
 . rename_i e
   rw [e]
   constructor
   . intro h; cases h
   . intro h; omega
theorem far_none {s : Nat} : g.far a b s = none ↔ stepsTo g a b g.size s = -1 := by
 unfold Graph.far stepsTo
 split
 . rename_i m e
   rw [e]
   constructor
   . intro h; cases h
   . intro h; omega
 . rename_i e
   rw [e]
   exact ⟨fun _ => rfl, fun _ => rfl⟩
theorem far_of_gain {s : Nat} (h : has (g.gain a b g.size) s = true) : ∃ n, g.far a b s = some n := by
 cases e : g.far a b s with
 | some n => exact ⟨n, rfl⟩
 | none =>
   have := Xl e g.size (Nat.lt_succ_self _)
   rw [h] at this; cases this
theorem way_step (w : WF g) {s n : Nat} (hs : s < g.size) (h : stepsTo g a b g.size s = ((n + 1 : Nat) : Int)) :
   ∃ t, (g.on s).find? (fun t => decide (stepsTo g a b g.size t = (n : Int))) = some t /\ t < g.size /\ stepsTo g a b g.size t = (n : Int) /\ g.wayTo a b (n + 1) s = s :: g.wayTo a b n t := by
 obtain ⟨h1, h2, h3⟩ := stepsTo_nat.mp h
 have hn : has (g.gain a b n) s = false := h3 n (Nat.lt_succ_self _)
 rw [gain_succ hs, hn, Bool.false_or, Bool.and_eq_true, List.any_eq_true] at h2
 obtain ⟨ha, t0, ht0, g0⟩ := h2
 have key : ∀ t ∈ g.on s, decide (stepsTo g a b g.size t = (n : Int)) = has (g.gain a b n) t := fun t ht => by
   cases q : has (g.gain a b n) t with
   | false =>
     refine decide_eq_false fun z => ?_
     rw [(stepsTo_nat.mp z).2.1] at q; cases q
   | true =>
     refine decide_eq_true (stepsTo_nat.mpr ⟨by omega, q, fun j hj => ?_⟩)
     cases q2 : has (g.gain a b j) t with
     | false => rfl
     | true =>
       have z := h3 (j + 1) (by omega)
       rw [gain_succ hs, ha, List.any_eq_true.mpr ⟨t, ht, q2⟩] at z
       simp at z
 have ef : (g.on s).find? (fun t => decide (stepsTo g a b g.size t = (n : Int))) = (g.on s).find? fun t => has (g.gain a b n) t := by
   have : ∀ l : List Nat, (∀ t ∈ l, t ∈ g.on s) -> l.find? (fun t => decide (stepsTo g a b g.size t = (n : Int))) = l.find? fun t => has (g.gain a b n) t := by
     intro l
     induction l with
     | nil => intro _; rfl
     | cons x l ih =>
       intro hl
       simp only [List.find?, key x (hl x (by simp)), ih fun t ht => hl t (by simp [ht])]
   exact this _ fun t ht => ht
 cases e : (g.on s).find? fun t => has (g.gain a b n) t with
 | none =>
   have := List.find?_eq_none.mp e t0 ht0
   exact absurd g0 this
 | some t =>
   have ht := List.mem_of_find?_eq_some e
   have pt := List.find?_some e
   refine ⟨t, ef.trans e, w.on_lt hs t ht, ?_, ?_⟩
   . rw [<- key t ht] at pt
     exact of_decide_eq_true pt
   . have hb : has b s = false := h3 0 (Nat.succ_pos _)
     show (if has b s = true then [s] else match (g.on s).find? fun t => has (g.gain a b n) t with
       | some t => s :: g.wayTo a b n t
       | none => [s]) = _
     rw [if_neg (by rw [hb]; simp), e]
theorem wayTo_head : ∀ (n s : Nat), ∃ r, g.wayTo a b n s = s :: r
 | 0, s => ⟨[], rfl⟩
 | n + 1, s => by
   show ∃ r, (if has b s = true then [s] else match (g.on s).find? fun t => has (g.gain a b n) t with
       | some t => s :: g.wayTo a b n t
       | none => [s]) = s :: r
   split
   . exact ⟨[], rfl⟩
   . split
     . exact ⟨_, rfl⟩
     . exact ⟨[], rfl⟩
end
theorem nodup_lt : ∀ (n : Nat) (l : List Nat), l.Nodup -> (∀ x ∈ l, x < n) -> l.length <= n
 | 0, l, _, h => by
   cases l with
   | nil => exact Nat.le_refl _
   | cons x l => exact absurd (h x (by simp)) (Nat.not_lt_zero _)
 | n + 1, l, hd, h => by
   have ih := nodup_lt n (l.erase n) (hd.erase n) fun x hx => by
     have h1 := h x (List.mem_of_mem_erase hx)
     have h2 : x ≠ n := fun z => by
       subst z
       exact (hd.not_mem_erase) hx
     omega
   have := List.length_erase (a := n) (l := l)
   split at this <;> omega
section
variable {g : Graph} {a : Set}
theorem keep_rest (w : WF g) (ha : a.length = g.size) {s : Nat} (h : has (g.keep a g.size) s = true) : ∃ t, (g.on s).find? (has (g.keep a g.size)) = some t /\ t < g.size /\ has (g.keep a g.size) t = true := by
 have hs : s < g.size := by
   have := has_lt h
   rw [Qn ha] at this; exact this
 have e1 : g.keep a (g.size + 1) = g.keep a g.size := by
   rw [<- keep_dual w ha, <- keep_dual w ha, Ve, Ve]
   have := (grows_all (g := g) (a := g.setBy fun _ => true) (b := g.setBy fun s => !has a s) (Ze _ _)).rest
   show g.setBy (fun s => !has (Vy g _ (iter _ _ g.size)) s) = _
   rw [this]
 have h2 : has (g.keep a (g.size + 1)) s = true := by rw [e1]; exact h
 have h3 : has (g.setBy fun s => has (g.keep a g.size) s && g.someNext (g.keep a g.size) s) s = true := h2
 rw [Zu hs, Bool.and_eq_true] at h3
 have h4 : (g.on s).any (has (g.keep a g.size)) = true := h3.2
 rw [List.any_eq_true] at h4
 obtain ⟨t0, ht0, p0⟩ := h4
 cases e : (g.on s).find? (has (g.keep a g.size)) with
 | none => exact absurd p0 (List.find?_eq_none.mp e t0 ht0)
 | some t => exact ⟨t, rfl, w.on_lt hs t (List.mem_of_find?_eq_some e), List.find?_some e⟩
theorem round_in {n s : Nat} {l : List Nat} (h : s ∈ l) : g.round a (n + 1) l s = l ++ [s] := by
 show (if l.contains s = true then l ++ [s] else _) = _
 rw [if_pos (by simpa using h)]
theorem round_out {n s t : Nat} {l : List Nat} (h : s ∉ l) (e : (g.on s).find? (has a) = some t) : g.round a (n + 1) l s = g.round a n (l ++ [s]) t := by
 show (if l.contains s = true then l ++ [s] else match (g.on s).find? (has a) with
   | some t => g.round a n (l ++ [s]) t
   | none => l ++ [s]) = _
 rw [if_neg (by simpa using h), e]
end
theorem rising_mem {l : List Nat} {n x : Nat} : x ∈ rising l n ↔ x < n /\ x ∈ l := by
 unfold rising
 rw [List.mem_filter, List.mem_range]
 simp
theorem Yk (l : List Nat) (n : Nat) : (rising l n).Pairwise (· < ·) := List.Pairwise.filter _ List.pairwise_lt_range
theorem Vz : ∀ {l l' : List Nat}, l.Pairwise (· < ·) -> l'.Pairwise (· < ·) -> (∀ x, x ∈ l ↔ x ∈ l') -> l = l'
 | [], [], _, _, _ => rfl
 | [], y :: l', _, _, h => absurd ((h y).mpr (by simp)) (by simp)
 | x :: l, [], _, _, h => absurd ((h x).mp (by simp)) (by simp)
 | x :: l, y :: l', h1, h2, h => by
   rw [List.pairwise_cons] at h1 h2
   have exy : x = y := by
     rcases List.mem_cons.mp ((h x).mp (by simp)) with e | e
     . exact e
     . rcases List.mem_cons.mp ((h y).mpr (by simp)) with e' | e'
       . exact e'.symm
       . have := h1.1 y e'
         have := h2.1 x e
         omega
   subst exy
   have := Vz h1.2 h2.2 fun z => by
     have hz := h z
     simp only [List.mem_cons] at hz
     constructor
     . intro q
       rcases hz.mp (.inr q) with e | e
       . have := h1.1 z q; omega
       . exact e
     . intro q
       rcases hz.mpr (.inr q) with e | e
       . have := h2.1 z q; omega
       . exact e
   rw [this]
theorem sorted_rising {l l' : List Nat} {t n : Nat} (hs : l.Pairwise (· < ·)) (hl : ∀ x ∈ l, x < n) (ht : t < n) (hn : t ∉ l) (hp : l'.Perm (l ++ [t])) (ho : l'.Pairwise (· <= ·)) : l' = rising (t :: l) n := by
 have hd : l'.Nodup := by
   rw [hp.nodup_iff, List.nodup_append]
   refine ⟨?_, by simp, ?_⟩
   . exact hs.imp fun h => Nat.ne_of_lt h
   . intro x hx y hy e
     have : y = t := by simpa using hy
     subst this
     subst e
     exact hn hx
 have ho' : l'.Pairwise (· < ·) := by
   have := ho.and hd
   exact this.imp fun ⟨h1, h2⟩ => Nat.lt_of_le_of_ne h1 h2
 refine Vz ho' (Yk _ _) fun x => ?_
 rw [hp.mem_iff, rising_mem]
 simp only [List.mem_append, List.mem_cons, List.not_mem_nil, or_false]
 constructor
 . rintro (h | h)
   . exact ⟨hl x h, .inr h⟩
   . subst h; exact ⟨ht, .inl rfl⟩
 . rintro ⟨_, h | h⟩
   . exact .inr h
   . exact .inl h
theorem pairsIn_spec (n : Nat) : ∀ (k : Nat) (e : List Nat), e.length <= k -> match pairsIn n e with
   | none => e.length % 2 = 1 \/ ∃ x ∈ e, n <= x
   | some ps => e = ps.flatMap (fun x => [x.1, x.2]) /\ ∀ x ∈ ps, x.1 < n /\ x.2 < n
 | _, [], _ => by simp [pairsIn]
 | _, [s], _ => by simp [pairsIn]
 | 0, s :: t :: r, h => by simp at h
 | k + 1, s :: t :: r, h => by
   have ih := pairsIn_spec n k r (by simp at h; omega)
   unfold pairsIn
   split
   . rename_i e
     split at e
     . rename_i q
       right
       rcases q with q | q
       . exact ⟨s, by simp, q⟩
       . exact ⟨t, by simp, q⟩
     . split at e
       . cases e
       . rename_i e2
         rw [e2] at ih
         rcases ih with q | ⟨x, hx, q⟩
         . left
           simp only [List.length_cons]; omega
         . right
           exact ⟨x, by simp [hx], q⟩
   . rename_i ps e
     split at e
     . cases e
     . rename_i hst
       split at e
       . rename_i l e2
         cases e
         rw [e2] at ih
         obtain ⟨h1, h2⟩ := ih
         refine ⟨by rw [List.flatMap_cons, <- h1]; rfl, fun x hx => ?_⟩
         rcases List.mem_cons.mp hx with q | q
         . subst q; exact ⟨by omega, by omega⟩
         . exact h2 x q
       . cases e
theorem flat_length : ∀ ps : List (Nat × Nat), (ps.flatMap fun x => [x.1, x.2]).length = 2 * ps.length
 | [] => rfl
 | x :: ps => by rw [List.flatMap_cons, List.length_append, flat_length ps]; simp; omega
theorem flat_get : ∀ {ps : List (Nat × Nat)} {i : Nat} {p : Nat × Nat}, ps[i]? = some p -> (ps.flatMap fun x => [x.1, x.2])[2 * i]? = some p.1 /\ (ps.flatMap fun x => [x.1, x.2])[2 * i + 1]? = some p.2
 | x :: ps, 0, p, h => by
   have e : x = p := by simpa using h
   subst e
   simp [List.flatMap_cons]
 | x :: ps, i + 1, p, h => by
   have ih := flat_get (ps := ps) (i := i) (p := p) (by simpa using h)
   rw [List.flatMap_cons]
   have e1 : 2 * (i + 1) = 2 * i + 2 := by omega
   rw [e1]
   exact ih
def okGraph (m e : List Nat) : Bool := decide (1 <= m.length) && decide (m.length <= 12) && decide (e.length % 2 = 0) && m.all (fun x => decide (x < 256)) && e.all fun x => decide (x < m.length)
def edgeTo (n : Nat) (ps : List (Nat × Nat)) (s : Nat) : List Nat := rising ((ps.filter fun x => x.1 == s).map (·.2)) n
def tgt (n : Nat) (ps : List (Nat × Nat)) : List (List Nat) := (List.range n).map (edgeTo n ps)
theorem graphIn_spec (m e : List Nat) : match okGraph m e with
   | false => graphIn m e = none
   | true => ∃ ps, e = ps.flatMap (fun x => [x.1, x.2]) /\ (∀ x ∈ ps, x.1 < m.length /\ x.2 < m.length) /\ graphIn m e = some ⟨m, tgt m.length ps⟩ := by
 have hp := pairsIn_spec m.length e.length e (Nat.le_refl _)
 cases q : okGraph m e with
 | true =>
   unfold okGraph at q
   simp only [Bool.and_eq_true, decide_eq_true_eq, List.all_eq_true] at q
   obtain ⟨⟨⟨⟨q1, q2⟩, q3⟩, q4⟩, q5⟩ := q
   cases e1 : pairsIn m.length e with
   | none =>
     rw [e1] at hp
     rcases hp with z | ⟨x, hx, z⟩
     . omega
     . have := q5 x hx; omega
   | some ps =>
     rw [e1] at hp
     refine ⟨ps, hp.1, hp.2, ?_⟩
     unfold graphIn
     rw [if_neg, e1]
     . rfl
     . rintro (z | z | z)
       . omega
       . have : STATES = 12 := rfl
         omega
       . rw [List.any_eq_true] at z
         obtain ⟨x, hx, z⟩ := z
         have := q4 x hx
         have z := of_decide_eq_true z
         omega
 | false =>
   show graphIn m e = none
   unfold graphIn
   split
   . rfl
   . rename_i h
     simp only [not_or] at h
     obtain ⟨h1, h2, h3⟩ := h
     have h2 : ¬ 12 < m.length := h2
     have h3 : m.all (fun x => decide (x < 256)) = true := by
       rw [List.all_eq_true]
       intro x hx
       refine decide_eq_true ?_
       by_cases z : 256 <= x
       . exact absurd (List.any_eq_true.mpr ⟨x, hx, decide_eq_true z⟩) h3
       . omega
     split
     . rfl
     . rename_i ps e1
       rw [e1] at hp
       obtain ⟨p1, p2⟩ := hp
       exfalso
       have h4 : e.length % 2 = 0 := by rw [p1, flat_length]; omega
       have h5 : e.all (fun x => decide (x < m.length)) = true := by
         rw [List.all_eq_true]
         intro x hx
         rw [p1, List.mem_flatMap] at hx
         obtain ⟨p, hp, hx⟩ := hx
         have := p2 p hp
         refine decide_eq_true ?_
         simp at hx
         rcases hx with z | z <;> (rw [z]; omega)
       unfold okGraph at q
       rw [h3, h5, decide_eq_true (show 1 <= m.length by omega), decide_eq_true (show m.length <= 12 by omega), decide_eq_true h4] at q
       cases q
theorem Xn (n : Nat) (ps : List (Nat × Nat)) : (tgt n ps).length = n := by simp [tgt]
theorem tgt_get {n : Nat} {ps : List (Nat × Nat)} {s : Nat} (h : s < n) : (tgt n ps)[s]? = some (edgeTo n ps s) := by simp [tgt, h]
theorem edgeTo_mem {n : Nat} {ps : List (Nat × Nat)} {s x : Nat} : x ∈ edgeTo n ps s ↔ x < n /\ (s, x) ∈ ps := by
 unfold edgeTo
 rw [rising_mem, List.mem_map]
 constructor
 . rintro ⟨h, p, hp, e⟩
   rw [List.mem_filter] at hp
   obtain ⟨p1, p2⟩ := p
   have e1 : p1 = s := by simpa using hp.2
   have e2 : p2 = x := e
   subst e1; subst e2
   exact ⟨h, hp.1⟩
 . rintro ⟨h, hp⟩
   exact ⟨h, (s, x), List.mem_filter.mpr ⟨hp, by simp⟩, rfl⟩
theorem tgt_nil (n : Nat) : tgt n [] = (List.range n).map fun _ => [] := by
 unfold tgt
 refine List.map_congr_left fun s _ => ?_
 unfold edgeTo rising
 simp
theorem tgt_old {n : Nat} {ps : List (Nat × Nat)} {s t : Nat} (h : t ∈ edgeTo n ps s) : tgt n (ps ++ [(s, t)]) = tgt n ps := by
 unfold tgt
 refine List.map_congr_left fun u _ => ?_
 refine Vz (Yk _ _) (Yk _ _) fun x => ?_
 have h1 := (edgeTo_mem (n := n) (ps := ps ++ [(s, t)]) (s := u) (x := x))
 have h2 := (edgeTo_mem (n := n) (ps := ps) (s := u) (x := x))
 have h3 := edgeTo_mem.mp h
 rw [h1, h2]
 simp only [List.mem_append, List.mem_singleton, Prod.mk.injEq]
 constructor
 . rintro ⟨q, z | ⟨z1, z2⟩⟩
   . exact ⟨q, z⟩
   . subst z1; subst z2; exact ⟨q, h3.2⟩
 . rintro ⟨q, z⟩
   exact ⟨q, .inl z⟩
theorem tgt_new {n : Nat} {ps : List (Nat × Nat)} {s t : Nat} (hs : s < n) (ht : t < n) : tgt n (ps ++ [(s, t)]) = (tgt n ps).set s (rising (t :: edgeTo n ps s) n) := by
 apply List.ext_getElem?
 intro u
 by_cases hu : u < n
 . rw [tgt_get hu]
   by_cases e : u = s
   . subst e
     rw [List.getElem?_set_self (by rw [Xn]; exact hu)]
     refine congrArg some (Vz (Yk _ _) (Yk _ _) fun x => ?_)
     have h1 := (edgeTo_mem (n := n) (ps := ps ++ [(u, t)]) (s := u) (x := x))
     have h2 := (edgeTo_mem (n := n) (ps := ps) (s := u) (x := x))
     rw [rising_mem, List.mem_cons, h2]
     rw [h1]
     simp only [List.mem_append, List.mem_singleton, Prod.mk.injEq, true_and]
     constructor
     . rintro ⟨q, z | z⟩
       . exact ⟨q, .inr ⟨q, z⟩⟩
       . exact ⟨q, .inl z⟩
     . rintro ⟨q, z | ⟨_, z⟩⟩
       . exact ⟨q, .inr z⟩
       . exact ⟨q, .inl z⟩
   . rw [List.getElem?_set_ne (fun z => e z.symm), tgt_get hu]
     refine congrArg some (Vz (Yk _ _) (Yk _ _) fun x => ?_)
     have h1 := (edgeTo_mem (n := n) (ps := ps ++ [(s, t)]) (s := u) (x := x))
     have h2 := (edgeTo_mem (n := n) (ps := ps) (s := u) (x := x))
     rw [h1, h2]
     simp only [List.mem_append, List.mem_singleton, Prod.mk.injEq]
     constructor
     . rintro ⟨q, z | ⟨z, _⟩⟩
       . exact ⟨q, z⟩
       . exact absurd z e
     . rintro ⟨q, z⟩
       exact ⟨q, .inl z⟩
 . rw [List.getElem?_eq_none (by rw [Xn]; omega), List.getElem?_eq_none (by rw [List.length_set, Xn]; omega)]
theorem wf_graph {m e : List Nat} {g : Graph} (h : graphIn m e = some g) : WF g /\ g.marks = m := by
 have hs := graphIn_spec m e
 cases q : okGraph m e with
 | false =>
   rw [q] at hs
   rw [hs] at h; cases h
 | true =>
   rw [q] at hs
   obtain ⟨ps, _, _, e2⟩ := hs
   rw [e2] at h
   cases h
   unfold okGraph at q
   simp only [Bool.and_eq_true, decide_eq_true_eq, List.all_eq_true] at q
   obtain ⟨⟨⟨⟨q1, q2⟩, q3⟩, q4⟩, q5⟩ := q
   refine ⟨⟨q1, q2, Xn _ _, q4, fun l hl t ht => ?_, fun l hl => ?_⟩, rfl⟩
   . have hl : l ∈ tgt m.length ps := hl
     unfold tgt at hl
     rw [List.mem_map] at hl
     obtain ⟨s, _, e⟩ := hl
     rw [<- e] at ht
     exact (edgeTo_mem.mp ht).1
   . have hl : l ∈ tgt m.length ps := hl
     unfold tgt at hl
     rw [List.mem_map] at hl
     obtain ⟨s, _, e⟩ := hl
     rw [<- e]
     exact Yk _ _
theorem wf_set {g : Graph} (w : WF g) {s : Nat} {l : List Nat} (h1 : ∀ t ∈ l, t < g.size) (h2 : l.Pairwise (· < ·)) : WF ⟨g.marks, g.next.set s l⟩ := by
 refine ⟨w.pos, w.le, (List.length_set).trans w.len, w.marks, fun l' hl t ht => ?_, fun l' hl => ?_⟩
 . rcases List.mem_or_eq_of_mem_set hl with q | q
   . exact w.lt l' q t ht
   . subst q; exact h1 t ht
 . rcases List.mem_or_eq_of_mem_set hl with q | q
   . exact w.srt l' q
   . subst q; exact h2
theorem wf_edge {g : Graph} (w : WF g) {s : Nat} {l : List Nat} : WF ⟨g.marks, g.next.set s (rising l g.size)⟩ :=
 wf_set w (fun t ht => (rising_mem.mp ht).1) (Yk _ _)
theorem wf_cut {g : Graph} (w : WF g) {s : Nat} (hs : s < g.size) (p : Nat -> Bool) : WF ⟨g.marks, g.next.set s ((g.next.getD s []).filter p)⟩ :=
 wf_set w (fun t ht => w.lt _ (w.next_mem hs) t (List.mem_filter.mp ht).1) ((w.srt _ (w.next_mem hs)).filter _)
theorem wf_mark {g : Graph} (w : WF g) {s m : Nat} (hm : m < 256) : WF ⟨g.marks.set s m, g.next⟩ := by
 have hz : Graph.size ⟨g.marks.set s m, g.next⟩ = g.size := List.length_set
 refine ⟨by rw [hz]; exact w.pos, by rw [hz]; exact w.le, by rw [hz]; exact w.len, fun x hx => ?_, fun l hl t ht => by rw [hz]; exact w.lt l hl t ht, w.srt⟩
 rcases List.mem_or_eq_of_mem_set hx with q | q
 . exact w.marks x q
 . subst q; exact hm
theorem firstOf_length (l : List (List Nat)) : (firstOf l).length = l.length := by simp [firstOf]
theorem Qq {l : List (List Nat)} {i : Nat} {x : List Nat} (h : l[i]? = some x) : (firstOf l).getD i 0 = l.idxOf x := by
 unfold firstOf
 rw [List.getD_eq_getElem?_getD, List.getElem?_map, h]; rfl
theorem idxOf_le {l : List (List Nat)} {i : Nat} {x : List Nat} (h : l[i]? = some x) : l.idxOf x <= i := by
 induction l generalizing i with
 | nil => simp at h
 | cons y l ih =>
   rw [List.idxOf_cons]
   by_cases q : (y == x) = true
   . rw [q]; exact Nat.zero_le _
   . have q' : (y == x) = false := by simpa using q
     rw [q']
     cases i with
     | zero =>
       have e : y = x := by simpa using h
       subst e; simp at q
     | succ i => exact Nat.succ_le_succ (ih (by simpa using h))
theorem idxOf_get {l : List (List Nat)} {x : List Nat} (h : x ∈ l) : l[l.idxOf x]? = some x := by
 have hl : l.idxOf x < l.length := List.idxOf_lt_length_iff.mpr h
 rw [List.getElem?_eq_getElem hl, List.getElem_idxOf]
theorem firstOf_eq {l : List (List Nat)} {i j : Nat} {x y : List Nat} (h : l[i]? = some x) (h' : l[j]? = some y) : (firstOf l).getD i 0 = (firstOf l).getD j 0 ↔ x = y := by
 rw [Qq h, Qq h']
 constructor
 . intro e
   have e1 := idxOf_get (List.mem_of_getElem? h)
   have e2 := idxOf_get (List.mem_of_getElem? h')
   rw [e, e2] at e1
   exact (Option.some.inj e1).symm
 . intro e; rw [e]
section
variable {g : Graph}
def cls (g : Graph) (n s : Nat) : Nat := (g.parted n).getD s 0
def key (g : Graph) : Nat -> Nat -> List Nat
 | 0, s => [g.mark s]
 | n + 1, s => cls g n s :: g.goes (g.parted n) s
theorem parted_eq (n : Nat) : g.parted n = firstOf (g.all.map (key g n)) := by
 cases n <;> rfl
theorem Yp (n : Nat) : (g.parted n).length = g.size := by
 rw [parted_eq, firstOf_length]; simp [Graph.all]
theorem key_get {n s : Nat} (h : s < g.size) : (g.all.map (key g n))[s]? = some (key g n s) := by
 simp [Graph.all, h]
theorem cls_eq {n s t : Nat} (hs : s < g.size) (ht : t < g.size) : cls g n s = cls g n t ↔ key g n s = key g n t := by
 unfold cls
 rw [parted_eq]
 exact firstOf_eq (key_get hs) (key_get ht)
theorem cls_le {n s : Nat} (hs : s < g.size) : cls g n s <= s := by
 unfold cls
 rw [parted_eq, Qq (key_get hs)]
 exact idxOf_le (key_get hs)
theorem cls_lt {n s : Nat} (hs : s < g.size) : cls g n s < g.size := Nat.lt_of_le_of_lt (cls_le hs) hs
theorem cls_key {n s : Nat} (hs : s < g.size) : key g n (cls g n s) = key g n s := by
 have e : (g.all.map (key g n))[cls g n s]? = some (key g n s) := by
   have : cls g n s = (g.all.map (key g n)).idxOf (key g n s) := by
     unfold cls
     rw [parted_eq, Qq (key_get hs)]
   rw [this]
   exact idxOf_get (List.mem_of_getElem? (key_get hs))
 rw [key_get (cls_lt hs)] at e
 exact Option.some.inj e
theorem cls_idem {n s : Nat} (hs : s < g.size) : cls g n (cls g n s) = cls g n s := (cls_eq (cls_lt hs) hs).mpr (cls_key hs)
theorem cls_refine {n s t : Nat} (hs : s < g.size) (ht : t < g.size) (h : cls g (n + 1) s = cls g (n + 1) t) : cls g n s = cls g n t := by
 have e := (cls_eq hs ht).mp h
 injection e with e1 e2
theorem cls_refines {n m s t : Nat} (hs : s < g.size) (ht : t < g.size) (hm : n <= m) (h : cls g m s = cls g m t) : cls g n s = cls g n t := by
 induction m with
 | zero =>
   have e : n = 0 := by omega
   subst e; exact h
 | succ m ih =>
   by_cases q : n = m + 1
   . subst q; exact h
   . exact ih (by omega) (cls_refine hs ht h)
theorem Ux {n s : Nat} (hs : s < g.size) : (g.parted n)[s]? = some (cls g n s) := by
 unfold cls
 have hl : s < (g.parted n).length := by rw [Yp]; exact hs
 rw [List.getD_eq_getElem?_getD, List.getElem?_eq_getElem hl]; rfl
theorem parted_ext {n m : Nat} (h : ∀ s, s < g.size -> cls g n s = cls g m s) : g.parted n = g.parted m := by
 apply List.ext_getElem?
 intro s
 by_cases hs : s < g.size
 . rw [Ux hs, Ux hs, h s hs]
 . rw [List.getElem?_eq_none (by rw [Yp]; omega), List.getElem?_eq_none (by rw [Yp]; omega)]
theorem parted_next {n : Nat} (h : g.parted (n + 1) = g.parted n) : g.parted (n + 2) = g.parted (n + 1) := by
 show firstOf (g.all.map fun s => (g.parted (n + 1)).getD s 0 :: g.goes (g.parted (n + 1)) s) = firstOf (g.all.map fun s => (g.parted n).getD s 0 :: g.goes (g.parted n) s)
 rw [h]
theorem Qj {n : Nat} (h : g.parted (n + 1) = g.parted n) : ∀ m, g.parted (n + m) = g.parted n /\ g.parted (n + m + 1) = g.parted (n + m)
 | 0 => ⟨rfl, h⟩
 | m + 1 => by
   obtain ⟨h1, h2⟩ := Qj h m
   exact ⟨by rw [<- Nat.add_assoc, h2, h1], parted_next h2⟩
def reps (g : Graph) (n : Nat) : Set := g.setBy fun s => decide (cls g n s = s)
theorem reps_has {n s : Nat} (hs : s < g.size) : has (reps g n) s = decide (cls g n s = s) := Zu hs
theorem reps_le (n : Nat) : Le (reps g n) (reps g (n + 1)) := by
 intro s h
 have hs : s < g.size := by
   have := has_lt h
   unfold reps at this
   rw [Ze] at this; exact this
 rw [reps_has hs] at h ⊢
 have e := of_decide_eq_true h
 refine decide_eq_true ?_
 have h1 := cls_le (g := g) (n := n + 1) hs
 have hl := cls_lt (g := g) (n := n + 1) hs
 have h2 := cls_refine hl hs (cls_idem hs)
 have h3 := cls_le (g := g) (n := n) hl
 omega
theorem reps_grow {n : Nat} (h : g.parted (n + 1) ≠ g.parted n) : cnt (reps g n) < cnt (reps g (n + 1)) := by
 refine cnt_lt (by unfold reps; rw [Ze, Ze]) (reps_le n) fun e => h (parted_ext fun s hs => ?_)
 have hl := cls_lt (g := g) (n := n + 1) hs
 have e1 : has (reps g (n + 1)) (cls g (n + 1) s) = true := by
   rw [reps_has hl]; exact decide_eq_true (cls_idem hs)
 rw [<- e, reps_has hl] at e1
 have e2 := of_decide_eq_true e1
 rw [<- e2]
 exact cls_refine hl hs (cls_idem hs)
theorem parted_count (w : WF g) : ∀ k, (∀ j, j < k -> g.parted (j + 1) ≠ g.parted j) -> k + 1 <= cnt (reps g k)
 | 0, _ => by
   have h0 : has (reps g 0) 0 = true := by
     rw [reps_has w.pos]
     have := cls_le (g := g) (n := 0) w.pos
     exact decide_eq_true (by omega)
   have : (reps g 0) ≠ [] := fun e => by rw [e] at h0; cases h0
   unfold cnt
   have hm : true ∈ (reps g 0).filter id := by
     rw [List.mem_filter]
     refine ⟨?_, rfl⟩
     have := Yz (has_lt h0)
     rw [h0] at this
     exact List.mem_of_getElem? this
   have := List.length_pos_of_mem hm
   omega
 | k + 1, h => by
   have ih := parted_count w k fun j hj => h j (by omega)
   have := reps_grow (h k (by omega))
   omega
theorem parted_rest (w : WF g) : ∃ j, j + 1 <= g.size /\ g.parted (j + 1) = g.parted j := by
 refine Classical.byContradiction fun q => ?_
 have := parted_count w g.size fun j hj e => q ⟨j, by omega, e⟩
 have h2 := cnt_le (reps g g.size)
 have h3 : (reps g g.size).length = g.size := Ze _ _
 omega
theorem parted_fin (w : WF g) {k : Nat} (h : g.parted (k + 1) = g.parted k) : g.parted k = g.alike := by
 obtain ⟨j, hj, e⟩ := parted_rest w
 have e1 := (Qj e (g.size - j)).1
 have e2 : j + (g.size - j) = g.size := by omega
 rw [e2] at e1
 show g.parted k = g.parted g.size
 rcases Nat.le_total k j with q | q
 . have := (Qj h (j - k)).1
   have e3 : k + (j - k) = j := by omega
   rw [e3] at this
   rw [e1, this]
 . have := (Qj e (k - j)).1
   have e3 : j + (k - j) = k := by omega
   rw [e3] at this
   rw [e1, this]
theorem goes_mem {n s c : Nat} (w : WF g) (hs : s < g.size) : c ∈ g.goes (g.parted n) s ↔ ∃ t ∈ g.on s, cls g n t = c := by
 unfold Graph.goes
 rw [rising_mem, List.mem_map]
 constructor
 . rintro ⟨_, t, ht, e⟩
   exact ⟨t, ht, e⟩
 . rintro ⟨t, ht, e⟩
   refine ⟨?_, t, ht, e⟩
   rw [<- e]
   exact cls_lt (w.on_lt hs t ht)
theorem andAll_length : ∀ (l : List (List Nat)), l ≠ [] -> (andAll l).length = (l.map (·.length)).foldr (fun x y => x + y) 0 + (l.length - 1)
 | [], h => absurd rfl h
 | [f], _ => by simp [andAll]
 | f :: h :: r, _ => by
   have ih := andAll_length (h :: r) (by simp)
   show (3 :: (f ++ andAll (h :: r))).length = _
   rw [List.length_cons, List.length_append, ih]
   simp only [List.map_cons, List.foldr_cons, List.length_cons]
   omega
def lenOf (g : Graph) (n s t : Nat) : Nat := ((g.lengths n).getD s []).getD t 0
theorem getD_all {α : Type} {n s : Nat} {f : Nat -> α} {d : α} (hs : s < n) : ((List.range n).map f).getD s d = f s := by
 rw [List.getD_eq_getElem?_getD, List.getElem?_map]
 simp [hs]
theorem lengths_eq (w : WF g) : ∀ (n s t : Nat), s < g.size -> t < g.size -> lenOf g n s t = (g.tells n s t).length
 | 0, s, t, hs, ht => by
   show (((List.range g.size).map fun s => (List.range g.size).map fun t => (g.markTells s t).length).getD s []).getD t 0 = _
   rw [getD_all hs, getD_all ht]; rfl
 | n + 1, s, t, hs, ht => by
   have ih := lengths_eq w n
   have each : ∀ u ts, u < g.size -> ts ≠ [] -> (∀ v ∈ ts, v < g.size) -> (ts.map fun v => ((g.lengths n).getD u []).getD v 0).foldr (fun x y => x + y) 0 + (ts.length - 1) = (andAll (ts.map fun v => g.tells n u v)).length := fun u ts hu hne hl => by
     rw [andAll_length _ (by simpa using hne), List.map_map, List.length_map]
     have e : ts.map (fun v => ((g.lengths n).getD u []).getD v 0) = ts.map ((fun x => x.length) ∘ fun v => g.tells n u v) := List.map_congr_left fun v hv => ih u v hu (hl v hv)
     rw [e]
   unfold lenOf Graph.lengths
   dsimp only
   show (((List.range g.size).map _).getD s []).getD t 0 = _
   rw [getD_all hs]
   show ((List.range g.size).map _).getD t 0 = _
   rw [getD_all ht]
   unfold Graph.tells
   split
   . exact ih s t hs ht
   . cases e1 : g.unmatched (g.parted n) s t with
     | some u =>
       have hu := w.on_lt hs u (List.mem_of_find?_eq_some e1)
       show 1 + _ = (5 :: _).length
       rw [each u _ hu (on_ne _ _) (w.on_lt ht), List.length_cons]; omega
     | none =>
       cases e2 : g.unmatched (g.parted n) t s with
       | some u =>
         have hu := w.on_lt ht u (List.mem_of_find?_eq_some e2)
         show 2 + _ = (2 :: 5 :: _).length
         rw [each u _ hu (on_ne _ _) (w.on_lt hs), List.length_cons, List.length_cons]; omega
       | none => rfl
theorem partedIn_some {s t n : Nat} (h : g.partedIn s t = some n) : n <= g.size /\ cls g n s ≠ cls g n t /\ ∀ j, j < n -> cls g j s = cls g j t := by
 obtain ⟨h1, h2, h3⟩ := Xt h
 refine ⟨by omega, by simpa [cls] using h2, fun j hj => by simpa [cls] using h3 j hj⟩
theorem partedIn_none {s t : Nat} (h : g.partedIn s t = none) : ∀ j, j <= g.size -> cls g j s = cls g j t := fun j hj => by
 have := Xl h j (by omega)
 simpa [cls] using this
theorem tells_old {n s t : Nat} (h : cls g n s ≠ cls g n t) : g.tells (n + 1) s t = g.tells n s t := by
 show (if (g.parted n).getD s 0 ≠ (g.parted n).getD t 0 then g.tells n s t else _) = _
 exact if_pos (show (g.parted n).getD s 0 ≠ (g.parted n).getD t 0 from h)
theorem tells_past {n s t : Nat} (hs : s < g.size) (ht : t < g.size) (h : cls g n s ≠ cls g n t) : ∀ m, g.tells (n + m) s t = g.tells n s t
 | 0 => rfl
 | m + 1 => by
   show g.tells (n + m + 1) s t = _
   rw [tells_old fun e => h (cls_refines hs ht (Nat.le_add_right n m) e), tells_past hs ht h m]
end
theorem sorted_once {l' l : List Nat} {n : Nat} (hl : ∀ x ∈ l, x < n) (hm : ∀ x, x ∈ l' ↔ x ∈ l) (hn : l'.Nodup) (ho : l'.Pairwise (· <= ·)) : l' = rising l n := by
 have hs : l'.Pairwise (· < ·) := by
   have h2 : l'.Pairwise (fun a b => a <= b /\ a ≠ b) := by
     rw [List.pairwise_and_iff]
     exact ⟨ho, hn⟩
   exact h2.imp fun h => Nat.lt_of_le_of_ne h.1 h.2
 refine Vz hs (Yk _ _) fun x => ?_
 rw [rising_mem, hm]
 exact ⟨fun h => ⟨hl x h, h⟩, fun h => h.2⟩
theorem idxOf_single : ∀ (ns : List Nat) (m : Nat), (ns.map fun n => [n]).idxOf [m] = ns.idxOf m
 | [], m => rfl
 | n :: ns, m => by
   rw [List.map_cons, List.idxOf_cons, List.idxOf_cons, idxOf_single ns m]
   by_cases q : n = m
   . subst q; simp
   . have h1 : ([n] == [m]) = false := by simpa using q
     have h2 : (n == m) = false := by simpa using q
     rw [h1, h2]
theorem firstOf_single (ns : List Nat) : firstOf (ns.map fun n => [n]) = ns.map fun m => ns.idxOf m := by
 unfold firstOf
 rw [List.map_map]
 exact List.map_congr_left fun m _ => idxOf_single ns m
section
variable {g : Graph}
theorem marks_all : g.all.map g.mark = g.marks := by
 apply List.ext_getElem?
 intro i
 unfold Graph.all
 rw [List.getElem?_map]
 by_cases h : i < g.size
 . rw [List.getElem?_range h]
   have e : g.marks[i]? = some g.marks[i] := List.getElem?_eq_getElem h
   rw [e]
   show some (g.marks.getD i 0) = _
   rw [List.getD_eq_getElem?_getD, e]; rfl
 . rw [List.getElem?_eq_none (by rw [List.length_range]; omega), List.getElem?_eq_none (show g.marks.length <= i by unfold Graph.size at h; omega)]; rfl
theorem parted_zero : g.parted 0 = g.marks.map fun m => g.marks.idxOf m := by
 show firstOf (g.all.map fun s => [g.mark s]) = _
 rw [<- firstOf_single, <- marks_all, List.map_map]
 rfl
def signs (g : Graph) (n : Nat) : List (List Nat) := g.all.map fun s => cls g n s :: g.goes (g.parted n) s
theorem rounds_go (w : WF g) {k : Nat} (h : ∀ j, j < k -> g.parted (j + 1) ≠ g.parted j) : k + 1 <= g.size := by
 obtain ⟨j, hj, e⟩ := parted_rest w
 rcases Nat.lt_or_ge j k with q | q
 . exact absurd e (h j q)
 . omega
theorem alike_cls (w : WF g) {k : Nat} (h : g.parted (k + 1) = g.parted k) (s : Nat) : cls g k s = g.alike.getD s 0 := by
 unfold cls
 rw [parted_fin w h]
theorem Uc : g.alike.length = g.size := Yp _
theorem alike_get {s : Nat} (hs : s < g.size) : g.alike[s]? = some (cls g g.size s) := Ux hs
theorem classes_mem {s : Nat} : s ∈ g.classes ↔ s < g.size /\ cls g g.size s = s := by
 unfold Graph.classes Graph.all
 rw [List.mem_filter, List.mem_range]
 exact ⟨fun h => ⟨h.1, by simpa [cls, Graph.alike] using h.2⟩, fun h => ⟨h.1, by simpa [cls, Graph.alike] using h.2⟩⟩
theorem classes_srt : g.classes.Pairwise (· < ·) := List.Pairwise.filter _ List.pairwise_lt_range
theorem alike_mem {c : Nat} : c ∈ g.alike ↔ c ∈ g.classes := by
 rw [classes_mem]
 constructor
 . intro h
   obtain ⟨s, hs⟩ := List.mem_iff_getElem?.mp h
   have hl : s < g.size := by rw [<- Uc (g := g)]; exact (List.getElem?_eq_some_iff.mp hs).1
   rw [alike_get hl] at hs
   cases hs
   exact ⟨cls_lt hl, cls_idem hl⟩
 . rintro ⟨h1, h2⟩
   have := alike_get (g := g) h1
   rw [h2] at this
   exact List.mem_of_getElem? this
theorem classes_rising : rising g.alike g.size = g.classes := Vz (Yk _ _) classes_srt fun x => by
 rw [rising_mem, alike_mem]
 exact ⟨fun h => h.2, fun h => ⟨(classes_mem.mp h).1, h⟩⟩
theorem classes_le : g.classes.length <= g.size := by
 unfold Graph.classes Graph.all
 exact Nat.le_trans (List.length_filter_le _ _) (by rw [List.length_range]; exact Nat.le_refl _)
theorem idxOf_nat {l : List Nat} {x : Nat} (h : x ∈ l) : l[l.idxOf x]? = some x := by
 have hl : l.idxOf x < l.length := List.idxOf_lt_length_iff.mpr h
 rw [List.getElem?_eq_getElem hl, List.getElem_idxOf]
theorem srt_get {l : List Nat} (h : l.Pairwise (· < ·)) {i j a b : Nat} (ha : l[i]? = some a) (hb : l[j]? = some b) : a < b ↔ i < j := by
 obtain ⟨h1, e1⟩ := List.getElem?_eq_some_iff.mp ha
 obtain ⟨h2, e2⟩ := List.getElem?_eq_some_iff.mp hb
 rcases Nat.lt_trichotomy i j with q | q | q
 . have := List.pairwise_iff_getElem.mp h i j h1 h2 q
   rw [e1, e2] at this
   exact ⟨fun _ => q, fun _ => this⟩
 . subst q
   rw [e1] at e2
   constructor <;> (intro z; omega)
 . have := List.pairwise_iff_getElem.mp h j i h2 h1 q
   rw [e1, e2] at this
   constructor <;> (intro z; omega)
theorem idxOf_srt {l : List Nat} (h : l.Pairwise (· < ·)) : ∀ {m : List Nat}, m.Pairwise (· < ·) -> (∀ x ∈ m, x ∈ l) -> (m.map fun x => l.idxOf x).Pairwise (· < ·)
 | [], _, _ => .nil
 | x :: m, hm, hi => by
   obtain ⟨h1, h2⟩ := List.pairwise_cons.mp hm
   rw [List.map_cons]
   refine List.pairwise_cons.mpr ⟨fun b hb => ?_, idxOf_srt h h2 fun y hy => hi y (List.mem_cons_of_mem _ hy)⟩
   obtain ⟨y, hy, rfl⟩ := List.mem_map.mp hb
   exact (srt_get h (idxOf_nat (hi x List.mem_cons_self)) (idxOf_nat (hi y (List.mem_cons_of_mem _ hy)))).mp (h1 y hy)
theorem small_next (w : WF g) {s : Nat} (hs : s < g.size) : ((g.goes g.alike s).map fun c => g.classes.idxOf c) = rising ((g.on s).map fun t => g.classes.idxOf (g.alike.getD t 0)) g.classes.length := by
 have hin : ∀ c ∈ g.goes g.alike s, c ∈ g.classes := fun c hc => by
   obtain ⟨t, ht, e⟩ := (goes_mem (n := g.size) w hs).mp hc
   have htl := w.on_lt hs t ht
   rw [<- e]
   exact classes_mem.mpr ⟨cls_lt htl, cls_idem htl⟩
 have hgs : (g.goes g.alike s).Pairwise (· < ·) := Yk _ _
 refine Vz (idxOf_srt classes_srt hgs hin) (Yk _ _) fun x => ?_
 rw [rising_mem, List.mem_map, List.mem_map]
 constructor
 . rintro ⟨c, hc, rfl⟩
   refine ⟨List.idxOf_lt_length_iff.mpr (hin c hc), ?_⟩
   obtain ⟨t, ht, e⟩ := (goes_mem (n := g.size) w hs).mp hc
   exact ⟨t, ht, by rw [<- e]; rfl⟩
 . rintro ⟨_, t, ht, rfl⟩
   exact ⟨g.alike.getD t 0, (goes_mem (n := g.size) w hs).mpr ⟨t, ht, rfl⟩, rfl⟩
theorem small_eq (w : WF g) : g.small = ⟨g.classes.map g.mark, g.classes.map fun s => (g.goes g.alike s).map fun c => g.classes.idxOf c⟩ := by
 unfold Graph.small
 dsimp only
 congr 1
 exact List.map_congr_left fun s hs => (small_next w (classes_mem.mp hs).1).symm
theorem unmatched_filter (k : Classes) (s t : Nat) : g.unmatched k s t = ((g.on s).filter fun u => !decide (k.getD u 0 ∈ (g.on t).map fun v => k.getD v 0)).head? := by
 unfold Graph.unmatched
 rw [<- List.head?_filter]
 congr 1
 apply List.filter_congr
 intro u _
 rw [Bool.eq_iff_iff]
 simp only [List.all_eq_true, bne_iff_ne, ne_eq, Bool.not_eq_true', decide_eq_false_iff_not, List.mem_map, not_exists, not_and]
theorem unmatched_one (w : WF g) {n s t : Nat} (hs : s < g.size) (ht : t < g.size) (h0 : cls g n s = cls g n t) (h1 : cls g (n + 1) s ≠ cls g (n + 1) t) (h2 : g.unmatched (g.parted n) s t = none) : ∃ u, g.unmatched (g.parted n) t s = some u := by
 cases e : g.unmatched (g.parted n) t s with
 | some u => exact ⟨u, rfl⟩
 | none =>
   refine absurd ((cls_eq hs ht).mpr ?_) h1
   show cls g n s :: g.goes (g.parted n) s = cls g n t :: g.goes (g.parted n) t
   have half : ∀ {a b : Nat}, a < g.size -> g.unmatched (g.parted n) a b = none -> ∀ u ∈ g.on a, ∃ v ∈ g.on b, cls g n v = cls g n u := fun {a b} ha hn u hu => by
     have := List.find?_eq_none.mp hn u hu
     simp only [List.all_eq_true, bne_iff_ne, ne_eq] at this
     exact Classical.byContradiction fun z => this fun v hv e => z ⟨v, hv, e⟩
   have eg : g.goes (g.parted n) s = g.goes (g.parted n) t := Vz (Yk _ _) (Yk _ _) fun c => by
     show c ∈ g.goes (g.parted n) s ↔ c ∈ g.goes (g.parted n) t
     rw [goes_mem w hs, goes_mem w ht]
     constructor
     . rintro ⟨u, hu, rfl⟩
       obtain ⟨v, hv, hvu⟩ := half hs h2 u hu
       exact ⟨v, hv, hvu⟩
     . rintro ⟨u, hu, rfl⟩
       obtain ⟨v, hv, hvu⟩ := half ht e u hu
       exact ⟨v, hv, hvu⟩
   rw [h0, eg]
theorem unmatched_some {n s t u : Nat} (h : g.unmatched (g.parted n) s t = some u) : u ∈ g.on s /\ ∀ v ∈ g.on t, cls g n u ≠ cls g n v := by
 refine ⟨List.mem_of_find?_eq_some h, fun v hv e => ?_⟩
 have := List.find?_some h
 rw [List.all_eq_true] at this
 have := this v hv
 exact absurd e.symm (by simpa [cls] using this)
theorem tells_left {n s t u : Nat} (h0 : cls g n s = cls g n t) (h : g.unmatched (g.parted n) s t = some u) : g.tells (n + 1) s t = 5 :: andAll ((g.on t).map fun v => g.tells n u v) := by
 show (if (g.parted n).getD s 0 ≠ (g.parted n).getD t 0 then _ else _) = _
 rw [if_neg (fun z => z h0), h]
theorem tells_right {n s t u : Nat} (h0 : cls g n s = cls g n t) (h : g.unmatched (g.parted n) s t = none) (h' : g.unmatched (g.parted n) t s = some u) : g.tells (n + 1) s t = 2 :: 5 :: andAll ((g.on s).map fun v => g.tells n u v) := by
 show (if (g.parted n).getD s 0 ≠ (g.parted n).getD t 0 then _ else _) = _
 rw [if_neg (fun z => z h0), h, h']
theorem marks_differ {a b : Nat} (ha : a < 256) (hb : b < 256) (h : a ≠ b) : ∃ m, (List.range 8).find? (fun m => a.testBit m != b.testBit m) = some m /\ m < 8 /\ a.testBit m ≠ b.testBit m /\ ∀ j, j < m -> a.testBit j = b.testBit j := by
 cases e : (List.range 8).find? (fun m => a.testBit m != b.testBit m) with
 | some m =>
   obtain ⟨h1, h2, h3⟩ := Xt e
   exact ⟨m, rfl, h1, by simpa using h2, fun j hj => by simpa using h3 j hj⟩
 | none =>
   refine absurd (Nat.eq_of_testBit_eq fun i => ?_) h
   by_cases q : i < 8
   . have := Xl e i q
     simpa using this
   . have h1 : a < 2 ^ i := Nat.lt_of_lt_of_le ha (by
       have : 2 ^ 8 <= 2 ^ i := Nat.pow_le_pow_right (by decide) (by omega)
       simpa using this)
     have h2 : b < 2 ^ i := Nat.lt_of_lt_of_le hb (by
       have : 2 ^ 8 <= 2 ^ i := Nat.pow_le_pow_right (by decide) (by omega)
       simpa using this)
     rw [Nat.testBit_lt_two_pow h1, Nat.testBit_lt_two_pow h2]
def pairsOf (n : Nat) (k : Classes) : List (Nat × Nat) := (List.range n).flatMap fun s => ((List.range n).filter fun t => k.getD s 0 != k.getD t 0).map fun t => (s, t)
theorem pairsOf_mem {n : Nat} {k : Classes} {s t : Nat} : (s, t) ∈ pairsOf n k ↔ s < n /\ t < n /\ k.getD s 0 ≠ k.getD t 0 := by
 unfold pairsOf
 simp only [List.mem_flatMap, List.mem_range, List.mem_map, List.mem_filter, Prod.mk.injEq, bne_iff_ne, ne_eq]
 constructor
 . rintro ⟨a, ha, b, ⟨hb, hne⟩, rfl, rfl⟩
   exact ⟨ha, hb, hne⟩
 . rintro ⟨h1, h2, h3⟩
   exact ⟨s, h1, t, ⟨h2, h3⟩, rfl, rfl⟩
theorem zero_marks {s t : Nat} (hs : s < g.size) (ht : t < g.size) : cls g 0 s = cls g 0 t ↔ g.mark s = g.mark t := by
 rw [cls_eq hs ht]
 show [g.mark s] = [g.mark t] ↔ _
 constructor
 . intro h; exact List.cons.inj h |>.1
 . intro h; rw [h]
theorem andAll_cons {f : List Nat} {r : List (List Nat)} (h : r ≠ []) : andAll (f :: r) = 3 :: (f ++ andAll r) := by
 cases r with
 | nil => exact absurd rfl h
 | cons x r => rfl
def joinTo (ls : List (List Nat)) (i : Nat) : List Nat := (List.range i).flatMap fun k => (if k < ls.length - 1 then [3] else []) ++ ls.getD k []
theorem Vs (ls : List (List Nat)) (i : Nat) : joinTo ls (i + 1) = joinTo ls i ++ ((if i < ls.length - 1 then [3] else []) ++ ls.getD i []) := by
 unfold joinTo
 rw [List.range_succ, List.flatMap_append, List.flatMap_cons, List.flatMap_nil, List.append_nil]
theorem flatMap_succ {f : Nat -> List Nat} : ∀ n, (List.range (n + 1)).flatMap f = f 0 ++ (List.range n).flatMap fun k => f (k + 1) := fun n => by
 rw [List.range_succ_eq_map, List.flatMap_cons, List.flatMap_map]
theorem joinTo_all : ∀ {ls : List (List Nat)}, ls ≠ [] -> joinTo ls ls.length = andAll ls
 | [], h => absurd rfl h
 | [f], _ => by
   show joinTo [f] 1 = f
   rw [Vs]
   rfl
 | f :: h :: r, _ => by
   have ih := joinTo_all (ls := h :: r) (by simp)
   rw [andAll_cons (by simp), <- ih]
   unfold joinTo
   rw [List.length_cons (a := f), flatMap_succ]
   have e0 : ((if 0 < (f :: h :: r).length - 1 then [3] else []) ++ (f :: h :: r).getD 0 [] : List Nat) = 3 :: f := by
     rw [if_pos (by simp)]; rfl
   have e1 : ∀ k, ((if k + 1 < (f :: h :: r).length - 1 then [3] else []) ++ (f :: h :: r).getD (k + 1) [] : List Nat) = (if k < (h :: r).length - 1 then [3] else []) ++ (h :: r).getD k [] := fun k => by
     have e2 : (k + 1 < (f :: h :: r).length - 1) = (k < (h :: r).length - 1) := by
       simp only [List.length_cons]
       apply propext
       omega
     simp only [e2]
     rfl
   simp only [List.length_cons, Nat.add_sub_cancel] at e0 e1 ⊢
   rw [show (fun k => (if k + 1 < r.length + 1 then [3] else []) ++ (f :: h :: r).getD (k + 1) [] : Nat -> List Nat) = fun k => (if k < r.length then [3] else []) ++ (h :: r).getD k [] from funext e1]
   rw [e0]; rfl
theorem joinTo_len {ls : List (List Nat)} {i j : Nat} (h : i <= j) : (joinTo ls i).length <= (joinTo ls j).length := by
 induction j with
 | zero =>
   have : i = 0 := by omega
   subst this; exact Nat.le_refl _
 | succ j ih =>
   by_cases q : i = j + 1
   . subst q; exact Nat.le_refl _
   . have := ih (by omega)
     rw [Vs, List.length_append]; omega
end
end WM
end
section
set_option Elab.async false
set_option linter.all false
set_option maxRecDepth 100000
set_option maxHeartbeats 2000000
namespace Wy
open PySem PySem.Spec PyProof.Rows L2
open Ways (Graph Form)
open PySem.W (Codec)
open WM (WF backRun behindN cls hRun joinTo okGraph one pairsOf partAt partsOf scan stepBack stepsTo tgt width)
def top (i : Nat) : Stmt := PySem.Challenge.pw_somewayall_s01_answers.main.body.getD i (.Pass ⟨0, 0, 0, 0⟩)
abbrev s_Graph_init : Stmt := inClass (top 3) 0
theorem sc_Graph_init : FnScope ["self", "marks", "targets"] ["self", "marks", "targets"] (Zf s_Graph_init) := .k
abbrev s_is_graph : Stmt := top 4
theorem sc_is_graph : FnScope ["marks", "ends", "count", "number", "s"] ["marks", "ends"] (Zf s_is_graph) := .k
abbrev s_are_marks : Stmt := top 5
theorem sc_are_marks : FnScope ["number"] ["number"] (Zf s_are_marks) := .k
abbrev s_has_mark : Stmt := top 6
theorem sc_has_mark : FnScope ["marks", "mark"] ["marks", "mark"] (Zf s_has_mark) := .k
abbrev s_graph_of : Stmt := top 7
theorem sc_graph_of : FnScope ["marks", "ends", "graph", "number", "k"] ["marks", "ends"] (Zf s_graph_of) := .k
abbrev s_has_state : Stmt := top 8
theorem sc_has_state : FnScope ["graph", "s"] ["graph", "s"] (Zf s_has_state) := .k
abbrev s_has_states : Stmt := top 9
theorem sc_has_states : FnScope ["graph", "s", "t"] ["graph", "s", "t"] (Zf s_has_states) := .k
abbrev s_has_edge : Stmt := top 10
theorem sc_has_edge : FnScope ["graph", "s", "t"] ["graph", "s", "t"] (Zf s_has_edge) := .k
abbrev s_add_edge : Stmt := top 11
theorem sc_add_edge : FnScope ["graph", "s", "t"] ["graph", "s", "t"] (Zf s_add_edge) := .k
abbrev s_cut_edge : Stmt := top 12
theorem sc_cut_edge : FnScope ["graph", "s", "t", "u"] ["graph", "s", "t"] (Zf s_cut_edge) := .k
abbrev s_ends_of : Stmt := top 13
theorem sc_ends_of : FnScope ["graph", "ends", "s", "targets", "t"] ["graph"] (Zf s_ends_of) := .k
abbrev s_ways_on : Stmt := top 14
theorem sc_ways_on : FnScope ["graph", "s", "targets"] ["graph"] (Zf s_ways_on) := .k
abbrev s_rounds_of : Stmt := top 16
theorem sc_rounds_of : FnScope ["graph", "onward", "rounds", "further"] ["graph"] (Zf s_rounds_of) := .k
abbrev Vj : Stmt := top 17
theorem sc_parted_further : FnScope ["onward", "classes", "s", "targets"] ["onward", "classes"] (Zf Vj) := .k
abbrev s_classes_by : Stmt := top 18
theorem sc_classes_by : FnScope ["signs", "sign"] ["signs"] (Zf s_classes_by) := .k
abbrev Vw : Stmt := top 19
theorem sc_classes_among : FnScope ["states", "classes", "s"] ["states", "classes"] (Zf Vw) := .k
abbrev s_classes_of : Stmt := top 20
theorem sc_classes_of : FnScope ["graph"] ["graph"] (Zf s_classes_of) := .k
abbrev Xq : Stmt := top 21
theorem sc_graph_of_classes : FnScope ["graph", "onward", "classes", "leasts", "targets", "s", "least"] ["graph"] (Zf Xq) := .k
abbrev s_parts_of : Stmt := top 38
theorem sc_parts_of : FnScope ["numbers", "parts", "at", "due", "part"] ["numbers"] (Zf s_parts_of) := .k
abbrev s_part_at : Stmt := top 39
theorem sc_part_at : FnScope ["numbers", "at"] ["numbers", "at"] (Zf s_part_at) := .k
abbrev Xp : Stmt := top 41
theorem sc_where_each_holds : FnScope ["graph", "parts", "found", "number", "mark", "behind", "k"] ["graph", "parts"] (Zf Xp) := .k
abbrev Xz : Stmt := top 42
theorem sc_where_one_holds : FnScope ["graph", "number", "mark", "behind", "marks", "f", "h"] ["graph", "number", "mark", "behind"] (Zf Xz) := .k
abbrev Vh : Stmt := top 43
theorem sc_where_ways_are : FnScope ["onward", "number", "behind", "f"] ["onward", "number", "behind"] (Zf Vh) := .k
abbrev s_everywhere : Stmt := top 44
theorem sc_everywhere : FnScope ["states", "state"] ["states"] (Zf s_everywhere) := .k
abbrev s_negated : Stmt := top 45
theorem sc_negated : FnScope ["held", "here"] ["held"] (Zf s_negated) := .k
abbrev s_some_next : Stmt := top 46
theorem sc_some_next : FnScope ["onward", "held", "t", "targets"] ["onward", "held"] (Zf s_some_next) := .k
abbrev s_all_next : Stmt := top 47
theorem sc_all_next : FnScope ["onward", "held", "t", "targets"] ["onward", "held"] (Zf s_all_next) := .k
abbrev s_until : Stmt := top 48
theorem sc_until : FnScope ["step", "onward", "before", "goal", "reached", "wider"] ["step", "onward", "before", "goal"] (Zf s_until) := .k
abbrev Uk : Stmt := top 49
theorem sc_taken_in : FnScope ["step", "onward", "before", "reached", "ahead", "s"] ["step", "onward", "before", "reached"] (Zf Uk) := .k
abbrev s_what_tells : Stmt := top 52
theorem sc_what_tells : FnScope ["graph", "s", "t", "onward", "rounds", "found", "pair", "number"] ["graph", "s", "t"] (Zf s_what_tells) := .k
abbrev Um : Stmt := top 53
theorem sc_parted_pairs : FnScope ["classes", "pairs", "s", "t"] ["classes"] (Zf Um) := .k
abbrev Vv : Stmt := top 54
theorem sc_told_by_marks : FnScope ["here", "there", "mark", "m"] ["here", "there"] (Zf Vv) := .k
abbrev Ui : Stmt := top 55
theorem sc_told_by_next : FnScope ["onward", "classes", "found", "pair", "s", "t", "only", "v"] ["onward", "classes", "found", "pair"] (Zf Ui) := .k
abbrev Uj : Stmt := top 56
theorem sc_those_beyond : FnScope ["states", "others", "classes", "beside", "v", "u"] ["states", "others", "classes"] (Zf Uj) := .k
abbrev s_behind : Stmt := top 57
theorem sc_behind : FnScope ["head", "told", "row", "k", "each"] ["head", "told"] (Zf s_behind) := .k
abbrev Uq : Stmt := top 60
theorem sc_can_be_shown : FnScope ["parts"] ["parts"] (Zf Uq) := .k
abbrev Vi : Stmt := top 61
theorem sc_way_that_shows : FnScope ["graph", "s", "parts", "onward", "number", "behind"] ["graph", "s", "parts"] (Zf Vi) := .k
abbrev s_least_next : Stmt := top 62
theorem sc_least_next : FnScope ["onward", "s", "held", "t"] ["onward", "s", "held"] (Zf s_least_next) := .k
abbrev Qu : Stmt := top 63
theorem sc_way_kept_up : FnScope ["onward", "s", "held", "way", "t"] ["onward", "s", "held"] (Zf Qu) := .k
abbrev Ul : Stmt := top 64
theorem sc_shortest_way : FnScope ["onward", "s", "before", "goal", "steps", "way", "left", "nearer", "t"] ["onward", "s", "before", "goal"] (Zf Ul) := .k
abbrev Uo : Stmt := top 65
theorem sc_fewest_steps : FnScope ["graph", "s", "parts", "onward"] ["graph", "s", "parts"] (Zf Uo) := .k
abbrev s_steps_to : Stmt := top 66
theorem sc_steps_to : FnScope ["onward", "before", "goal", "steps", "here", "taken", "ahead", "number", "s"] ["onward", "before", "goal"] (Zf s_steps_to) := .k
abbrev s_Desk_init : Stmt := inClass (top 84) 0
theorem sc_Desk_init : FnScope ["self"] ["self"] (Zf s_Desk_init) := .k
abbrev s_answer_call : Stmt := top 85
theorem sc_answer_call : FnScope ["desk", "call", "numbers", "rows"] ["desk", "call", "numbers", "rows"] (Zf s_answer_call) := .k
abbrev Uu : Stmt := top 86
theorem sc_answer_graph : FnScope ["desk", "marks", "ends"] ["desk", "marks", "ends"] (Zf Uu) := .k
abbrev Qx : Stmt := top 87
theorem sc_answer_edge : FnScope ["graph", "s", "t"] ["graph", "s", "t"] (Zf Qx) := .k
abbrev s_answer_cut : Stmt := top 88
theorem sc_answer_cut : FnScope ["graph", "s", "t"] ["graph", "s", "t"] (Zf s_answer_cut) := .k
abbrev Qw : Stmt := top 89
theorem sc_answer_mark : FnScope ["graph", "s", "marks", "before"] ["graph", "s", "marks"] (Zf Qw) := .k
abbrev Ut : Stmt := top 90
theorem sc_answer_holds : FnScope ["graph", "formula", "parts", "held", "s", "here"] ["graph", "formula"] (Zf Ut) := .k
abbrev Us : Stmt := top 91
theorem sc_answer_shows : FnScope ["graph", "s", "formula", "parts"] ["graph", "s", "formula"] (Zf Us) := .k
abbrev s_answer_far : Stmt := top 92
theorem sc_answer_far : FnScope ["graph", "s", "formula", "parts", "steps"] ["graph", "s", "formula"] (Zf s_answer_far) := .k
abbrev Uv : Stmt := top 93
theorem sc_answer_alike : FnScope ["graph", "classes"] ["graph"] (Zf Uv) := .k
abbrev Ur : Stmt := top 94
theorem sc_answer_tells : FnScope ["graph", "s", "t", "classes", "told"] ["graph", "s", "t"] (Zf Ur) := .k
abbrev s_told_graph : Stmt := top 95
theorem sc_told_graph : FnScope ["graph"] ["graph"] (Zf s_told_graph) := .k
abbrev s_counted : Stmt := top 96
theorem sc_counted : FnScope ["row"] ["row"] (Zf s_counted) := .k
abbrev Qt : Stmt := top 97
theorem sc_with_length : FnScope ["row"] ["row"] (Zf Qt) := .k
abbrev s_Reader_init : Stmt := inClass (top 100) 0
theorem sc_Reader_init : FnScope ["self", "numbers"] ["self", "numbers"] (Zf s_Reader_init) := .k
abbrev Vk : Stmt := inClass (top 100) 1
theorem sc_Reader_is_done : FnScope ["self"] ["self"] (Zf Vk) := .k
abbrev s_Reader_take : Stmt := inClass (top 100) 2
theorem sc_Reader_take : FnScope ["self", "many", "taken"] ["self", "many"] (Zf s_Reader_take) := .k
abbrev Va : Stmt := inClass (top 100) 3
theorem sc_Reader_take_row : FnScope ["self", "ahead"] ["self"] (Zf Va) := .k
abbrev s_answers : Stmt := top 101
theorem sc_answers : FnScope ["calls", "reader", "desk", "answered", "answer"] ["calls"] (Zf s_answers) := .k
abbrev Qv : Stmt := top 102
theorem sc_answer_next : FnScope ["reader", "desk", "call", "form", "numbers", "rows", "k"] ["reader", "desk"] (Zf Qv) := .k
structure Txt (K : PySem.W.Frag) (mg : Str -> Option Value) : Prop where
 gMOST_STATES : ∃ t, mg "MOST_STATES" = some (.int 12 t)
 gMARKS_END : ∃ t, mg "MARKS_END" = some (.int 256 t)
 gALWAYS : ∃ t, mg "ALWAYS" = some (.int 0 t)
 gMARKED : ∃ t, mg "MARKED" = some (.int 1 t)
 gNOT : ∃ t, mg "NOT" = some (.int 2 t)
 gBOTH : ∃ t, mg "BOTH" = some (.int 3 t)
 gEITHER : ∃ t, mg "EITHER" = some (.int 4 t)
 gSOME_NEXT : ∃ t, mg "SOME_NEXT" = some (.int 5 t)
 gALL_NEXT : ∃ t, mg "ALL_NEXT" = some (.int 6 t)
 gSOME_KEEPS : ∃ t, mg "SOME_KEEPS" = some (.int 7 t)
 gALL_KEEP : ∃ t, mg "ALL_KEEP" = some (.int 8 t)
 gSOME_COMES : ∃ t, mg "SOME_COMES" = some (.int 9 t)
 gALL_COME : ∃ t, mg "ALL_COME" = some (.int 10 t)
 gSOME_UNTIL : ∃ t, mg "SOME_UNTIL" = some (.int 11 t)
 gLONGEST : ∃ t, mg "LONGEST" = some (.int 64 t)
 gMARKS_IN_ALL : ∃ t, mg "MARKS_IN_ALL" = some (.int 8 t)
 gLONGEST_TOLD : ∃ t, mg "LONGEST_TOLD" = some (.int 400 t)
 gNOT_REACHED : ∃ t, mg "NOT_REACHED" = some (.int (-1) t)
 gWRONG : ∃ t, mg "WRONG" = some (.int (-1) t)
 gUNFIT : ∃ t, mg "UNFIT" = some (.int (-3) t)
 gNO_STATE : ∃ t, mg "NO_STATE" = some (.int (-4) t)
 gNOT_SO : ∃ t, mg "NOT_SO" = some (.int (-5) t)
 gTOO_LONG : ∃ t, mg "TOO_LONG" = some (.int (-6) t)
 gNO_GRAPH : ∃ t, mg "NO_GRAPH" = some (.int (-9) t)
 gGRAPH : ∃ t, mg "GRAPH" = some (.int 0 t)
 gEDGE : ∃ t, mg "EDGE" = some (.int 1 t)
 gCUT : ∃ t, mg "CUT" = some (.int 2 t)
 gMARK : ∃ t, mg "MARK" = some (.int 3 t)
 gHOLDS : ∃ t, mg "HOLDS" = some (.int 4 t)
 gSHOWS : ∃ t, mg "SHOWS" = some (.int 5 t)
 gFAR : ∃ t, mg "FAR" = some (.int 6 t)
 gALIKE : ∃ t, mg "ALIKE" = some (.int 7 t)
 gSMALL : ∃ t, mg "SMALL" = some (.int 8 t)
 gTELLS : ∃ t, mg "TELLS" = some (.int 9 t)
 nlen : mg "len" = none
 nrange : mg "range" = none
 nenumerate : mg "enumerate" = none
 nzip : mg "zip" = none
 nreversed : mg "reversed" = none
 nany : mg "any" = none
 nall : mg "all" = none
 nmin : mg "min" = none
 nsorted : mg "sorted" = none
 nlist : mg "list" = none
 nset : mg "set" = none
def nv (n : Nat) : V := .int (n : Int)
def NL (H : Hp) (a : Addr) (ns : List Nat) : Prop := H a = some (.lst (ns.map nv))
def BL (H : Hp) (a : Addr) (bs : List Bool) : Prop := H a = some (.lst (bs.map V.bl))
def LL (H : Hp) (a : Addr) (xss : List (List Nat)) : Prop := ∃ as : List Addr, H a = some (.lst (as.map V.ref)) /\ as.length = xss.length /\ ∀ (j : Nat) (b : Addr), as[j]? = some b -> ∃ xs, xss[j]? = some xs /\ NL H b xs
theorem NL.same {H H' : Hp} {a : Addr} {ns : List Nat} (h : NL H a ns) (s : Same H H') : NL H' a ns := s _ _ h
theorem BL.same {H H' : Hp} {a : Addr} {bs : List Bool} (h : BL H a bs) (s : Same H H') : BL H' a bs := s _ _ h
theorem LL.same {H H' : Hp} {a : Addr} {xss : List (List Nat)} (h : LL H a xss) (s : Same H H') : LL H' a xss := by
 obtain ⟨as, h1, h2, h3⟩ := h
 refine ⟨as, s _ _ h1, h2, fun j b hb => ?_⟩
 obtain ⟨xs, e, h⟩ := h3 j b hb
 exact ⟨xs, e, h.same s⟩
theorem Yc {α : Type} : ∀ {l : List α} {i : Nat} {x : α}, l[i]? = some x -> l.take (i + 1) = l.take i ++ [x]
 | [], i, x, h => by simp at h
 | a :: l, 0, x, h => by
   have e : a = x := Option.some.inj h
   subst e; rfl
 | a :: l, i + 1, x, h => by
   have ih := Yc (l := l) (i := i) (x := x) h
   show a :: l.take (i + 1) = a :: l.take i ++ [x]
   rw [ih]; rfl
theorem Zi {α : Type} {l : List α} {i : Nat} {x : α} (h : l[i]? = some x) : i < l.length := (List.getElem?_eq_some_iff.mp h).1
theorem Zz {α β : Type} {f : α -> β} {l : List α} {i : Nat} {y : β} (h : (l.map f)[i]? = some y) : ∃ x, l[i]? = some x /\ y = f x := by
 rw [List.getElem?_map] at h
 cases e : l[i]? with
 | none => rw [e] at h; cases h
 | some x => rw [e] at h; exact ⟨x, rfl, (Option.some.inj h).symm⟩
theorem Zh {α β : Type} {f : α -> β} {l : List α} {i : Nat} {x : α} (h : l[i]? = some x) : (l.map f)[i]? = some (f x) := by rw [List.getElem?_map, h]; rfl
theorem Zn {n m : Nat} (h : n < m) (hm : m <= 1000 := by omega) : n < sizeLine := by
 have : sizeLine = 16777216 := by rw [sizeLine_eq]
 omega
theorem dp_bools {K : PySem.W.Frag} {H : Hp} : ∀ bs : List Bool, DpAll K H (bs.map V.bl) (bs.map PyData.bool)
 | [] => .nil
 | b :: bs => .cons (.bl b) (dp_bools bs)
theorem lay_bools : ∀ bs : List Bool, PyData.canLayAll0 (bs.map PyData.bool) = true
 | [] => by simp [PyData.canLayAll0]
 | b :: bs => by
   have := lay_bools bs
   simp only [List.map_cons, PyData.canLayAll0, PyData.canLay0, this, Bool.and_self]
theorem deep_bools : ∀ bs : List Bool, PyData.depthAll (bs.map PyData.bool) = 0
 | [] => by simp [PyData.depthAll]
 | b :: bs => by
   have := deep_bools bs
   simp only [List.map_cons, PyData.depthAll, PyData.depth, this, Nat.max_self]
theorem shaped_bools (bs : List Bool) : SeqAt.shaped (.list (bs.map PyData.bool)) = true := by
 unfold SeqAt.shaped
 simp [PyData.canLay0, PyData.depth, lay_bools, deep_bools]
theorem eqv_bools : ∀ (as bs : List Bool), PyData.eqvAll (as.map PyData.bool) (bs.map PyData.bool) = decide (as = bs)
 | [], [] => by simp [PyData.eqvAll]
 | [], b :: bs => by simp [PyData.eqvAll]
 | a :: as, [] => by simp [PyData.eqvAll]
 | a :: as, b :: bs => by
   have := eqv_bools as bs
   simp only [List.map_cons, PyData.eqvAll, PyData.eqv, this]
   by_cases h : a = b
   . subst h; simp
   . have h' : (a == b) = false := by simpa using h
     rw [h', Bool.false_and]
     exact (decide_eq_false fun z => h (List.cons.inj z).1).symm
theorem ne_bools {K : PySem.W.Frag} {H : Hp} {p q : Addr} {as bs : List Bool} {Q : VK} (h1 : BL H p as) (h2 : BL H q bs) (h : Q (.bl (!decide (as = bs))) H) : rNeD K (.ref p) (.ref q) H Q := by
 refine ⟨.list (as.map PyData.bool), .list (bs.map PyData.bool), .lst (SqL.of h1) (dp_bools as), .lst (SqL.of h2) (dp_bools bs), shaped_bools _, shaped_bools _, ?_⟩
 have e : PyData.eqv (.list (as.map PyData.bool)) (.list (bs.map PyData.bool)) = decide (as = bs) := by
   simp only [PyData.eqv]
   exact eqv_bools as bs
 rw [e]; exact h
section
variable {P : Program} {w : World} {K : PySem.W.Frag} {mg : Str -> Option Value} {base : Heap}
def Xx : Sp := fun vs H Q _ => ∃ (a : Addr) (xs : List V), vs = [.ref a] /\ H a = some (.lst xs) /\ xs.length <= 100 /\ ∀ (H' : Hp) (p : Addr), Same H H' -> BL H' p (xs.map fun _ => true) -> Q (.ref p) H'
theorem ok_everywhere {f : Addr} {fd : FuncData} (F : Fun K "everywhere" "everywhere" s_everywhere f fd) : FnOk P w K mg base CX0 1 f fd ["states"] Xx := by
 refine F.ok sc_everywhere (fun vs H Q E h => ?_) (fun cdv A outer s H vs Q E hr h => ?_)
 . obtain ⟨a, xs, rfl, _⟩ := h
   rfl
 obtain ⟨a, xs, rfl, ha, hl, k⟩ := h
 refine ⟨_, (Zc (Zg (Yu rfl sc_everywhere.nd (Yg K (pv 0)) (own := [("state", 1)]) (Ya (by rfl)) (fun _ _ _ _ _ => Zp (i := 1) sc_everywhere.nd rfl (.inl rfl)) (fun _ _ _ _ _ => Yn) (fun _ _ _ _ _ => pe_bl)))), ?_⟩
 refine ⟨_, rfl, a, rfl, ⟨_, SqL.of ha⟩, fun D hD => ?_⟩
 refine lcL (SqL.of ha) hD (fun i acc _ => acc = (xs.take i).map fun _ => V.bl true) rfl ?_ ?_
 . intro i H2 acc x hx s1 hd hl' hg
   refine ⟨rfl, ?_⟩
   have hi := Zi hx
   refine LcOk.push hD s1 hd hl' (Same.refl _) (Zn (m := 100) (by omega)) ?_
   rw [hg, Yc hx, List.map_append]; rfl
 . intro H2 acc s1 hd hl' hg
   refine k H2 D s1 ?_
   rw [List.take_length] at hg
   show H2 D = some (.lst _)
   rw [hd, hg, List.map_map]; rfl
def spNegated : Sp := fun vs H Q _ => ∃ (a : Addr) (bs : List Bool), vs = [.ref a] /\ BL H a bs /\ bs.length <= 100 /\ ∀ (H' : Hp) (p : Addr), Same H H' -> BL H' p (bs.map fun b => !b) -> Q (.ref p) H'
theorem ok_negated {f : Addr} {fd : FuncData} (F : Fun K "negated" "negated" s_negated f fd) : FnOk P w K mg base CX0 1 f fd ["held"] spNegated := by
 refine F.ok sc_negated (fun vs H Q E h => ?_) (fun cdv A outer s H vs Q E hr h => ?_)
 . obtain ⟨a, xs, rfl, _⟩ := h
   rfl
 obtain ⟨a, bs, rfl, ha, hl, k⟩ := h
 refine ⟨_, (Zc (Zg (Yu rfl sc_negated.nd (Yg K (pv 0)) (own := [("here", 1)]) (Ya (by rfl)) (fun _ _ _ _ _ => Zp (i := 1) sc_negated.nd rfl (.inl rfl)) (fun _ _ _ _ _ => Yn) (fun _ _ _ _ _ => (pe_not (pv 1)))))), ?_⟩
 refine ⟨_, rfl, a, rfl, ⟨_, SqL.of ha⟩, fun D hD => ?_⟩
 refine lcL (SqL.of ha) hD (fun i acc _ => acc = (bs.take i).map fun b => V.bl (!b)) rfl ?_ ?_
 . intro i H2 acc x hx s1 hd hl' hg
   obtain ⟨b, hb, rfl⟩ := Zz hx
   have hi := Zi hb
   refine ⟨rfl, _, rfl, _, rfl, ?_⟩
   refine LcOk.push hD s1 hd hl' (Same.refl _) (Zn (m := 100) (by omega)) ?_
   rw [hg, Yc hb, List.map_append]; rfl
 . intro H2 acc s1 hd hl' hg
   refine k H2 D s1 ?_
   rw [List.length_map, List.take_length] at hg
   show H2 D = some (.lst _)
   rw [hd, hg, List.map_map]; rfl
def Qs (F : Graph -> Ways.Set -> Ways.Set) : Sp := fun vs H Q _ => ∃ (o h : Addr) (g : Graph) (a : Ways.Set), vs = [.ref o, .ref h] /\ WF g /\ LL H o (g.all.map g.on) /\ BL H h a /\ a.length = g.size /\ ∀ (H' : Hp) (p : Addr), Same H H' -> BL H' p (F g a) -> Q (.ref p) H'
def Uh (g : Graph) (a : Ways.Set) : Ways.Set := g.setBy (g.someNext a)
def allF (g : Graph) (a : Ways.Set) : Ways.Set := g.setBy fun s => (g.on s).all (Ways.has a)
theorem all_get {g : Graph} {f : Nat -> List Nat} {j : Nat} {xs : List Nat} (h : (g.all.map f)[j]? = some xs) : j < g.size /\ xs = f j := by
 obtain ⟨x, hx, e⟩ := Zz h
 unfold Graph.all at hx
 have hj := Zi hx
 rw [List.length_range] at hj
 rw [List.getElem?_range hj] at hx
 cases hx
 exact ⟨hj, e⟩
theorem Yi {i : Nat} : (List.range (i + 1)) = List.range i ++ [i] := List.range_succ
theorem Qb : ∀ {n : Nat} {l : List Nat}, l.Pairwise (· < ·) -> (∀ x ∈ l, x < n) -> l.length <= n := fun {n l} hs hl =>
 WM.nodup_lt n l (hs.imp fun h => Nat.ne_of_lt h) hl
theorem ok_some_next {f : Addr} {fd : FuncData} (F : Fun K "some_next" "some_next" s_some_next f fd) (T : Txt K mg) : FnOk P w K mg base CX0 1 f fd ["onward", "held"] (Qs Uh) := by
 refine F.ok sc_some_next (fun vs H Q E h => ?_) (fun cdv A outer s H vs Q E hr h => ?_)
 . obtain ⟨_, _, _, _, rfl, _⟩ := h
   rfl
 obtain ⟨o, h, g, a, rfl, wf, ho, hh, hl, k⟩ := h
 refine ⟨_, (Zc (Zg (Yu rfl sc_some_next.nd (Yg K (pv 0)) (own := [("targets", 3)]) (Ya (by rfl)) (fun _ _ _ _ _ => Zp (i := 3) sc_some_next.nd rfl (.inl rfl)) (fun _ _ _ _ _ => Yn) (fun _ _ _ _ _ => (Zv (cr_anyK K rfl) rfl T.nany bootAny (pa1 (Yu rfl sc_some_next.nd (Yg K (pv 3)) (own := [("t", 2)]) (Ya (by rfl)) (fun _ _ _ _ _ => Zp (i := 2) sc_some_next.nd rfl (.inl rfl)) (fun _ _ _ _ _ => Yn) (fun _ _ _ _ _ => (Zm (Zd K) (pv 1) (pv 2) (fun _ _ => rfl)))))))))), ?_⟩
 obtain ⟨as, ha, hn, hin⟩ := ho
 have hsz : as.length = g.size := by rw [hn]; simp [Graph.all]
 have h12 := wf.le
 refine ⟨_, rfl, o, rfl, ⟨_, SqL.of ha⟩, fun D hD => ?_⟩
 refine lcL (SqL.of ha) hD (fun i acc _ => acc = (List.range i).map fun s => V.bl (g.someNext a s)) rfl ?_ ?_
 . intro i H2 acc x hx s1 hd hl' hg
   obtain ⟨b, hb, rfl⟩ := Zz hx
   obtain ⟨xs, hxs, hbl⟩ := hin i b hb
   obtain ⟨hi, rfl⟩ := all_get hxs
   have hon := wf.on_lt hi
   have hol := Qb (wf.on_srt hi) hon
   refine ⟨rfl, _, rfl, b, rfl, ⟨_, SqL.of (hbl.same s1)⟩, fun D2 hD2 => ?_⟩
   refine lcL (SqL.of (hbl.same s1)) hD2 (fun j acc _ => acc = ((g.on i).take j).map fun t => V.bl (Ways.has a t)) rfl ?_ ?_
   . intro j H3 acc2 x2 hx2 s2 hd2 hl2 hg2
     obtain ⟨t, ht, rfl⟩ := Zz hx2
     have hj := Zi ht
     have htl := hon t (List.mem_of_getElem? ht)
     refine ⟨rfl, _, rfl, _, rfl, h, _, _, _, rfl, rfl, SqL.of ((hh.same s1).same s2), Zs (Zh (WM.Yz (by omega))), ?_⟩
     refine LcOk.push hD2 s2 hd2 hl2 (Same.refl _) (Zn (m := 100) (by omega)) ?_
     rw [hg2, Yc ht, List.map_append]; rfl
   . intro H3 acc2 s2 hd2 hl2 hg2
     rw [List.length_map, List.take_length] at hg2
     refine ⟨D2, (g.on i).map (Ways.has a), rfl, SqL.of (by rw [hd2, hg2, List.map_map]; rfl), ?_⟩
     refine LcOk.push hD s1 hd hl' s2 (Zn (m := 100) (by omega)) ?_
     rw [hg, Yi, List.map_append]
     show _ ++ [V.bl (((g.on i).map (Ways.has a)).any id)] = _ ++ [V.bl ((g.on i).any (Ways.has a))]
     rw [List.any_map]; rfl
 . intro H2 acc s1 hd hl' hg
   refine k H2 D s1 ?_
   rw [List.length_map, hsz] at hg
   show H2 D = some (.lst _)
   rw [hd, hg]
   show some (HO.lst _) = some (HO.lst ((g.all.map (g.someNext a)).map V.bl))
   rw [List.map_map]; rfl
theorem ok_all_next {f : Addr} {fd : FuncData} (F : Fun K "all_next" "all_next" s_all_next f fd) (T : Txt K mg) : FnOk P w K mg base CX0 1 f fd ["onward", "held"] (Qs allF) := by
 refine F.ok sc_all_next (fun vs H Q E h => ?_) (fun cdv A outer s H vs Q E hr h => ?_)
 . obtain ⟨_, _, _, _, rfl, _⟩ := h
   rfl
 obtain ⟨o, h, g, a, rfl, wf, ho, hh, hl, k⟩ := h
 refine ⟨_, (Zc (Zg (Yu rfl sc_all_next.nd (Yg K (pv 0)) (own := [("targets", 3)]) (Ya (by rfl)) (fun _ _ _ _ _ => Zp (i := 3) sc_all_next.nd rfl (.inl rfl)) (fun _ _ _ _ _ => Yn) (fun _ _ _ _ _ => (Zv (cr_allK K rfl) rfl T.nall bootAll (pa1 (Yu rfl sc_all_next.nd (Yg K (pv 3)) (own := [("t", 2)]) (Ya (by rfl)) (fun _ _ _ _ _ => Zp (i := 2) sc_all_next.nd rfl (.inl rfl)) (fun _ _ _ _ _ => Yn) (fun _ _ _ _ _ => (Zm (Zd K) (pv 1) (pv 2) (fun _ _ => rfl)))))))))), ?_⟩
 obtain ⟨as, ha, hn, hin⟩ := ho
 have hsz : as.length = g.size := by rw [hn]; simp [Graph.all]
 have h12 := wf.le
 refine ⟨_, rfl, o, rfl, ⟨_, SqL.of ha⟩, fun D hD => ?_⟩
 refine lcL (SqL.of ha) hD (fun i acc _ => acc = (List.range i).map fun s => V.bl ((g.on s).all (Ways.has a))) rfl ?_ ?_
 . intro i H2 acc x hx s1 hd hl' hg
   obtain ⟨b, hb, rfl⟩ := Zz hx
   obtain ⟨xs, hxs, hbl⟩ := hin i b hb
   obtain ⟨hi, rfl⟩ := all_get hxs
   have hon := wf.on_lt hi
   have hol := Qb (wf.on_srt hi) hon
   refine ⟨rfl, _, rfl, b, rfl, ⟨_, SqL.of (hbl.same s1)⟩, fun D2 hD2 => ?_⟩
   refine lcL (SqL.of (hbl.same s1)) hD2 (fun j acc _ => acc = ((g.on i).take j).map fun t => V.bl (Ways.has a t)) rfl ?_ ?_
   . intro j H3 acc2 x2 hx2 s2 hd2 hl2 hg2
     obtain ⟨t, ht, rfl⟩ := Zz hx2
     have hj := Zi ht
     have htl := hon t (List.mem_of_getElem? ht)
     refine ⟨rfl, _, rfl, _, rfl, h, _, _, _, rfl, rfl, SqL.of ((hh.same s1).same s2), Zs (Zh (WM.Yz (by omega))), ?_⟩
     refine LcOk.push hD2 s2 hd2 hl2 (Same.refl _) (Zn (m := 100) (by omega)) ?_
     rw [hg2, Yc ht, List.map_append]; rfl
   . intro H3 acc2 s2 hd2 hl2 hg2
     rw [List.length_map, List.take_length] at hg2
     refine ⟨D2, (g.on i).map (Ways.has a), rfl, SqL.of (by rw [hd2, hg2, List.map_map]; rfl), ?_⟩
     refine LcOk.push hD s1 hd hl' s2 (Zn (m := 100) (by omega)) ?_
     rw [hg, Yi, List.map_append]
     show _ ++ [V.bl (((g.on i).map (Ways.has a)).all id)] = _ ++ [V.bl ((g.on i).all (Ways.has a))]
     rw [List.all_map]; rfl
 . intro H2 acc s1 hd hl' hg
   refine k H2 D s1 ?_
   rw [List.length_map, hsz] at hg
   show H2 D = some (.lst _)
   rw [hd, hg]
   show some (HO.lst _) = some (HO.lst ((g.all.map _).map V.bl))
   rw [List.map_map]; rfl
end
theorem ifT {A B : Prop} {c : Bool} (h : c = true) (a : A) : if c = true then A else B := by rw [if_pos h]; exact a
theorem ifF {A B : Prop} {c : Bool} (h : c = false) (b : B) : if c = true then A else B := by rw [if_neg (by rw [h]; decide)]; exact b
theorem ifE {A B : Prop} {i j : Int} (h : i = j) (a : A) : if decide (V.int i = V.int j) = true then A else B := ifT (decide_eq_true (by rw [h])) a
theorem ifN {A B : Prop} {i j : Int} (h : i ≠ j) (b : B) : if decide (V.int i = V.int j) = true then A else B := ifF (decide_eq_false fun z => h (V.int.inj z)) b
def Xu (F : Graph -> Ways.Set -> Ways.Set) (g : Graph) (a c : Ways.Set) : Ways.Set := g.setBy fun s => Ways.has c s || (Ways.has a s && Ways.has (F g c) s)
theorem takeF_some (g : Graph) (a c : Ways.Set) : Xu Uh g a c = WM.Vq g a c := WM.Qg fun s hs => by unfold Uh; rw [WM.Zu hs]
theorem takeF_all (g : Graph) (a c : Ways.Set) : Xu allF g a c = WM.Vy g a c := WM.Qg fun s hs => by unfold allF; rw [WM.Zu hs]
theorem takeF_grows {F : Graph -> Ways.Set -> Ways.Set} {g : Graph} {a b : Ways.Set} (hb : b.length = g.size) : WM.Grows g.size (Xu F g a) b := by
 have len : ∀ k, (WM.iter (Xu F g a) b k).length = g.size := fun k => by
   cases k with
   | zero => exact hb
   | succ k => exact WM.Ze _ _
 have le : ∀ (c : Ways.Set) (s : Nat), s < g.size -> Ways.has c s = true -> Ways.has (Xu F g a c) s = true := fun c s hs h => by
   unfold Xu
   rw [WM.Zu hs, h]; rfl
 refine ⟨len, fun k s h => ?_⟩
 have hs := WM.has_lt h
 rw [len] at hs
 exact le _ s hs h
theorem iter_congr {F G : Ways.Set -> Ways.Set} (h : ∀ c, F c = G c) (b : Ways.Set) : ∀ n, WM.iter F b n = WM.iter G b n
 | 0 => rfl
 | n + 1 => by
   show F _ = G _
   rw [h, iter_congr h b n]
def Vu (F : Graph -> Ways.Set -> Ways.Set) (g : Graph) (a c : Ways.Set) : Ways.Set := WM.iter (Xu F g a) c g.size
theorem Vp (g : Graph) (a b : Ways.Set) : Vu Uh g a b = g.gain a b g.size := by
 unfold Vu
 rw [WM.gain_iter, iter_congr (takeF_some g a)]
theorem Ue (g : Graph) (a b : Ways.Set) : Vu allF g a b = g.gainAll a b g.size := by
 unfold Vu
 rw [WM.Ve, iter_congr (takeF_all g a)]
def spUse (f : Addr) (R : Graph -> Ways.Set -> Ways.Set -> Ways.Set) : Sp := fun vs H Q _ => ∃ (o b r : Addr) (g : Graph) (a c : Ways.Set), vs = [.ref f, .ref o, .ref b, .ref r] /\ WF g /\ LL H o (g.all.map g.on) /\ BL H b a /\ BL H r c /\ a.length = g.size /\ c.length = g.size /\
 ∀ (H' : Hp) (p : Addr), Same H H' -> BL H' p (R g a c) -> Q (.ref p) H'
def spUse2 (fS fA : Addr) (R : (Graph -> Ways.Set -> Ways.Set) -> Graph -> Ways.Set -> Ways.Set -> Ways.Set) : Sp := fun vs H Q E => spUse fS (R Uh) vs H Q E \/ spUse fA (R allF) vs H Q E
theorem LL.len {H : Hp} {o : Addr} {g : Graph} {as : List Addr} (hn : as.length = (g.all.map g.on).length) : as.length = g.size := by rw [hn]; simp [Graph.all]
section
variable {P : Program} {w : World} {K : PySem.W.Frag} {mg : Str -> Option Value} {base : Heap}
theorem ok_taken_in {f fS fA : Addr} {fd : FuncData} (F : Fun K "taken_in" "taken_in" Uk f fd) (T : Txt K mg) (DS : DefA P w K mg base "some_next" fS 1 ["onward", "held"] (Qs Uh)) (DA : DefA P w K mg base "all_next" fA 1 ["onward", "held"] (Qs allF)) :
   FnOk P w K mg base CX0 2 f fd ["step", "onward", "before", "reached"] (spUse2 fS fA Xu) := by
 refine F.ok sc_taken_in (fun vs H Q E h => ?_) (fun cdv A outer s H vs Q E hr h => ?_)
 . rcases h with ⟨_, _, _, _, _, _, rfl, _⟩ | ⟨_, _, _, _, _, _, rfl, _⟩ <;> rfl
 have go : ∀ (y : Str) (fx : Addr) (F0 : Graph -> Ways.Set -> Ways.Set), DefA P w K mg base y fx 1 ["onward", "held"] (Qs F0) -> (∀ g a, (F0 g a).length = g.size) -> spUse fx (Xu F0) vs H Q E ->
     ∃ t, PSs (cxOf CX0 P w K mg base ["step", "onward", "before", "reached", "ahead", "s"] "taken_in" (Zf Uk) f cdv A outer s H E).nox (Xm Uk) t /\ t { nx := fun _ H' => Q .non H', rt := Q } (start ["step", "onward", "before", "reached", "ahead", "s"] vs) H := by
   intro y fx F0 D_step hlen h
   obtain ⟨o, b, r, g, a, c, rfl, wf, ho, hb, hc, la, lc, k⟩ := h
   refine ⟨_, (Za (Zr (i := 4) sc_taken_in.nd rfl (.inr rfl) (pe_fnV (i := 0) D_step hr.m (pa2 (pv 1) (pv 3))))
   (Zc (Zg (Yu rfl sc_taken_in.nd (Xe rfl T.nrange (pa1 (Zv (Yl K) rfl T.nlen PySem.boot_len (pa1 (pv 1))))) (own := [("s", 5)]) (Ya (by rfl)) (fun _ _ _ _ _ => Zp (i := 5) sc_taken_in.nd rfl (.inl rfl)) (fun _ _ _ _ _ => Yn) (fun _ _ _ _ _ => (pe_or (Zm (Zd K) (pv 3) (pv 5) (fun _ _ => rfl)) (pe_one (pe_and (Zm (Zd K) (pv 2) (pv 5) (fun _ _ => rfl)) (pe_one (Zm (Zd K) (pv 4) (pv 5) (fun _ _ => rfl))))))))))), ?_⟩
   refine ⟨rfl, _, rfl, _, rfl, o, r, g, c, rfl, wf, ho, hc, lc, fun H1 ah s1 hah => ?_⟩
   have h12 := wf.le
   obtain ⟨as, ha, hn, hin⟩ := id (ho.same s1)
   have hsz : as.length = g.size := LL.len (H := H) (o := o) hn
   have hz : (as.map V.ref).length = g.size := by rw [List.length_map]; exact hsz
   refine ⟨_, rfl, o, _, rfl, .inl (SqL.of ha), _, rfl, by omega, by omega, fun D hD => ?_⟩
   have en : (((as.map V.ref).length : Nat) : Int).toNat = g.size := by rw [hz]; exact Int.toNat_natCast _
   rw [en]
   refine lcR hD (fun i acc _ => acc = (List.range i).map fun s => V.bl (Ways.has c s || (Ways.has a s && Ways.has (F0 g c) s))) rfl ?_ ?_
   . intro i H2 acc hi s2 hd hl' hg
     have z : (0 : Int) + (i : Int) = (i : Int) := Int.zero_add _
     rw [z]
     refine ⟨rfl, _, rfl, _, rfl, r, _, _, _, rfl, rfl, SqL.of ((hc.same s1).same s2), Zs (Zh (WM.Yz (by omega))), _, rfl, ?_⟩
     cases ec : Ways.has c i with
     | true =>
       refine ifT rfl (LcOk.push hD s2 hd hl' (Same.refl _) (Zn (m := 100) (by omega)) ?_)
       rw [hg, Yi, List.map_append, List.map_singleton, ec]; rfl
     | false =>
       refine ifF rfl ⟨_, rfl, _, rfl, b, _, _, _, rfl, rfl, SqL.of ((hb.same s1).same s2), Zs (Zh (WM.Yz (by omega))), _, rfl, ?_⟩
       cases ea : Ways.has a i with
       | false =>
         refine ifF rfl (LcOk.push hD s2 hd hl' (Same.refl _) (Zn (m := 100) (by omega)) ?_)
         rw [hg, Yi, List.map_append, List.map_singleton, ec, ea]; rfl
       | true =>
         refine ifT rfl ⟨_, rfl, _, rfl, ah, _, _, _, rfl, rfl, SqL.of (hah.same s2), Zs (Zh (WM.Yz (by rw [hlen]; omega))), ?_⟩
         refine LcOk.push hD s2 hd hl' (Same.refl _) (Zn (m := 100) (by omega)) ?_
         rw [hg, Yi, List.map_append, List.map_singleton, ec, ea]; rfl
   . intro H2 acc s2 hd hl' hg
     refine k H2 D (s1.trans s2) ?_
     show H2 D = some (.lst _)
     rw [hd, hg]
     show some (HO.lst _) = some (HO.lst ((g.all.map _).map V.bl))
     rw [List.map_map]; rfl
 rcases h with h | h
 . exact go _ _ _ DS (fun g a => WM.Ze _ _) h
 . exact go _ _ _ DA (fun g a => WM.Ze _ _) h
theorem ok_until {f fS fA : Addr} {fd : FuncData} (F : Fun K "until" "until" s_until f fd) (T : Txt K mg) (Dtaken_in : Def P w K mg base "taken_in" 2 ["step", "onward", "before", "reached"] (spUse2 fS fA Xu)) :
   FnOk P w K mg base CX0 3 f fd ["step", "onward", "before", "goal"] (spUse2 fS fA Vu) := by
 refine F.ok sc_until (fun vs H Q E h => ?_) (fun cdv A outer s H vs Q E hr h => ?_)
 . rcases h with ⟨_, _, _, _, _, _, rfl, _⟩ | ⟨_, _, _, _, _, _, rfl, _⟩ <;> rfl
 have go : ∀ (fx : Addr) (F0 : Graph -> Ways.Set -> Ways.Set), (∀ vs H Q, spUse fx (Xu F0) vs H Q E0 -> spUse2 fS fA Xu vs H Q E0) -> spUse fx (Vu F0) vs H Q E ->
     ∃ t, PSs (cxOf CX0 P w K mg base ["step", "onward", "before", "goal", "reached", "wider"] "until" (Zf s_until) f cdv A outer s H E).nox (Xm s_until) t /\ t { nx := fun _ H' => Q .non H', rt := Q } (start ["step", "onward", "before", "goal", "reached", "wider"] vs) H := by
   intro fx F0 up h
   obtain ⟨o, b, r, g, a, c, rfl, wf, ho, hb, hc, la, lc, k⟩ := h
   refine ⟨_, (Za (Zr (i := 4) sc_until.nd rfl (.inl rfl) (pv 3))
   (Za (Zr (i := 5) sc_until.nd rfl (.inl rfl) (Zk Dtaken_in hr.m (pa4 (pv 0) (pv 1) (pv 2) (pv 4))))
   (Za (ps_while PassesOwn.never (Zq (op_neDK K hr.units) (pv 5) (pv 4) (Zt _)) (Za (Zr (i := 4) sc_until.nd rfl (.inl rfl) (pv 5))
   (Zc (Zr (i := 5) sc_until.nd rfl (.inl rfl) (Zk Dtaken_in hr.m (pa4 (pv 0) (pv 1) (pv 2) (pv 4)))))))
   (Zc (Zg (pv 4)))))), ?_⟩
   have gr := takeF_grows (F := F0) (g := g) (a := a) (b := c) lc
   refine ⟨_, rfl, _, rfl, _, rfl, _, rfl, _, rfl, up _ _ _ ⟨o, b, r, g, a, c, rfl, wf, ho, hb, hc, la, lc, fun H1 y s1 hy => ?_⟩⟩
   refine ⟨fun m σ H' => ∃ (n : Nat) (x y : Addr), m = g.size - WM.cnt (WM.iter (Xu F0 g a) c n) /\ σ = [some (.ref fx), some (.ref o), some (.ref b), some (.ref r), some (.ref x), some (.ref y)] /\ Same H H' /\ BL H' x (WM.iter (Xu F0 g a) c n) /\ BL H' y (WM.iter (Xu F0 g a) c (n + 1)),
     ⟨_, 0, r, y, rfl, rfl, s1, hc.same s1, hy⟩, ?_⟩
   rintro m σ H' ⟨n, x, y, rfl, rfl, s2, hx, hy⟩
   refine ⟨_, rfl, _, rfl, ne_bools hy hx ⟨_, rfl, ?_⟩⟩
   by_cases q : WM.iter (Xu F0 g a) c (n + 1) = WM.iter (Xu F0 g a) c n
   . refine ifF (by rw [decide_eq_true q]; rfl) ⟨_, rfl, k H' x s2 ?_⟩
     rw [gr.fin q] at hx
     exact hx
   . refine ifT (by rw [decide_eq_false q]; rfl) ⟨fun σ' H'' => ∃ (x y : Addr), σ' = [some (.ref fx), some (.ref o), some (.ref b), some (.ref r), some (.ref x), some (.ref y)] /\ Same H H'' /\ BL H'' x (WM.iter (Xu F0 g a) c (n + 1)) /\ BL H'' y (WM.iter (Xu F0 g a) c (n + 2)), ?_, ?_⟩
     . rintro σ' H'' ⟨x', y', rfl, s3, h1, h2⟩
       refine ⟨_, ?_, n + 1, x', y', rfl, rfl, s3, h1, h2⟩
       have e1 := WM.cnt_lt (by rw [gr.len, gr.len]) (gr.le n) fun z => q z.symm
       have e2 := WM.cnt_le (WM.iter (Xu F0 g a) c (n + 1))
       rw [gr.len] at e2
       omega
     . refine ⟨_, rfl, _, rfl, _, rfl, _, rfl, _, rfl, up _ _ _ ⟨o, b, y, g, a, _, rfl, wf, ho.same s2, hb.same s2, hy, la, gr.len _, fun H3 z s3 hz => ?_⟩⟩
       exact ⟨y, z, rfl, s2.trans s3, hy.same s3, hz⟩
 rcases h with h | h
 . exact go _ _ (fun _ _ _ => .inl) h
 . exact go _ _ (fun _ _ _ => .inr) h
end
def PL (H : Hp) (a : Addr) (P : List (Nat × Nat)) : Prop := ∃ as : List Addr, H a = some (.lst (as.map V.ref)) /\ as.length = P.length /\ ∀ (j : Nat) (b : Addr), as[j]? = some b -> ∃ p, P[j]? = some p /\ H b = some (.tup [nv p.1, nv p.2])
theorem PL.same {H H' : Hp} {a : Addr} {P : List (Nat × Nat)} (h : PL H a P) (s : Same H H') : PL H' a P := by
 obtain ⟨as, h1, h2, h3⟩ := h
 refine ⟨as, s _ _ h1, h2, fun j b hb => ?_⟩
 obtain ⟨p, e, h⟩ := h3 j b hb
 exact ⟨p, e, s _ _ h⟩
theorem PL.push {H : Hp} {a t : Addr} {P : List (Nat × Nat)} {as : List Addr} {p : Nat × Nat} (h1 : H a = some (.lst (as.map V.ref))) (h2 : as.length = P.length) (h3 : ∀ (j : Nat) (b : Addr), as[j]? = some b -> ∃ p, P[j]? = some p /\ H b = some (.tup [nv p.1, nv p.2])) (ht : H t = some (.tup [nv p.1, nv p.2])) :
   PL (upd H a (.lst (as.map V.ref ++ [.ref t]))) a (P ++ [p]) := by
 have keep : ∀ (b : Addr) (xs : List V), H b = some (.tup xs) -> upd H a (.lst (as.map V.ref ++ [.ref t])) b = some (.tup xs) := fun b xs hb => by
   rw [Zl (Xj hb h1 (by intro z; cases z))]
   exact hb
 refine ⟨as ++ [t], by rw [Zb, List.map_append]; rfl, by simp [h2], fun j b hb => ?_⟩
 by_cases q : j < as.length
 . rw [List.getElem?_append_left q] at hb
   obtain ⟨p', e, h⟩ := h3 j b hb
   exact ⟨p', by rw [List.getElem?_append_left (by omega)]; exact e, keep _ _ h⟩
 . rw [List.getElem?_append_right (by omega)] at hb
   have e0 : j - as.length = 0 := by
     have := Zi hb
     simp at this
     omega
   rw [e0] at hb
   have e1 : t = b := by simpa using hb
   subst e1
   exact ⟨p, by rw [List.getElem?_append_right (by omega), show j - P.length = 0 by omega]; rfl, keep _ _ ht⟩
theorem drop_cons {l : List Nat} {i n : Nat} (h : l[i]? = some n) : l.drop i = n :: l.drop (i + 1) := by
 have hi := Zi h
 rw [List.drop_eq_getElem_cons hi]
 rw [List.getElem?_eq_getElem hi] at h
 rw [Option.some.inj h]
def behinds : List Nat := [0, 0, 1, 2, 2, 1, 1, 1, 1, 1, 1, 2, 2]
theorem behinds_get {k : Nat} (h : k < 13) : behinds[k]? = some (behindN k) := by
 match k, h with
 | 0, _ => rfl | 1, _ => rfl | 2, _ => rfl | 3, _ => rfl | 4, _ => rfl | 5, _ => rfl | 6, _ => rfl | 7, _ => rfl | 8, _ => rfl | 9, _ => rfl | 10, _ => rfl | 11, _ => rfl | 12, _ => rfl
structure TxB (K : PySem.W.Frag) (mg : Str -> Option Value) (aB : Addr) : Prop where
 at_ : mg "BEHIND" = some (.ref aB)
 tB : ∀ H, SqT K H aB (behinds.map nv)
def spPartAt : Sp := fun vs H Q _ => ∃ (a : Addr) (l : List Nat) (i : Nat), vs = [.ref a, nv i] /\ NL H a l /\ (partAt (l.drop i) = none -> Q .non H) /\ ∀ p, partAt (l.drop i) = some p -> ∀ (H' : Hp) (t : Addr), Same H H' -> H' t = some (.tup [nv p.1, nv p.2]) -> Q (.ref t) H'
section
variable {P : Program} {w : World} {K : PySem.W.Frag} {mg : Str -> Option Value} {base : Heap}
theorem ok_part_at {f aB : Addr} {fd : FuncData} (F : Fun K "part_at" "part_at" s_part_at f fd) (T : Txt K mg) (B : TxB K mg aB) : FnOk P w K mg base CX0 1 f fd ["numbers", "at"] spPartAt := by
 refine F.ok sc_part_at (fun vs H Q E h => ?_) (fun cdv A outer s H vs Q E hr h => ?_)
 . obtain ⟨_, _, _, rfl, _⟩ := h
   rfl
 obtain ⟨a, l, i, rfl, hl, kN, kS⟩ := h
 refine ⟨_, (Za (Yf (PW.pt (pw_or (Zq op_ge (pv 1) (Zv (Yl K) rfl T.nlen PySem.boot_len (pa1 (pv 0))) (Zt _)) (pw_or1 (Zq op_ge (Zm (Zd K) (pv 0) (pv 1) (fun _ _ => rfl)) (Zv (Yl K) rfl T.nlen PySem.boot_len (pa1 (pe_gr B.at_))) (Zt _))))) (Zc (Zg pe_non)) Zo)
   (Za (Yf (Zq op_ne (Zm (Zd K) (pv 0) (pv 1) (fun _ _ => rfl)) (Zy T.gMARKED) (Zt _)) (Zc (Zg (pe_tup (pa2 (Zm (Zd K) (pv 0) (pv 1) (fun _ _ => rfl)) Zj)))) Zo)
   (Za (Yf (PW.pt (pw_or (Zq op_ge (Xh op_add (pv 1) Zj) (Zv (Yl K) rfl T.nlen PySem.boot_len (pa1 (pv 0))) (Zt _)) (pw_or1 (Zq op_ge (Zm (Zd K) (pv 0) (Xh op_add (pv 1) Zj) (fun _ _ => rfl)) (Zy T.gMARKS_IN_ALL) (Zt _))))) (Zc (Zg pe_non)) Zo)
   (Zc (Zg (pe_tup (pa2 (Zy T.gMARKED) (Zm (Zd K) (pv 0) (Xh op_add (pv 1) Zj) (fun _ _ => rfl))))))))), ?_⟩
 have hlen : (l.map nv).length = l.length := List.length_map _
 refine ⟨_, rfl, _, rfl, a, _, rfl, .inl (SqL.of hl), _, _, rfl, rfl, _, rfl, ?_⟩
 by_cases q : l.length <= i
 . refine ifT (decide_eq_true (by rw [hlen]; omega)) (ifT rfl (kN ?_))
   rw [List.drop_eq_nil_of_le q]; rfl
 . obtain ⟨n, hn⟩ : ∃ n, l[i]? = some n := ⟨_, List.getElem?_eq_getElem (by omega)⟩
   refine ifF (decide_eq_false (by rw [hlen]; omega)) ⟨_, rfl, _, rfl, a, _, _, _, rfl, rfl, SqL.of hl, Zs (Zh hn), aB, _, rfl, .inr (B.tB _), _, _, rfl, rfl, _, rfl, ?_⟩
   have ed := drop_cons hn
   rw [ed] at kN kS
   by_cases q2 : 13 <= n
   . refine ifT (decide_eq_true (show ((13 : Nat) : Int) <= (n : Int) by omega)) (kN ?_)
     show (if 13 <= n then none else _) = none
     rw [if_pos q2]
   . refine ifF (decide_eq_false (show ¬ ((13 : Nat) : Int) <= (n : Int) by omega)) ?_
     refine ⟨_, rfl, _, rfl, a, _, _, _, rfl, rfl, SqL.of hl, Zs (Zh hn), rfl, _, rfl, ?_⟩
     by_cases q3 : n = 1
     . subst q3
       refine ifF rfl ?_
       refine ⟨_, rfl, _, _, rfl, rfl, _, rfl, a, _, rfl, .inl (SqL.of hl), _, _, rfl, rfl, _, rfl, ?_⟩
       by_cases q4 : l.length <= i + 1
       . refine ifT (decide_eq_true (by rw [hlen]; omega)) (ifT rfl (kN ?_))
         rw [List.drop_eq_nil_of_le q4]; rfl
       . obtain ⟨m, hm⟩ : ∃ m, l[i + 1]? = some m := ⟨_, List.getElem?_eq_getElem (by omega)⟩
         have em := drop_cons hm
         rw [em] at kN kS
         refine ifF (decide_eq_false (by rw [hlen]; omega)) ⟨_, rfl, _, rfl, _, _, rfl, rfl, a, _, _, _, rfl, rfl, SqL.of hl, Yh (j := i + 1) (by omega) (Zh hm), _, _, rfl, rfl, _, rfl, ?_⟩
         by_cases q5 : 8 <= m
         . refine ifT (decide_eq_true (show (8 : Int) <= (m : Int) by omega)) (kN ?_)
           show (if 8 <= m then none else _) = none
           rw [if_pos q5]
         . refine ifF (decide_eq_false (show ¬ (8 : Int) <= (m : Int) by omega)) ?_
           refine ⟨_, rfl, _, rfl, _, _, rfl, rfl, a, _, _, _, rfl, rfl, SqL.of hl, Yh (j := i + 1) (by omega) (Zh hm), le2, fun t ht => ?_⟩
           refine kS (1, m) ?_ _ t (Same.new ht) Zb
           show (if 8 <= m then none else some (1, m)) = some (1, m)
           rw [if_neg q5]
     . refine ifT (by show (!decide (nv n = V.int 1)) = true; rw [decide_eq_false (fun z => q3 (by have := V.int.inj z; omega))]; rfl) ?_
       refine ⟨_, rfl, _, rfl, a, _, _, _, rfl, rfl, SqL.of hl, Zs (Zh hn), le2, fun t ht => ?_⟩
       exact kS (n, 0) (WM.Vb (by omega) q3) _ t (Same.new ht) Zb
end
def spPartsOf : Sp := fun vs H Q _ => ∃ (a : Addr) (l : List Nat), vs = [.ref a] /\ NL H a l /\ ((64 < l.length \/ partsOf l = none) -> ∀ H' : Hp, Same H H' -> Q .non H') /\
 ∀ P, l.length <= 64 -> partsOf l = some P -> P.length <= 64 -> ∀ (H' : Hp) (p : Addr), Same H H' -> PL H' p P -> Q (.ref p) H'
section
variable {P : Program} {w : World} {K : PySem.W.Frag} {mg : Str -> Option Value} {base : Heap}
theorem ok_parts_of {f aB : Addr} {fd : FuncData} (F : Fun K "parts_of" "parts_of" s_parts_of f fd) (T : Txt K mg) (B : TxB K mg aB) (Dpart_at : Def P w K mg base "part_at" 1 ["numbers", "at"] spPartAt) :
   FnOk P w K mg base CX0 2 f fd ["numbers"] spPartsOf := by
 refine F.ok sc_parts_of (fun vs H Q E h => ?_) (fun cdv A outer s H vs Q E hr h => ?_)
 . obtain ⟨_, _, rfl, _⟩ := h
   rfl
 obtain ⟨a, l, rfl, hl, kN, kS⟩ := h
 refine ⟨_, (Za (Yf (Zq op_gt (Zv (Yl K) rfl T.nlen PySem.boot_len (pa1 (pv 0))) (Zy T.gLONGEST) (Zt _)) (Zc (Zg pe_non)) Zo)
   (Za (Zr (i := 1) sc_parts_of.nd rfl (.inl rfl) (Zx Vc))
   (Za (Zr (i := 2) sc_parts_of.nd rfl (.inl rfl) Zj)
   (Za (Zr (i := 3) sc_parts_of.nd rfl (.inl rfl) Zj)
   (Za (ps_while PassesOwn.never (Zq op_gt (pv 3) Zj (Zt _)) (Za (Zr (i := 4) sc_parts_of.nd rfl (.inl rfl) (Zk Dpart_at hr.m (pa2 (pv 0) (pv 2))))
   (Za (Yf (pt_cmp (pc_isN (pv 4))) (Zc (Zg pe_non)) Zo)
   (Za (Yt (Uw PySem.F.plainAttrs_list PySem.F.slot_list_append PySem.F.type_list_append Yy (pv 1) (pa1 (pv 4))))
   (Za (ps_aug (i := 2) sc_parts_of.nd rfl (.inl rfl) (Vr (Zq Yr (Zm (Xg K) (pv 4) Zj (fun _ _ => rfl)) (Zy T.gMARKED) (Zt _)) Zj Zj) ip_add)
   (Zc (ps_aug (i := 3) sc_parts_of.nd rfl (.inl rfl) (Xh op_sub (Zm (Xg K) (pe_gr B.at_) (Zm (Xg K) (pv 4) Zj (fun _ _ => rfl)) (fun _ _ => rfl)) Zj) ip_add)))))))
   (Zc (Zg (Vr (Zq Yr (pv 2) (Zv (Yl K) rfl T.nlen PySem.boot_len (pa1 (pv 0))) (Zt _)) (pv 1) pe_non)))))))), ?_⟩
 have hlen : (l.map nv).length = l.length := List.length_map _
 refine ⟨_, rfl, a, _, rfl, .inl (SqL.of hl), _, _, rfl, rfl, _, rfl, ?_⟩
 by_cases q : 64 < l.length
 . exact ifT (decide_eq_true (by rw [hlen]; omega)) (kN (.inl q) H (Same.refl _))
 . refine ifF (decide_eq_false (by rw [hlen]; omega)) ⟨Nat.zero_le _, fun pl hpl => ?_⟩
   refine ⟨fun m σ H' => ∃ (i due : Nat) (P0 : List (Nat × Nat)) (v4 : Option V), m = l.length - i /\ i <= l.length /\ σ = [some (.ref a), some (.ref pl), some (nv i), some (nv due), v4] /\ Same H H' /\ PL H' pl P0 /\ P0.length <= i /\
       scan 1 l = (scan due (l.drop i)).map fun x => (P0 ++ x.1, x.2),
     ⟨_, 0, 1, [], none, rfl, Nat.zero_le _, rfl, Same.new hpl, ⟨[], Zb, rfl, fun j b hb => by simp at hb⟩, Nat.le_refl _, ?_⟩, ?_⟩
   . rw [List.drop_zero]
     cases scan 1 l with
     | none => rfl
     | some x => rfl
   rintro m σ H' ⟨i, due, P0, v4, rfl, hi, rfl, s1, hP, hP0, hsc⟩
   refine ⟨_, rfl, _, _, rfl, rfl, _, rfl, ?_⟩
   cases due with
   | zero =>
     refine ifF rfl ⟨_, rfl, _, rfl, a, _, rfl, .inl (SqL.of (hl.same s1)), rfl, _, rfl, ?_⟩
     rw [WM.scan_zero] at hsc
     have hsc : scan 1 l = some (P0 ++ [], l.drop i) := hsc
     rw [List.append_nil] at hsc
     by_cases q2 : i = l.length
     . refine ifE (by rw [hlen, q2]) ⟨_, rfl, kS P0 (by omega) ?_ (by omega) H' pl s1 hP⟩
       unfold partsOf
       rw [hsc, q2, List.drop_length]
     . refine ifN (by rw [hlen]; omega) (kN (.inr ?_) H' s1)
       unfold partsOf
       rw [hsc]
       obtain ⟨n, hn⟩ : ∃ n, l[i]? = some n := ⟨_, List.getElem?_eq_getElem (by omega)⟩
       rw [drop_cons hn]
   | succ due =>
     refine ifT (decide_eq_true (show (0 : Int) < ((due + 1 : Nat) : Int) by omega)) ?_
     refine ⟨fun σ' H'' => ∃ (i' due' : Nat) (P0 : List (Nat × Nat)) (v4 : Option V), i < i' /\ i' <= l.length /\ σ' = [some (.ref a), some (.ref pl), some (nv i'), some (nv due'), v4] /\ Same H H'' /\ PL H'' pl P0 /\ P0.length <= i' /\
       scan 1 l = (scan due' (l.drop i')).map fun x => (P0 ++ x.1, x.2), ?_, ?_⟩
     . rintro σ' H'' ⟨i', due', P1, v4, h1, h2, h3, h4, h5, h6, h7⟩
       exact ⟨_, by omega, i', due', P1, v4, rfl, h2, h3, h4, h5, h6, h7⟩
     refine ⟨_, rfl, _, rfl, a, l, i, rfl, hl.same s1, fun hN => ?_, fun p hp H2 t s2 ht => ?_⟩
     . refine ⟨_, rfl, _, rfl, ?_⟩
       refine ifT (by decide) (kN (.inr ?_) H' s1)
       rw [WM.scan_none hN] at hsc
       unfold partsOf
       rw [hsc]; rfl
     . refine ⟨_, rfl, _, rfl, ifF (decide_eq_false (fun z => nomatch z)) ?_⟩
       obtain ⟨as, h1, h2, h3⟩ := hP.same s2
       have hw := WM.partAt_width hp
       have hw0 := WM.width_pos p
       rw [List.length_drop] at hw
       refine ⟨_, rfl, .inl ⟨rfl, _, SqL.of h1⟩, _, rfl, pl, _, _, rfl, rfl, h1, ?_, ?_⟩
       . rw [List.length_map, h2]
         exact Zn (m := 100) (by omega)
       have hplH : ∀ (b : Addr) (o : HO), H b = some o -> b ≠ pl := fun b o hb => Yb hb hpl
       have hP' := PL.push (p := p) h1 h2 h3 ht
       have ht' : upd H2 pl (.lst (as.map V.ref ++ [.ref t])) t = some (.tup [nv p.1, nv p.2]) := by
         rw [Zl (Xj ht h1 (by intro z; cases z))]; exact ht
       have s3 : Same H (upd H2 pl (.lst (as.map V.ref ++ [.ref t]))) := (s1.trans s2).put hpl
       generalize upd H2 pl (.lst (as.map V.ref ++ [.ref t])) = H3 at hP' ht' s3 ⊢
       have hk13 : p.1 < 13 := (WM.partAt_ok hp).1
       have hsc2 := WM.Vg (d := due) hp
       have fin : ∀ (x y : Int), x = ((i + width p : Nat) : Int) -> y = ((due + behindN p.1 : Nat) : Int) -> ∃ (i' due' : Nat) (P0 : List (Nat × Nat)) (v4 : Option V), i < i' /\ i' <= l.length /\ [some (V.ref a), some (V.ref pl), some (V.int x), some (V.int y), some (V.ref t)] = [some (.ref a), some (.ref pl), some (nv i'), some (nv due'), v4] /\ Same H H3 /\ PL H3 pl P0 /\ P0.length <= i' /\
           scan 1 l = (scan due' (l.drop i')).map fun x => (P0 ++ x.1, x.2) := fun x y ex ey => by
         subst ex; subst ey
         refine ⟨i + width p, due + behindN p.1, P0 ++ [p], some (.ref t), by omega, by omega, rfl, s3, hP', by rw [List.length_append, List.length_singleton]; omega, ?_⟩
         rw [hsc, hsc2, List.drop_drop, Option.map_map]
         cases scan (due + behindN p.1) (l.drop (i + width p)) with
         | none => rfl
         | some z => simp
       refine ⟨_, rfl, _, rfl, t, _, _, _, rfl, rfl, SqT.of ht', Yh (j := 0) rfl rfl, rfl, _, rfl, ?_⟩
       by_cases q3 : p.1 = 1
       . have ew : width p = 2 := by unfold width; rw [if_pos q3]
         refine ifE (by rw [q3]; rfl) ⟨_, _, rfl, rfl, _, rfl, _, rfl, t, _, _, _, rfl, rfl, SqT.of ht', Yh (j := 0) rfl rfl, aB, _, _, _, rfl, rfl, B.tB _, Zs (Zh (behinds_get hk13)), _, _, rfl, rfl, _, _, rfl, rfl, fin _ _ ?_ ?_⟩
         . rw [ew]; show (i : Int) + _ = _; omega
         . show ((due + 1 : Nat) : Int) + ((behindN p.1 : Int) - 1) = _; omega
       . have ew : width p = 1 := by unfold width; rw [if_neg q3]
         refine ifN (by omega) ⟨_, _, rfl, rfl, _, rfl, _, rfl, t, _, _, _, rfl, rfl, SqT.of ht', Yh (j := 0) rfl rfl, aB, _, _, _, rfl, rfl, B.tB _, Zs (Zh (behinds_get hk13)), _, _, rfl, rfl, _, _, rfl, rfl, fin _ _ ?_ ?_⟩
         . rw [ew]; show (i : Int) + _ = _; omega
         . show ((due + 1 : Nat) : Int) + ((behindN p.1 : Int) - 1) = _; omega
end
def gf (m t : Addr) : List (Str × V) := putF "targets" (.ref t) (putF "marks" (.ref m) [])
theorem Xc (m t : Addr) : (gf m t).lookup ("marks" : Str) = some (.ref m) := by
 unfold gf
 rw [Ym, if_neg (by decide), Ym, if_pos rfl]
theorem Xs (m t : Addr) : (gf m t).lookup ("targets" : Str) = some (.ref t) := by
 unfold gf
 rw [Ym, if_pos rfl]
def GraphAt (CG : Addr) (H : Hp) (ga : Addr) (g : Graph) : Prop := ∃ dg m t, H ga = some (.ins CG dg (gf m t)) /\ NL H m g.marks /\ LL H t g.next
theorem GraphAt.same {CG : Addr} {H H' : Hp} {ga : Addr} {g : Graph} (h : GraphAt CG H ga g) (s : Same H H') : GraphAt CG H' ga g := by
 obtain ⟨dg, m, t, h1, h2, h3⟩ := h
 exact ⟨dg, m, t, s _ _ h1, h2.same s, h3.same s⟩
structure TxG (K : PySem.W.Frag) (mg : Str -> Option Value) (CG : Addr) : Prop where
 cl : Cls K CG
 nM : NoAttr K CG "marks"
 nT : NoAttr K CG "targets"
 at_ : mg "Graph" = some (.ref CG)
def Uf (CG : Addr) : Sp := fun vs H Q _ => ∃ (ga : Addr) (g : Graph), vs = [.ref ga] /\ WF g /\ GraphAt CG H ga g /\ ∀ (H' : Hp) (p : Addr), Same H H' -> LL H' p (g.all.map g.on) -> Q (.ref p) H'
def GoodOn (g : Graph) (D : Addr) (i : Nat) (acc : List V) (H' : Hp) : Prop := ∃ bs : List Addr, acc = bs.map V.ref /\ bs.length = i /\ ∀ (j : Nat) (b : Addr), bs[j]? = some b -> NL H' b (g.on j) /\ b ≠ D
section
variable {P : Program} {w : World} {K : PySem.W.Frag} {mg : Str -> Option Value} {base : Heap}
theorem ok_ways_on {f CG : Addr} {fd : FuncData} (F : Fun K "ways_on" "ways_on" s_ways_on f fd) (T : Txt K mg) (TG : TxG K mg CG) : FnOk P w K mg base CX0 1 f fd ["graph"] (Uf CG) := by
 refine F.ok sc_ways_on (fun vs H Q E h => ?_) (fun cdv A outer s H vs Q E hr h => ?_)
 . obtain ⟨_, _, rfl, _⟩ := h
   rfl
 obtain ⟨ga, g, rfl, wf, ⟨dg, m, t, hg, hm, as, ht, hn, hin⟩, k⟩ := h
 refine ⟨_, (Zc (Zg (Yu rfl sc_ways_on.nd (pi_enumK K rfl T.nenumerate (pa1 (Ye K (pv 0)))) (own := [("s", 1), ("targets", 2)]) (Ya (by rfl)) (fun _ _ _ _ _ => Qi K (n := 2) rfl (Ys (Zp (i := 1) sc_ways_on.nd rfl (.inl rfl)) (Ys (Zp (i := 2) sc_ways_on.nd rfl (.inl rfl)) Qh))) (fun _ _ _ _ _ => Yn) (fun _ _ _ _ _ => (Vr (Zq op_gt (Zv (Yl K) rfl T.nlen PySem.boot_len (pa1 (pv 2))) Zj (Zt _)) (pv 2) (Zx (pa1 (pv 1)))))))), ?_⟩
 have h12 := wf.le
 have hsz : as.length = g.size := by rw [hn]; exact wf.len
 refine ⟨_, rfl, ga, CG, dg, _, _, rfl, hg, TG.cl, TG.nT, Xs _ _, t, _, rfl, SqL.of ht, fun D hD => ?_⟩
 refine lcE (SqL.of ht) hD (GoodOn g D) ⟨[], rfl, rfl, fun j b hb => by simp at hb⟩ ?_ ?_
 . intro i H2 acc x Tp hx s1 hd hl' hg2 hT
   obtain ⟨bs, rfl, hbl, hbs⟩ := hg2
   obtain ⟨b, hb, rfl⟩ := Zz hx
   obtain ⟨xs, hxs, hbx⟩ := hin i b hb
   have hi : i < g.size := by have := Zi hb; omega
   have s2 : Same H2 (upd H2 Tp (.tup [.int (i : Nat), .ref b])) := Same.new hT
   have hbx2 := (hbx.same s1).same s2
   have eon : g.next.getD i [] = xs := by rw [List.getD_eq_getElem?_getD, hxs]; rfl
   refine ⟨Tp, _, rfl, SqT.of Zb, rfl, _, _, rfl, _, _, rfl, rfl, rfl, ?_⟩
   refine ⟨_, rfl, b, _, rfl, .inl (SqL.of hbx2), _, _, rfl, rfl, _, rfl, ?_⟩
   have bD : ∀ c : Addr, H c ≠ none -> c ≠ D := fun c hc z => hc (by rw [z]; exact hD)
   generalize hH3 : upd H2 Tp (.tup [.int (i : Nat), .ref b]) = H3 at s2 hbx2 ⊢
   have push : ∀ (c : Addr) (H4 : Hp), Same H2 H4 -> NL H4 c (g.on i) -> c ≠ D -> ∃ acc, H4 D = some (.lst acc) /\ acc.length < sizeLine /\ LcOk H D (GoodOn g D) (i + 1) (upd H4 D (.lst (acc ++ [V.ref c]))) := fun c H4 s4 hc cD => by
     refine LcOk.push hD s1 hd hl' s4 (Zn (m := 100) (by omega)) ⟨bs ++ [c], by rw [List.map_append]; rfl, by rw [List.length_append, hbl]; rfl, fun j b' hb' => ?_⟩
     by_cases q : j < bs.length
     . rw [List.getElem?_append_left q] at hb'
       obtain ⟨h1, h2⟩ := hbs j b' hb'
       exact ⟨by show upd H4 D _ b' = _; rw [Zl h2]; exact h1.same s4, h2⟩
     . rw [List.getElem?_append_right (by omega)] at hb'
       have e0 : j - bs.length = 0 := by
         have := Zi hb'
         simp at this
         omega
       rw [e0] at hb'
       have e1 : c = b' := by simpa using hb'
       subst e1
       have ej : j = i := by omega
       subst ej
       exact ⟨by show upd H4 D _ c = _; rw [Zl cD]; exact hc, cD⟩
   by_cases q : xs = []
   . subst q
     refine ifF rfl ⟨_, rfl, le1, fun p hp => ?_⟩
     refine push p _ (s2.trans (Same.new hp)) ?_ ?_
     . show upd H3 p _ p = _
       rw [Zb, WM.on_eq, eon, if_pos rfl]; rfl
     . exact fun z => by
         subst z
         rw [s2 _ _ hd] at hp; cases hp
   . refine ifT (decide_eq_true ?_) ⟨_, rfl, ?_⟩
     . rw [List.length_map]
       have : 0 < xs.length := by
         cases xs with
         | nil => exact absurd rfl q
         | cons _ _ => simp
       omega
     . refine push b _ s2 ?_ (bD b fun z => by have := hbx; unfold NL at this; rw [z] at this; cases this)
       rw [WM.on_eq, eon, if_neg q]
       exact hbx2
 . intro H2 acc s1 hd hl' hg2
   obtain ⟨bs, rfl, hbl, hbs⟩ := hg2
   rw [List.length_map, hsz] at hbl
   refine k H2 D s1 ⟨bs, hd, by rw [hbl]; simp [Graph.all], fun j b hb => ⟨g.on j, ?_, (hbs j b hb).1⟩⟩
   have := Zi hb
   rw [List.getElem?_map]
   unfold Graph.all
   rw [List.getElem?_range (by omega)]; rfl
end
def BB (H : Hp) (a : Addr) (S : List Ways.Set) : Prop := ∃ xs : List Addr, H a = some (.lst (xs.map V.ref)) /\ xs.length = S.length /\ ∀ (j : Nat) (x : Addr), xs[j]? = some x -> ∃ b, S[j]? = some b /\ BL H x b
theorem BB.same {H H' : Hp} {a : Addr} {S : List Ways.Set} (h : BB H a S) (s : Same H H') : BB H' a S := by
 obtain ⟨as, h1, h2, h3⟩ := h
 refine ⟨as, s _ _ h1, h2, fun j b hb => ?_⟩
 obtain ⟨xs, e, h⟩ := h3 j b hb
 exact ⟨xs, e, h.same s⟩
theorem BB.at_ {H : Hp} {a : Addr} {S : List Ways.Set} {xs : List Addr} (h1 : xs.length = S.length) (h2 : ∀ (j : Nat) (x : Addr), xs[j]? = some x -> ∃ b, S[j]? = some b /\ BL H x b) {j : Nat} (hj : j < S.length) : ∃ x, xs[j]? = some x /\ BL H x (S.getD j []) := by
 obtain ⟨x, hx⟩ : ∃ x, xs[j]? = some x := ⟨_, List.getElem?_eq_getElem (by omega)⟩
 obtain ⟨b, e, h⟩ := h2 j x hx
 refine ⟨x, hx, ?_⟩
 rw [List.getD_eq_getElem?_getD, e]
 exact h
section
variable {g : Graph} {a b : Ways.Set}
theorem map_yes {α : Type} {xs : List α} (h : xs.length = g.size) : (xs.map fun _ => true) = g.setBy fun _ => true := by
 refine WM.set_ext (n := g.size) (by rw [List.length_map]; exact h) (WM.Ze _ _) fun s hs => ?_
 rw [WM.Zu hs]
 obtain ⟨x, hx⟩ : ∃ x, xs[s]? = some x := ⟨_, List.getElem?_eq_getElem (by omega)⟩
 exact WM.Qp (Zh hx)
theorem map_not (h : a.length = g.size) : (a.map fun b => !b) = g.setBy fun s => !Ways.has a s := by
 refine WM.set_ext (n := g.size) (by rw [List.length_map]; exact h) (WM.Ze _ _) fun s hs => ?_
 rw [WM.Zu hs]
 exact WM.Qp (Zh (WM.Yz (by omega)))
theorem one_all (wf : WF g) (h : a.length = g.size) : one g 6 0 a b = allF g a := by
 show g.setBy (fun s => !Ways.has (g.setBy (g.someNext (g.setBy fun s => !Ways.has a s))) s) = g.setBy _
 refine WM.Qg fun s hs => ?_
 rw [WM.Zu hs]
 show (!(g.on s).any (Ways.has (g.setBy fun s => !Ways.has a s))) = (g.on s).all (Ways.has a)
 have key : ∀ l : List Nat, (∀ t ∈ l, t < g.size) -> (!l.any (Ways.has (g.setBy fun s => !Ways.has a s))) = l.all (Ways.has a) := by
   intro l
   induction l with
   | nil => intro _; rfl
   | cons t l ih =>
     intro hl
     rw [List.any_cons, List.all_cons, WM.Zu (hl t (by simp)), <- ih fun u hu => hl u (by simp [hu]), Bool.not_or, Bool.not_not]
 exact key _ (wf.on_lt hs)
theorem yes_len : (g.setBy fun _ => true).length = g.size := WM.Ze _ _
theorem one_keeps (wf : WF g) (h : a.length = g.size) : ((Vu allF g (g.setBy fun _ => true) (g.setBy fun s => !Ways.has a s)).map fun b => !b) = one g 7 0 a b := by
 have hl : (Vu allF g (g.setBy fun _ => true) (g.setBy fun s => !Ways.has a s)).length = g.size := by
   rw [Ue]; exact WM.Xd (WM.Ze _ _) _
 rw [map_not hl, Ue]
 exact WM.keep_dual wf h g.size
theorem one_kept (h : a.length = g.size) : ((Vu Uh g (g.setBy fun _ => true) (g.setBy fun s => !Ways.has a s)).map fun b => !b) = one g 8 0 a b := by
 have hl : (Vu Uh g (g.setBy fun _ => true) (g.setBy fun s => !Ways.has a s)).length = g.size := by
   rw [Vp]; exact WM.Vt (WM.Ze _ _) _
 rw [map_not hl, Vp]; rfl
theorem one_come (wf : WF g) (h : a.length = g.size) : Vu allF g (g.setBy fun _ => true) a = one g 10 0 a b := by
 rw [Ue]
 show _ = g.setBy fun s => !Ways.has (g.keep (g.setBy fun s => !Ways.has a s) g.size) s
 rw [<- WM.keep_dual wf (WM.Ze _ _) g.size]
 have e : (g.setBy fun s => !Ways.has (g.setBy fun s => !Ways.has a s) s) = a := by
   refine WM.set_ext (WM.Ze _ _) h fun s hs => ?_
   rw [WM.Zu hs, WM.Zu hs, Bool.not_not]
 rw [e]
 refine WM.set_ext (WM.Xd h _) (WM.Ze _ _) fun s hs => ?_
 rw [WM.Zu hs, WM.Zu hs, Bool.not_not]
end
def spWhereWays : Sp := fun vs H Q _ => ∃ (o bh : Addr) (k : Nat) (g : Graph) (S : List Ways.Set), vs = [.ref o, nv k, .ref bh] /\ WF g /\ LL H o (g.all.map g.on) /\ 5 <= k /\ k < 13 /\ BB H bh S /\ S.length = behindN k /\ (∀ b ∈ S, b.length = g.size) /\
 ∀ (H' : Hp) (p : Addr), Same H H' -> BL H' p (one g k 0 (S.getD 0 []) (S.getD 1 [])) -> Q (.ref p) H'
section
variable {P : Program} {w : World} {K : PySem.W.Frag} {mg : Str -> Option Value} {base : Heap}
theorem ok_where_ways_are {f fS fA : Addr} {fd : FuncData} (F : Fun K "where_ways_are" "where_ways_are" Vh f fd) (T : Txt K mg)
   (Dsome_next : DefA P w K mg base "some_next" fS 1 ["onward", "held"] (Qs Uh)) (Dall_next : DefA P w K mg base "all_next" fA 1 ["onward", "held"] (Qs allF))
   (Duntil : Def P w K mg base "until" 3 ["step", "onward", "before", "goal"] (spUse2 fS fA Vu)) (Deverywhere : Def P w K mg base "everywhere" 1 ["states"] Xx) (Dnegated : Def P w K mg base "negated" 1 ["held"] spNegated) :
   FnOk P w K mg base CX0 4 f fd ["onward", "number", "behind"] spWhereWays := by
 refine F.ok sc_where_ways_are (fun vs H Q E h => ?_) (fun cdv A outer s H vs Q E hr h => ?_)
 . obtain ⟨_, _, _, _, _, rfl, _⟩ := h
   rfl
 obtain ⟨o, bh, n, g, S, rfl, wf, ho, n5, n13, hb, hS, hSl, k⟩ := h
 refine ⟨_, (Za (Zr (i := 3) sc_where_ways_are.nd rfl (.inl rfl) (Zm (Zd K) (pv 2) Zj (fun _ _ => rfl)))
   (Za (Yf (Zq Yr (pv 1) (Zy T.gSOME_NEXT) (Zt _)) (Zc (Zg (Zk Dsome_next.def hr.m (pa2 (pv 0) (pv 3))))) Zo)
   (Za (Yf (Zq Yr (pv 1) (Zy T.gALL_NEXT) (Zt _)) (Zc (Zg (Zk Dall_next.def hr.m (pa2 (pv 0) (pv 3))))) Zo)
   (Za (Yf (Zq Yr (pv 1) (Zy T.gSOME_KEEPS) (Zt _)) (Zc (Zg (Zk Dnegated hr.m (pa1 (Zk Duntil hr.m (pa4 (pe_gr Dall_next.at_) (pv 0) (Zk Deverywhere hr.m (pa1 (pv 3))) (Zk Dnegated hr.m (pa1 (pv 3))))))))) Zo)
   (Za (Yf (Zq Yr (pv 1) (Zy T.gALL_KEEP) (Zt _)) (Zc (Zg (Zk Dnegated hr.m (pa1 (Zk Duntil hr.m (pa4 (pe_gr Dsome_next.at_) (pv 0) (Zk Deverywhere hr.m (pa1 (pv 3))) (Zk Dnegated hr.m (pa1 (pv 3))))))))) Zo)
   (Za (Yf (Zq Yr (pv 1) (Zy T.gSOME_COMES) (Zt _)) (Zc (Zg (Zk Duntil hr.m (pa4 (pe_gr Dsome_next.at_) (pv 0) (Zk Deverywhere hr.m (pa1 (pv 3))) (pv 3))))) Zo)
   (Za (Yf (Zq Yr (pv 1) (Zy T.gALL_COME) (Zt _)) (Zc (Zg (Zk Duntil hr.m (pa4 (pe_gr Dall_next.at_) (pv 0) (Zk Deverywhere hr.m (pa1 (pv 3))) (pv 3))))) Zo)
   (Za (Yf (Zq Yr (pv 1) (Zy T.gSOME_UNTIL) (Zt _)) (Zc (Zg (Zk Duntil hr.m (pa4 (pe_gr Dsome_next.at_) (pv 0) (pv 3) (Zm (Zd K) (pv 2) Zj (fun _ _ => rfl)))))) Zo)
   (Zc (Zg (Zk Duntil hr.m (pa4 (pe_gr Dall_next.at_) (pv 0) (pv 3) (Zm (Zd K) (pv 2) Zj (fun _ _ => rfl)))))))))))))), ?_⟩
 have h12 := wf.le
 obtain ⟨xs, hx, hxl, hxs⟩ := id hb
 have hS1 : 1 <= S.length := by
   rw [hS]; unfold behindN
   split
   . omega
   . rw [if_neg (by omega)]; omega
 obtain ⟨x0, hx0, hb0⟩ := BB.at_ (H := H) (a := bh) hxl hxs (j := 0) (by omega)
 have len0 : (S.getD 0 []).length = g.size := by
   rw [List.getD_eq_getElem?_getD, List.getElem?_eq_getElem (by omega)]
   exact hSl _ (List.getElem_mem _)
 generalize hA : S.getD 0 [] = a at hb0 len0 k
 refine ⟨_, rfl, bh, _, _, _, rfl, rfl, SqL.of hx, Yh (j := 0) rfl (Zh hx0), ?_⟩
 have hal : (a.map V.bl).length = g.size := by rw [List.length_map]; exact len0
 -- what stands behind until's first two arguments
 have hk : n = 5 \/ n = 6 \/ n = 7 \/ n = 8 \/ n = 9 \/ n = 10 \/ n = 11 \/ n = 12 := by omega
 have two : n = 11 \/ n = 12 -> ∃ x1, xs[1]? = some x1 /\ BL H x1 (S.getD 1 []) /\ (S.getD 1 []).length = g.size := fun q => by
   have hS2 : S.length = 2 := by rw [hS]; rcases q with q | q <;> (subst q; rfl)
   obtain ⟨x1, h1, h2⟩ := BB.at_ (H := H) (a := bh) hxl hxs (j := 1) (by omega)
   refine ⟨x1, h1, h2, ?_⟩
   rw [List.getD_eq_getElem?_getD, List.getElem?_eq_getElem (by omega)]
   exact hSl _ (List.getElem_mem _)
 rcases hk with q | q | q | q | q | q | q | q <;> subst q
 . refine ⟨_, rfl, rfl, _, rfl, ifE rfl ⟨_, rfl, _, rfl, o, x0, g, a, rfl, wf, ho, hb0, len0, fun H' p s1 hp => k H' p s1 hp⟩⟩
 . refine ⟨_, rfl, rfl, _, rfl, ifN (by decide) ⟨_, rfl, rfl, _, rfl, ifE rfl ⟨_, rfl, _, rfl, o, x0, g, a, rfl, wf, ho, hb0, len0, fun H' p s1 hp => k H' p s1 ?_⟩⟩⟩
   rw [one_all wf len0]; exact hp
 . refine ⟨_, rfl, rfl, _, rfl, ifN (by decide) ⟨_, rfl, rfl, _, rfl, ifN (by decide) ⟨_, rfl, rfl, _, rfl, ifE rfl ?_⟩⟩⟩
   refine ⟨_, rfl, _, rfl, x0, _, rfl, hb0, by omega, fun H1 p1 s1 hp1 => ?_⟩
   refine ⟨_, rfl, x0, a, rfl, hb0.same s1, by omega, fun H2 p2 s2 hp2 => ?_⟩
   rw [map_yes hal] at hp1
   rw [map_not len0] at hp2
   refine .inr ⟨o, p1, p2, g, _, _, rfl, wf, (ho.same s1).same s2, hp1.same s2, hp2, yes_len, WM.Ze _ _, fun H3 p3 s3 hp3 => ?_⟩
   refine ⟨p3, _, rfl, hp3, ?_, fun H4 p4 s4 hp4 => k H4 p4 (((s1.trans s2).trans s3).trans s4) ?_⟩
   . rw [Ue, WM.Xd (WM.Ze _ _)]; omega
   . rw [one_keeps wf len0] at hp4; exact hp4
 . refine ⟨_, rfl, rfl, _, rfl, ifN (by decide) ⟨_, rfl, rfl, _, rfl, ifN (by decide) ⟨_, rfl, rfl, _, rfl, ifN (by decide) ⟨_, rfl, rfl, _, rfl, ifE rfl ?_⟩⟩⟩⟩
   refine ⟨_, rfl, _, rfl, x0, _, rfl, hb0, by omega, fun H1 p1 s1 hp1 => ?_⟩
   refine ⟨_, rfl, x0, a, rfl, hb0.same s1, by omega, fun H2 p2 s2 hp2 => ?_⟩
   rw [map_yes hal] at hp1
   rw [map_not len0] at hp2
   refine .inl ⟨o, p1, p2, g, _, _, rfl, wf, (ho.same s1).same s2, hp1.same s2, hp2, yes_len, WM.Ze _ _, fun H3 p3 s3 hp3 => ?_⟩
   refine ⟨p3, _, rfl, hp3, ?_, fun H4 p4 s4 hp4 => k H4 p4 (((s1.trans s2).trans s3).trans s4) ?_⟩
   . rw [Vp, WM.Vt (WM.Ze _ _)]; omega
   . rw [one_kept len0] at hp4; exact hp4
 . refine ⟨_, rfl, rfl, _, rfl, ifN (by decide) ⟨_, rfl, rfl, _, rfl, ifN (by decide) ⟨_, rfl, rfl, _, rfl, ifN (by decide) ⟨_, rfl, rfl, _, rfl, ifN (by decide) ⟨_, rfl, rfl, _, rfl, ifE rfl ?_⟩⟩⟩⟩⟩
   refine ⟨_, rfl, _, rfl, x0, _, rfl, hb0, by omega, fun H1 p1 s1 hp1 => ?_⟩
   rw [map_yes hal] at hp1
   refine ⟨_, rfl, .inl ⟨o, p1, x0, g, _, _, rfl, wf, ho.same s1, hp1, hb0.same s1, yes_len, len0, fun H3 p3 s3 hp3 => k H3 p3 (s1.trans s3) ?_⟩⟩
   rw [Vp] at hp3; exact hp3
 . refine ⟨_, rfl, rfl, _, rfl, ifN (by decide) ⟨_, rfl, rfl, _, rfl, ifN (by decide) ⟨_, rfl, rfl, _, rfl, ifN (by decide) ⟨_, rfl, rfl, _, rfl, ifN (by decide) ⟨_, rfl, rfl, _, rfl, ifN (by decide) ⟨_, rfl, rfl, _, rfl, ifE rfl ?_⟩⟩⟩⟩⟩⟩
   refine ⟨_, rfl, _, rfl, x0, _, rfl, hb0, by omega, fun H1 p1 s1 hp1 => ?_⟩
   rw [map_yes hal] at hp1
   refine ⟨_, rfl, .inr ⟨o, p1, x0, g, _, _, rfl, wf, ho.same s1, hp1, hb0.same s1, yes_len, len0, fun H3 p3 s3 hp3 => k H3 p3 (s1.trans s3) ?_⟩⟩
   rw [one_come (b := S.getD 1 []) wf len0] at hp3; exact hp3
 . refine ⟨_, rfl, rfl, _, rfl, ifN (by decide) ⟨_, rfl, rfl, _, rfl, ifN (by decide) ⟨_, rfl, rfl, _, rfl, ifN (by decide) ⟨_, rfl, rfl, _, rfl, ifN (by decide) ⟨_, rfl, rfl, _, rfl, ifN (by decide) ⟨_, rfl, rfl, _, rfl, ifN (by decide) ⟨_, rfl, rfl, _, rfl, ifE rfl ?_⟩⟩⟩⟩⟩⟩⟩
   obtain ⟨x1, hx1, hb1, len1⟩ := two (.inl rfl)
   refine ⟨_, rfl, _, rfl, _, rfl, bh, _, _, _, rfl, rfl, SqL.of hx, Yh (j := 1) rfl (Zh hx1), .inl ⟨o, x0, x1, g, _, _, rfl, wf, ho, hb0, hb1, len0, len1, fun H3 p3 s3 hp3 => k H3 p3 s3 ?_⟩⟩
   rw [Vp] at hp3; exact hp3
 . refine ⟨_, rfl, rfl, _, rfl, ifN (by decide) ⟨_, rfl, rfl, _, rfl, ifN (by decide) ⟨_, rfl, rfl, _, rfl, ifN (by decide) ⟨_, rfl, rfl, _, rfl, ifN (by decide) ⟨_, rfl, rfl, _, rfl, ifN (by decide) ⟨_, rfl, rfl, _, rfl, ifN (by decide) ⟨_, rfl, rfl, _, rfl, ifN (by decide) ?_⟩⟩⟩⟩⟩⟩⟩
   obtain ⟨x1, hx1, hb1, len1⟩ := two (.inr rfl)
   refine ⟨_, rfl, _, rfl, _, rfl, bh, _, _, _, rfl, rfl, SqL.of hx, Yh (j := 1) rfl (Zh hx1), .inr ⟨o, x0, x1, g, _, _, rfl, wf, ho, hb0, hb1, len0, len1, fun H3 p3 s3 hp3 => k H3 p3 s3 ?_⟩⟩
   rw [Ue] at hp3; exact hp3
end
section
variable {g : Graph} {a b : Ways.Set}
theorem one_or (h : a.length = g.size) (h' : b.length = g.size) : one g 4 0 a b = g.setBy fun s => Ways.has a s || Ways.has b s := by
 show g.setBy (fun s => !Ways.has (g.setBy fun s => Ways.has (g.setBy fun s => !Ways.has a s) s && Ways.has (g.setBy fun s => !Ways.has b s) s) s) = _
 refine WM.Qg fun s hs => ?_
 rw [WM.Zu hs, WM.Zu hs, WM.Zu hs, Bool.not_and, Bool.not_not, Bool.not_not]
theorem bit_at (x m : Nat) : decide (V.int (Builtin.bitAnd ((x : Int) / 2 ^ ((m : Int)).toNat) 1) = V.int 1) = x.testBit m := by
 rw [bitAnd_m1, Int.toNat_natCast, Nat.testBit_eq_decide_div_mod_eq]
 have e : ((x : Int) / 2 ^ m) % 2 = ((x / 2 ^ m % 2 : Nat) : Int) := by
   rw [Int.natCast_emod, Int.natCast_ediv, Int.natCast_pow]; rfl
 rw [e]
 by_cases q : x / 2 ^ m % 2 = 1
 . rw [decide_eq_true q, q]; rfl
 . rw [decide_eq_false q]
   exact decide_eq_false fun z => q (by have := V.int.inj z; omega)
theorem setBy_map (f : Nat -> Bool) : (g.setBy f).map V.bl = (List.range g.size).map fun s => V.bl (f s) := by
 show (g.all.map f).map V.bl = _
 rw [List.map_map]; rfl
end
def spOne (CG : Addr) : Sp := fun vs H Q _ => ∃ (ga bh : Addr) (k m : Nat) (g : Graph) (S : List Ways.Set), vs = [.ref ga, nv k, nv m, .ref bh] /\ WF g /\ GraphAt CG H ga g /\ k < 13 /\ m < 8 /\ BB H bh S /\ S.length = behindN k /\ (∀ b ∈ S, b.length = g.size) /\ (k ≠ 1 -> m = 0) /\
 ∀ (H' : Hp) (p : Addr), Same H H' -> BL H' p (one g k m (S.getD 0 []) (S.getD 1 [])) -> Q (.ref p) H'
section
variable {P : Program} {w : World} {K : PySem.W.Frag} {mg : Str -> Option Value} {base : Heap}
def spHasMark : Sp := fun vs H Q _ => ∃ x m : Nat, vs = [nv x, nv m] /\ m < 8 /\ Q (.bl (x.testBit m)) H
theorem ok_has_mark {f : Addr} {fd : FuncData} (F : Fun K "has_mark" "has_mark" s_has_mark f fd) (T : Txt K mg) : FnOk P w K mg base CX0 1 f fd ["marks", "mark"] spHasMark := by
 refine F.ok sc_has_mark (fun vs H Q E h => ?_) (fun cdv A outer s H vs Q E hr h => ?_)
 . obtain ⟨_, _, rfl, _⟩ := h
   rfl
 obtain ⟨x, m, rfl, m8, k⟩ := h
 refine ⟨_, (Zc (Zg (Ua Yr (Xh op_and (Xh op_shr (pv 0) (pv 1)) Zj) Zj (Zt _)))), ?_⟩
 refine ⟨_, rfl, _, rfl, _, _, rfl, rfl, (by omega), _, _, rfl, rfl, rfl, ?_⟩
 rw [<- bit_at x m] at k
 exact k
theorem ok_where_one_holds {f CG : Addr} {fd : FuncData} (F : Fun K "where_one_holds" "where_one_holds" Xz f fd) (T : Txt K mg) (TG : TxG K mg CG)
   (Deverywhere : Def P w K mg base "everywhere" 1 ["states"] Xx) (Dnegated : Def P w K mg base "negated" 1 ["held"] spNegated) (Dways_on : Def P w K mg base "ways_on" 1 ["graph"] (Uf CG))
   (Dwhere_ways_are : Def P w K mg base "where_ways_are" 4 ["onward", "number", "behind"] spWhereWays) (Dhas_mark : Def P w K mg base "has_mark" 1 ["marks", "mark"] spHasMark) :
   FnOk P w K mg base CX0 5 f fd ["graph", "number", "mark", "behind"] (spOne CG) := by
 refine F.ok sc_where_one_holds (fun vs H Q E h => ?_) (fun cdv A outer s H vs Q E hr h => ?_)
 . obtain ⟨_, _, _, _, _, _, rfl, _⟩ := h
   rfl
 obtain ⟨ga, bh, n, m, g, S, rfl, wf, hG, n13, m8, hb, hS, hSl, hm0, k⟩ := h
 refine ⟨_, (Za (Yf (Zq Yr (pv 1) (Zy T.gALWAYS) (Zt _)) (Zc (Zg (Zk Deverywhere hr.m (pa1 (Ye K (pv 0)))))) Zo)
   (Za (Yf (Zq Yr (pv 1) (Zy T.gMARKED) (Zt _)) (Zc (Zg (Yu rfl sc_where_one_holds.nd (Yg K (Ye K (pv 0))) (own := [("marks", 4)]) (Ya (by rfl)) (fun _ _ _ _ _ => Zp (i := 4) sc_where_one_holds.nd rfl (.inl rfl)) (fun _ _ _ _ _ => Yn) (fun _ _ _ _ _ => (Zk Dhas_mark hr.m (pa2 (pv 4) (pv 2))))))) Zo)
   (Za (Yf (Zq Yr (pv 1) (Zy T.gNOT) (Zt _)) (Zc (Zg (Zk Dnegated hr.m (pa1 (Zm (Zd K) (pv 3) Zj (fun _ _ => rfl)))))) Zo)
   (Za (Yf (Zq Yr (pv 1) (Zy T.gBOTH) (Zt _)) (Zc (Zg (Yu rfl sc_where_one_holds.nd (pi_zipK K rfl T.nzip (pa2 (Zm (Zd K) (pv 3) Zj (fun _ _ => rfl)) (Zm (Zd K) (pv 3) Zj (fun _ _ => rfl)))) (own := [("f", 5), ("h", 6)]) (Ya (by rfl)) (fun _ _ _ _ _ => Qi K (n := 2) rfl (Ys (Zp (i := 5) sc_where_one_holds.nd rfl (.inl rfl)) (Ys (Zp (i := 6) sc_where_one_holds.nd rfl (.inl rfl)) Qh))) (fun _ _ _ _ _ => Yn) (fun _ _ _ _ _ => (pe_and (pv 5) (pe_one (pv 6))))))) Zo)
   (Za (Yf (Zq Yr (pv 1) (Zy T.gEITHER) (Zt _)) (Zc (Zg (Yu rfl sc_where_one_holds.nd (pi_zipK K rfl T.nzip (pa2 (Zm (Zd K) (pv 3) Zj (fun _ _ => rfl)) (Zm (Zd K) (pv 3) Zj (fun _ _ => rfl)))) (own := [("f", 5), ("h", 6)]) (Ya (by rfl)) (fun _ _ _ _ _ => Qi K (n := 2) rfl (Ys (Zp (i := 5) sc_where_one_holds.nd rfl (.inl rfl)) (Ys (Zp (i := 6) sc_where_one_holds.nd rfl (.inl rfl)) Qh))) (fun _ _ _ _ _ => Yn) (fun _ _ _ _ _ => (pe_or (pv 5) (pe_one (pv 6))))))) Zo)
   (Zc (Zg (Zk Dwhere_ways_are hr.m (pa3 (Zk Dways_on hr.m (pa1 (pv 0))) (pv 1) (pv 3)))))))))), ?_⟩
 have h12 := wf.le
 obtain ⟨dg, am, at', hg, hmk, hnx⟩ := id hG
 obtain ⟨xs, hx, hxl, hxs⟩ := id hb
 have fld : (g.marks.map nv).length = g.size := List.length_map _
 have lens : ∀ j, j < S.length -> (S.getD j []).length = g.size := fun j hj => by
   rw [List.getD_eq_getElem?_getD, List.getElem?_eq_getElem hj]
   exact hSl _ (List.getElem_mem _)
 refine ⟨_, rfl, rfl, _, rfl, ?_⟩
 by_cases q0 : n = 0
 . subst q0
   refine ifE rfl ⟨_, rfl, ga, CG, dg, _, _, rfl, hg, TG.cl, TG.nM, Xc _ _, am, _, rfl, hmk, by omega, fun H1 p1 s1 hp1 => k H1 p1 s1 ?_⟩
   rw [map_yes fld] at hp1; exact hp1
 refine ifN (show (n : Int) ≠ 0 by omega) ⟨_, rfl, rfl, _, rfl, ?_⟩
 by_cases q1 : n = 1
 . subst q1
   refine ifE rfl ⟨_, rfl, ga, CG, dg, _, _, rfl, hg, TG.cl, TG.nM, Xc _ _, am, rfl, ⟨_, SqL.of hmk⟩, fun D hD => ?_⟩
   refine lcL (SqL.of hmk) hD (fun i acc _ => acc = (List.range i).map fun s => V.bl ((g.mark s).testBit m)) rfl ?_ ?_
   . intro i H2 acc x hx2 s1 hd hl' hg2
     obtain ⟨x, hx3, rfl⟩ := Zz hx2
     have hi := Zi hx3
     have hi : i < g.size := hi
     have em : g.mark i = x := by unfold Graph.mark; rw [List.getD_eq_getElem?_getD, hx3]; rfl
     refine ⟨rfl, _, rfl, _, rfl, x, m, rfl, m8, ?_⟩
     refine LcOk.push hD s1 hd hl' (Same.refl _) (Zn (m := 100) (by omega)) ?_
     rw [hg2, Yi, List.map_append, List.map_singleton, em]
   . intro H2 acc s1 hd hl' hg2
     refine k H2 D s1 ?_
     show H2 D = some (.lst ((g.setBy _).map V.bl))
     rw [fld] at hg2
     rw [hd, hg2, setBy_map]
 have hm00 := hm0 q1
 subst hm00
 refine ifN (show (n : Int) ≠ 1 by omega) ⟨_, rfl, rfl, _, rfl, ?_⟩
 by_cases q2 : n = 2
 . subst q2
   obtain ⟨x0, hx0, hb0⟩ := BB.at_ (H := H) (a := bh) hxl hxs (j := 0) (by rw [hS]; decide)
   have len0 := lens 0 (by rw [hS]; decide)
   refine ifE rfl ⟨_, rfl, bh, _, _, _, rfl, rfl, SqL.of hx, Yh (j := 0) rfl (Zh hx0), x0, _, rfl, hb0, by omega, fun H1 p1 s1 hp1 => k H1 p1 s1 ?_⟩
   rw [map_not len0] at hp1; exact hp1
 refine ifN (show (n : Int) ≠ 2 by omega) ⟨_, rfl, rfl, _, rfl, ?_⟩
 have pair : n = 3 \/ n = 4 -> ∃ x0 x1, xs[0]? = some x0 /\ xs[1]? = some x1 /\ BL H x0 (S.getD 0 []) /\ BL H x1 (S.getD 1 []) /\ (S.getD 0 []).length = g.size /\ (S.getD 1 []).length = g.size := fun q => by
   have hS2 : S.length = 2 := by rw [hS]; rcases q with q | q <;> (subst q; rfl)
   obtain ⟨x0, h1, h2⟩ := BB.at_ (H := H) (a := bh) hxl hxs (j := 0) (by omega)
   obtain ⟨x1, h3, h4⟩ := BB.at_ (H := H) (a := bh) hxl hxs (j := 1) (by omega)
   exact ⟨x0, x1, h1, h3, h2, h4, lens 0 (by omega), lens 1 (by omega)⟩
 by_cases q3 : n = 3
 . obtain ⟨x0, x1, hx0, hx1, hb0, hb1, l0, l1⟩ := pair (.inl q3)
   subst q3
   generalize S.getD 0 [] = a at hb0 l0 k
   generalize S.getD 1 [] = b at hb1 l1 k
   refine ifE rfl ⟨_, rfl, bh, _, _, _, rfl, rfl, SqL.of hx, Yh (j := 0) rfl (Zh hx0), _, rfl, bh, _, _, _, rfl, rfl, SqL.of hx, Yh (j := 1) rfl (Zh hx1), x0, x1, _, _, rfl, SqL.of hb0, SqL.of hb1, fun D hD => ?_⟩
   refine lcZ (SqL.of hb0) (SqL.of hb1) (by rw [List.length_map, List.length_map, l0, l1]) hD (fun i acc _ => acc = (List.range i).map fun s => V.bl (Ways.has a s && Ways.has b s)) rfl ?_ ?_
   . intro i H2 acc x y Tp hx2 hy2 s1 hd hl' hg2 hT
     obtain ⟨xa, hxa, rfl⟩ := Zz hx2
     obtain ⟨xb, hxb, rfl⟩ := Zz hy2
     have hi := Zi hxa
     have ea := WM.Qp hxa
     have eb := WM.Qp hxb
     refine ⟨Tp, _, rfl, SqT.of Zb, rfl, _, _, rfl, _, _, rfl, rfl, rfl, _, rfl, _, rfl, ?_⟩
     cases xa with
     | false =>
       refine ifF rfl (LcOk.push hD s1 hd hl' (Same.new hT) (Zn (m := 100) (by omega)) ?_)
       rw [hg2, Yi, List.map_append, List.map_singleton, ea]; rfl
     | true =>
       refine ifT rfl ⟨_, rfl, LcOk.push hD s1 hd hl' (Same.new hT) (Zn (m := 100) (by omega)) ?_⟩
       rw [hg2, Yi, List.map_append, List.map_singleton, ea, eb]; rfl
   . intro H2 acc s1 hd hl' hg2
     refine k H2 D s1 ?_
     show H2 D = some (.lst ((g.setBy _).map V.bl))
     rw [List.length_map, l0] at hg2
     rw [hd, hg2, setBy_map]
 refine ifN (show (n : Int) ≠ 3 by omega) ⟨_, rfl, rfl, _, rfl, ?_⟩
 by_cases q4 : n = 4
 . obtain ⟨x0, x1, hx0, hx1, hb0, hb1, l0, l1⟩ := pair (.inr q4)
   subst q4
   generalize S.getD 0 [] = a at hb0 l0 k
   generalize S.getD 1 [] = b at hb1 l1 k
   refine ifE rfl ⟨_, rfl, bh, _, _, _, rfl, rfl, SqL.of hx, Yh (j := 0) rfl (Zh hx0), _, rfl, bh, _, _, _, rfl, rfl, SqL.of hx, Yh (j := 1) rfl (Zh hx1), x0, x1, _, _, rfl, SqL.of hb0, SqL.of hb1, fun D hD => ?_⟩
   refine lcZ (SqL.of hb0) (SqL.of hb1) (by rw [List.length_map, List.length_map, l0, l1]) hD (fun i acc _ => acc = (List.range i).map fun s => V.bl (Ways.has a s || Ways.has b s)) rfl ?_ ?_
   . intro i H2 acc x y Tp hx2 hy2 s1 hd hl' hg2 hT
     obtain ⟨xa, hxa, rfl⟩ := Zz hx2
     obtain ⟨xb, hxb, rfl⟩ := Zz hy2
     have hi := Zi hxa
     have ea := WM.Qp hxa
     have eb := WM.Qp hxb
     refine ⟨Tp, _, rfl, SqT.of Zb, rfl, _, _, rfl, _, _, rfl, rfl, rfl, _, rfl, _, rfl, ?_⟩
     cases xa with
     | true =>
       refine ifT rfl (LcOk.push hD s1 hd hl' (Same.new hT) (Zn (m := 100) (by omega)) ?_)
       rw [hg2, Yi, List.map_append, List.map_singleton, ea]; rfl
     | false =>
       refine ifF rfl ⟨_, rfl, LcOk.push hD s1 hd hl' (Same.new hT) (Zn (m := 100) (by omega)) ?_⟩
       rw [hg2, Yi, List.map_append, List.map_singleton, ea, eb]; rfl
   . intro H2 acc s1 hd hl' hg2
     refine k H2 D s1 ?_
     rw [one_or l0 l1]
     show H2 D = some (.lst ((g.setBy _).map V.bl))
     rw [List.length_map, l0] at hg2
     rw [hd, hg2, setBy_map]
 refine ifN (show (n : Int) ≠ 4 by omega) ⟨_, rfl, ga, g, rfl, wf, hG, fun H1 o s1 ho => ?_⟩
 exact ⟨_, rfl, _, rfl, o, bh, n, g, S, rfl, wf, ho, by omega, n13, hb.same s1, hS, hSl, fun H2 p s2 hp => k H2 p (s1.trans s2) hp⟩
end
def SetsAt (H : Hp) (ys : List Addr) (S : List Ways.Set) : Prop := ys.length = S.length /\ ∀ (j : Nat) (x : Addr), ys[j]? = some x -> ∃ b, S[j]? = some b /\ BL H x b
theorem SetsAt.same {H H' : Hp} {ys : List Addr} {S : List Ways.Set} (h : SetsAt H ys S) (s : Same H H') : SetsAt H' ys S :=
 ⟨h.1, fun j x hx => let ⟨b, e, hb⟩ := h.2 j x hx; ⟨b, e, hb.same s⟩⟩
theorem bl_ne {H : Hp} {x f : Addr} {b : List Bool} {zs : List Addr} (hb : BL H x b) (h0 : 0 < b.length) (hf : H f = some (.lst (zs.map V.ref))) : x ≠ f := by
 refine Xj hb hf fun z => ?_
 have e : b.map V.bl = zs.map V.ref := HO.lst.inj z
 cases b with
 | nil => simp at h0
 | cons c b =>
   cases zs with
   | nil => simp at e
   | cons d zs =>
     have := (List.cons.inj e).1
     cases this
theorem SetsAt.upd {H : Hp} {ys : List Addr} {S : List Ways.Set} {f : Addr} {zs : List Addr} {o : HO} (h : SetsAt H ys S) (hS : ∀ b ∈ S, 0 < b.length) (hf : H f = some (.lst (zs.map V.ref))) : SetsAt (L2.upd H f o) ys S := by
 refine ⟨h.1, fun j x hx => ?_⟩
 obtain ⟨b, e, hb⟩ := h.2 j x hx
 refine ⟨b, e, ?_⟩
 show L2.upd H f o x = _
 rw [Zl (bl_ne hb (hS b (List.mem_of_getElem? e)) hf)]
 exact hb
theorem SetsAt.drop {H : Hp} {ys : List Addr} {S : List Ways.Set} (h : SetsAt H ys S) (n : Nat) : SetsAt H (ys.drop n) (S.drop n) := by
 refine ⟨by rw [List.length_drop, List.length_drop, h.1], fun j x hx => ?_⟩
 rw [List.getElem?_drop] at hx ⊢
 exact h.2 _ x hx
theorem SetsAt.take {H : Hp} {ys : List Addr} {S : List Ways.Set} (h : SetsAt H ys S) (n : Nat) : SetsAt H (ys.take n) (S.take n) := by
 refine ⟨by rw [List.length_take, List.length_take, h.1], fun j x hx => ?_⟩
 have hj := Zi hx
 rw [List.length_take] at hj
 rw [List.getElem?_take_of_lt (by omega)] at hx ⊢
 exact h.2 _ x hx
theorem SetsAt.cons {H : Hp} {y : Addr} {ys : List Addr} {b : Ways.Set} {S : List Ways.Set} (hy : BL H y b) (h : SetsAt H ys S) : SetsAt H (y :: ys) (b :: S) := by
 refine ⟨by simp [h.1], fun j x hx => ?_⟩
 cases j with
 | zero =>
   have e : y = x := by simpa using hx
   subst e
   exact ⟨b, rfl, hy⟩
 | succ j => exact h.2 j x (by simpa using hx)
theorem one_length {g : Graph} {k m : Nat} {a b : Ways.Set} (hk : k < 13) (ha : 1 <= behindN k -> a.length = g.size) (hb : 2 <= behindN k -> b.length = g.size) : (one g k m a b).length = g.size := by
 have hk' : k = 0 \/ k = 1 \/ k = 2 \/ k = 3 \/ k = 4 \/ k = 5 \/ k = 6 \/ k = 7 \/ k = 8 \/ k = 9 \/ k = 10 \/ k = 11 \/ k = 12 := by omega
 rcases hk' with e | e | e | e | e | e | e | e | e | e | e | e | e <;> subst e
 . exact WM.Ze _ _
 . exact WM.Ze _ _
 . exact WM.Ze _ _
 . exact WM.Ze _ _
 . exact WM.Ze _ _
 . exact WM.Ze _ _
 . exact WM.Ze _ _
 . exact WM.Qn (ha (by decide)) _
 . exact WM.Ze _ _
 . exact WM.Vt (ha (by decide)) _
 . exact WM.Ze _ _
 . exact WM.Vt (hb (by decide)) _
 . exact WM.Xd (hb (by decide)) _
theorem Vo {g : Graph} : ∀ {P : List (Nat × Nat)} {n : Nat}, (∀ p ∈ P, p.1 < 13 /\ p.2 < 8) -> hRun P 0 = some n -> ∀ b ∈ backRun g P [], b.length = g.size
 | [], _, _, _, b, hb => by cases hb
 | p :: P, n, ok, h, b, hb => by
   have h : (match hRun P 0 with | none => none | some j => if behindN p.1 <= j then some (j - behindN p.1 + 1) else none) = some n := h
   cases e : hRun P 0 with
   | none => rw [e] at h; cases h
   | some j =>
     rw [e] at h
     have h : (if behindN p.1 <= j then some (j - behindN p.1 + 1) else none) = some n := h
     have ih := Vo (g := g) (fun q hq => ok q (List.mem_cons_of_mem _ hq)) e
     have hl : (backRun g P []).length = j := WM.Uz g (S := []) e
     by_cases q : behindN p.1 <= j
     . have get : ∀ i, i < behindN p.1 -> ((backRun g P []).getD i []).length = g.size := fun i hi => by
         rw [List.getD_eq_getElem?_getD, List.getElem?_eq_getElem (by omega)]
         exact ih _ (List.getElem_mem _)
       have hb : b ∈ stepBack g p (backRun g P []) := hb
       rcases List.mem_cons.mp hb with z | z
       . rw [z]
         exact one_length (ok p (by simp)).1 (fun z => get 0 (by omega)) (fun z => get 1 (by omega))
       . exact ih b (List.mem_of_mem_drop z)
     . rw [if_neg q] at h; cases h
theorem hRun_le : ∀ {P : List (Nat × Nat)} {h n : Nat}, hRun P h = some n -> n <= h + P.length
 | [], h, n, q => by
   have e : h = n := Option.some.inj q
   subst e; exact Nat.le_refl _
 | p :: P, h, n, q => by
   have q : (match hRun P h with | none => none | some j => if behindN p.1 <= j then some (j - behindN p.1 + 1) else none) = some n := q
   cases e : hRun P h with
   | none => rw [e] at q; cases q
   | some j =>
     rw [e] at q
     have q : (if behindN p.1 <= j then some (j - behindN p.1 + 1) else none) = some n := q
     have ih := hRun_le e
     rw [List.length_cons]
     by_cases z : behindN p.1 <= j
     . rw [if_pos z] at q
       cases q
       omega
     . rw [if_neg z] at q; cases q
theorem behind_cases (k : Nat) : (behindN k = 2 /\ (k = 3 \/ k = 4 \/ k = 11 \/ k = 12)) \/ (behindN k = 0 /\ (k = 0 \/ k = 1)) \/ behindN k = 1 := by
 unfold behindN
 split
 . rename_i h; exact .inl ⟨rfl, h⟩
 . split
   . rename_i h; exact .inr (.inl ⟨rfl, h⟩)
   . exact .inr (.inr rfl)
theorem one_free1 {g : Graph} {k m : Nat} {a b b' : Ways.Set} (hk : k < 13) (h : behindN k ≠ 2) : one g k m a b = one g k m a b' := by
 have hne : k ≠ 3 /\ k ≠ 4 /\ k ≠ 11 /\ k ≠ 12 := by
   refine ⟨?_, ?_, ?_, ?_⟩ <;> (intro e; subst e; exact h rfl)
 obtain ⟨h3, h4, h11, h12⟩ := hne
 unfold one
 repeat' split
 all_goals first | rfl | omega
theorem one_free0 {g : Graph} {k m : Nat} {a b a' b' : Ways.Set} (h : k = 0 \/ k = 1) : one g k m a b = one g k m a' b' := by
 rcases h with e | e <;> (subst e; rfl)
theorem one_take {g : Graph} {k m : Nat} {S : List Ways.Set} (hk : k < 13) : one g k m ((S.take (behindN k)).getD 0 []) ((S.take (behindN k)).getD 1 []) = one g k m (S.getD 0 []) (S.getD 1 []) := by
 rcases behind_cases k with ⟨e, _⟩ | ⟨_, e⟩ | e
 . rw [e]
   match S with
   | [] => rfl
   | [_] => rfl
   | _ :: _ :: _ => rfl
 . exact one_free0 e
 . rw [e, one_free1 (b' := S.getD 1 []) hk (by omega)]
   match S with
   | [] => rfl
   | _ :: _ => rfl
theorem behind_two {k : Nat} : behindN k <= 2 := by
 unfold behindN
 split
 . omega
 . split <;> omega
def spEach (CG : Addr) : Sp := fun vs H Q _ => ∃ (ga pl : Addr) (g : Graph) (R : List (Nat × Nat)) (n : Nat), vs = [.ref ga, .ref pl] /\ WF g /\ GraphAt CG H ga g /\ PL H pl R /\ R.length <= 64 /\ (∀ p ∈ R, p.1 < 13 /\ p.2 < 8 /\ (p.1 ≠ 1 -> p.2 = 0)) /\ hRun R 0 = some n /\
 ∀ (H' : Hp) (p : Addr), Same H H' -> BB H' p (backRun g R []) -> Q (.ref p) H'
section
variable {P : Program} {w : World} {K : PySem.W.Frag} {mg : Str -> Option Value} {base : Heap}
theorem ok_where_each_holds {f aB CG : Addr} {fd : FuncData} (F : Fun K "where_each_holds" "where_each_holds" Xp f fd) (T : Txt K mg) (B : TxB K mg aB)
   (Dwhere_one_holds : Def P w K mg base "where_one_holds" 5 ["graph", "number", "mark", "behind"] (spOne CG)) :
   FnOk P w K mg base CX0 6 f fd ["graph", "parts"] (spEach CG) := by
 refine F.ok sc_where_each_holds (fun vs H Q E h => ?_) (fun cdv A outer s H vs Q E hr h => ?_)
 . obtain ⟨_, _, _, _, _, rfl, _⟩ := h
   rfl
 obtain ⟨ga, pl, g, R, n, rfl, wf, hG, hP, h64, hok, hh, k⟩ := h
 refine ⟨_, (Za (Zr (i := 2) sc_where_each_holds.nd rfl (.inl rfl) (Zx Vc))
   (Za (Xr PassesOwn.never rfl (pi_reversedK K rfl T.nreversed (pa1 (pv 1))) (Qi K (n := 2) rfl (Ys (Zp (i := 3) sc_where_each_holds.nd rfl (.inl rfl)) (Ys (Zp (i := 4) sc_where_each_holds.nd rfl (.inl rfl)) Qh))) (Za (Zr (i := 5) sc_where_each_holds.nd rfl (.inl rfl) (Zx Vc))
   (Za (Xr PassesOwn.never rfl (Xe rfl T.nrange (pa1 (Zm (Xg K) (pe_gr B.at_) (pv 3) (fun _ _ => rfl)))) (Zp (i := 6) sc_where_each_holds.nd rfl (.inl rfl)) (Zc (Yt (Uw PySem.F.plainAttrs_list PySem.F.slot_list_append PySem.F.type_list_append Yy (pv 5) (pa1 (pe_bm0 PySem.F.plainAttrs_list PySem.F.slot_list_pop PySem.F.type_list_pop mt_pop (pv 2)))))))
   (Zc (Yt (Uw PySem.F.plainAttrs_list PySem.F.slot_list_append PySem.F.type_list_append Yy (pv 2) (pa1 (Zk Dwhere_one_holds hr.m (pa4 (pv 0) (pv 3) (pv 4) (pv 5))))))))))
   (Za (Yt (pe_bm0 PySem.F.plainAttrs_list PySem.F.slot_list_reverse PySem.F.type_list_reverse mt_reverse (pv 2)))
   (Zc (Zg (pv 2)))))), ?_⟩
 have h12 := wf.le
 have hpos := wf.pos
 obtain ⟨as, ha, hal, has⟩ := id hP
 refine ⟨Nat.zero_le _, fun fo hfo => ?_⟩
 have s0 : Same H (upd H fo (.lst [])) := Same.new hfo
 refine ⟨_, rfl, pl, _, rfl, SqL.of (s0 _ _ ha), ?_⟩
 refine for_rev (K := K) (a := pl) (xs := as.map V.ref) (fun i σ H' => ∃ (v3 v4 v5 v6 : Option V) (ys : List Addr), σ = [some (.ref ga), some (.ref pl), some (.ref fo), v3, v4, v5, v6] /\ Same H H' /\ H' fo = some (.lst (ys.reverse.map V.ref)) /\ SetsAt H' ys (backRun g (R.drop (R.length - i)) []))
   ⟨none, none, none, none, [], rfl, s0, Zb, ?_⟩ (fun i σ H' _ ⟨_, _, _, _, _, _, s1, _⟩ => SqL.of (s1 _ _ ha)) ?_ ?_
 . rw [Nat.sub_zero, List.drop_length]
   exact ⟨rfl, fun j x hx => by simp at hx⟩
 . rintro i x σ H1 hx hi ⟨v3, v4, v5, v6, ys, rfl, s1, hf1, hst⟩
   rw [List.length_map] at hi hx
   obtain ⟨tp, htp, rfl⟩ := Zz hx
   obtain ⟨p, hp, htup⟩ := has _ tp htp
   rw [hal] at hi hp
   obtain ⟨p13, p8, p0⟩ := hok p (List.mem_of_getElem? hp)
   -- the stack before, its height
   have ed : R.drop (R.length - (i + 1)) = p :: R.drop (R.length - i) := by
     have hlt : R.length - 1 - i < R.length := by omega
     have e1 : R.length - (i + 1) = R.length - 1 - i := by omega
     rw [e1, List.drop_eq_getElem_cons hlt]
     rw [List.getElem?_eq_getElem hlt] at hp
     rw [Option.some.inj hp, show R.length - 1 - i + 1 = R.length - i by omega]
   obtain ⟨m1, hm1⟩ := WM.hRun_drop hh (R.length - i)
   obtain ⟨m2, hm2⟩ := WM.hRun_drop hh (R.length - (i + 1))
   rw [ed] at hm2
   have hm2 : (match hRun (R.drop (R.length - i)) 0 with | none => none | some j => if behindN p.1 <= j then some (j - behindN p.1 + 1) else none) = some m2 := hm2
   rw [hm1] at hm2
   have hm2 : (if behindN p.1 <= m1 then some (m1 - behindN p.1 + 1) else none) = some m2 := hm2
   have hbm : behindN p.1 <= m1 := by
     by_cases q : behindN p.1 <= m1
     . exact q
     . rw [if_neg q] at hm2; cases hm2
   have hsl : (backRun g (R.drop (R.length - i)) []).length = m1 := WM.Uz g (S := []) hm1
   have hsz := Vo (g := g) (P := R.drop (R.length - i)) (fun q hq => let z := hok q (List.mem_of_mem_drop hq); ⟨z.1, z.2.1⟩) hm1
   generalize hSt : backRun g (R.drop (R.length - i)) [] = S at hst hsl hsz
   have hS0 : ∀ b ∈ S, 0 < b.length := fun b hb => by rw [hsz b hb]; exact hpos
   have hyl : ys.length = m1 := hst.1.trans hsl
   have ey : ∀ {y : Addr} {r : List Addr}, (y :: r).reverse.map V.ref = r.reverse.map V.ref ++ [V.ref y] := fun {y r} => by simp
   have htup1 := s1 _ _ htup
   refine ⟨tp, _, rfl, SqT.of htup1, rfl, _, _, rfl, _, _, rfl, rfl, Nat.zero_le _, fun bh hbh => ?_⟩
   have s2 : Same H1 (upd H1 bh (.lst [])) := Same.new hbh
   refine ⟨_, rfl, aB, _, _, _, rfl, rfl, B.tB _, Zs (Zh (behinds_get p13)), _, rfl, by have := behind_two (k := p.1); omega, by have := behind_two (k := p.1); omega, ?_⟩
   have etn : ((behindN p.1 : Nat) : Int).toNat = behindN p.1 := Int.toNat_natCast _
   show ∃ W : Nat -> Nat -> L2.St -> Hp -> Prop, _
   rw [etn]
   refine Ud (lo := 0) (n := behindN p.1) (fun j σ H' => ∃ v6 : Option V, σ = [some (.ref ga), some (.ref pl), some (.ref fo), some (nv p.1), some (nv p.2), some (.ref bh), v6] /\ Same H H' /\ H' bh = some (.lst ((ys.take j).map V.ref)) /\ H' fo = some (.lst ((ys.drop j).reverse.map V.ref)) /\ SetsAt H' ys S)
     ⟨v6, rfl, s1.trans s2, Zb, s2 _ _ hf1, hst.same s2⟩ ?_ ?_
   . rintro j σ H2 hj ⟨v6, rfl, s3, hb2, hf2, hst2⟩
     obtain ⟨y, hy⟩ : ∃ y, ys[j]? = some y := ⟨_, List.getElem?_eq_getElem (by omega)⟩
     have edr : ys.drop j = y :: ys.drop (j + 1) := by
       have hlt := Zi hy
       rw [List.drop_eq_getElem_cons hlt]
       rw [List.getElem?_eq_getElem hlt] at hy
       rw [Option.some.inj hy]
     rw [edr, ey] at hf2
     have hbf : bh ≠ fo := fun z => by rw [z, hf1] at hbh; cases hbh
     have hb3 : upd H2 fo (.lst (((ys.drop (j + 1)).reverse.map V.ref ++ [V.ref y]).dropLast)) bh = some (.lst ((ys.take j).map V.ref)) := by rw [Zl hbf]; exact hb2
     refine ⟨_, rfl, .inl ⟨rfl, _, SqL.of hb2⟩, _, rfl, .inl ⟨rfl, _, SqL.of hf2⟩, fo, _, V.ref y, rfl, rfl, hf2, ?_, bh, _, _, rfl, rfl, hb3, ?_, ?_⟩
     . rw [List.length_append, List.length_singleton, Nat.add_sub_cancel, List.getElem?_append_right (Nat.le_refl _), Nat.sub_self]; rfl
     . rw [List.length_map, List.length_take]
       have := behind_two (k := p.1)
       exact Zn (m := 100) (by omega)
     . have hst3 : SetsAt (upd H2 fo (.lst (((ys.drop (j + 1)).reverse.map V.ref ++ [V.ref y]).dropLast))) ys S := by
         refine hst2.upd hS0 (zs := (ys.drop j).reverse) ?_
         rw [hf2, edr, ey]
       refine ⟨_, rfl, ?_, ?_, ?_, ?_⟩
       . intro b o hbo
         have nb : b ≠ bh := fun z => by
           have := s1 _ _ hbo
           rw [z, hbh] at this; cases this
         have nf : b ≠ fo := fun z => by rw [z, hfo] at hbo; cases hbo
         rw [Zl nb, Zl nf]
         exact s3 _ _ hbo
       . rw [Zb, Yc hy, List.map_append]; rfl
       . rw [Zl (Ne.symm hbf), Zb, List.dropLast_concat]
       . exact hst3.upd hS0 (zs := ys.take j) hb3
   . rintro σ H2 ⟨v6, rfl, s3, hb2, hf2, hst2⟩
     have hBB : BB H2 bh (S.take (behindN p.1)) := by
       have z := hst2.take (behindN p.1)
       exact ⟨ys.take (behindN p.1), hb2, z.1, z.2⟩
     refine ⟨_, rfl, .inl ⟨rfl, _, SqL.of hf2⟩, _, rfl, _, rfl, _, rfl, _, rfl, ga, bh, p.1, p.2, g, S.take (behindN p.1), rfl, wf, hG.same s3, p13, p8, hBB, by rw [List.length_take]; omega, fun b hb => hsz b (List.mem_of_mem_take hb), p0, fun H3 px s4 hpx => ?_⟩
     have hf3 := s4 _ _ hf2
     refine ⟨fo, _, _, rfl, rfl, hf3, ?_, ?_⟩
     . rw [List.length_map, List.length_reverse, List.length_drop]
       have hml : m1 <= 64 := by
         have := hRun_le hm1
         rw [List.length_drop] at this
         omega
       exact Zn (m := 100) (by omega)
     . refine ⟨_, _, _, _, px :: ys.drop (behindN p.1), rfl, (s3.trans s4).put hfo, ?_, ?_⟩
       . rw [Zb, ey]
       . rw [ed]
         show SetsAt _ _ (stepBack g p (backRun g (R.drop (R.length - i)) []))
         rw [hSt]
         rw [one_take p13] at hpx
         have hsn : SetsAt H3 (px :: ys.drop (behindN p.1)) (stepBack g p S) := SetsAt.cons hpx ((hst2.same s4).drop _)
         refine hsn.upd (fun b hb => ?_) (zs := (ys.drop (behindN p.1)).reverse) hf3
         have hh2 : hRun (R.drop (R.length - (i + 1))) 0 = some m2 := by
           rw [ed]
           show (match hRun (R.drop (R.length - i)) 0 with | none => none | some j => if behindN p.1 <= j then some (j - behindN p.1 + 1) else none) = some m2
           rw [hm1]; exact hm2
         have := Vo (g := g) (P := R.drop (R.length - (i + 1))) (fun q hq => let z := hok q (List.mem_of_mem_drop hq); ⟨z.1, z.2.1⟩) hh2 b (by
           rw [ed]
           show b ∈ stepBack g p (backRun g (R.drop (R.length - i)) [])
           rw [hSt]; exact hb)
         omega
 . rintro σ H1 ⟨v3, v4, v5, v6, ys, rfl, s1, hf1, hst⟩
   rw [List.length_map, hal, Nat.sub_self, List.drop_zero] at hst
   have hsz := Vo (g := g) (fun q hq => let z := hok q hq; ⟨z.1, z.2.1⟩) hh
   refine ⟨_, rfl, .inl ⟨rfl, _, SqL.of hf1⟩, fo, _, rfl, rfl, hf1, _, rfl, k _ fo (s1.put hfo) ?_⟩
   have hst2 := hst.upd (fun b hb => by rw [hsz b hb]; exact hpos) (o := .lst (ys.reverse.map V.ref).reverse) hf1
   refine ⟨ys, ?_, hst2.1, hst2.2⟩
   rw [Zb, <- List.map_reverse, List.reverse_reverse]
end
theorem inV_nat (t : Nat) (l : List Nat) : inV (nv t) (l.map nv) = decide (t ∈ l) := by
 unfold inV
 induction l with
 | nil => rfl
 | cons x l ih =>
   rw [List.map_cons, List.any_cons, ih]
   show (((x : Int) == (t : Int)) || decide (t ∈ l)) = _
   by_cases e : x = t
   . subst e; simp
   . have h : ((x : Int) == (t : Int)) = false := by
       rw [beq_eq_false_iff_ne]; omega
     rw [h, Bool.false_or]
     by_cases q : t ∈ l
     . rw [decide_eq_true q, decide_eq_true (List.mem_cons_of_mem _ q)]
     . rw [decide_eq_false q, decide_eq_false fun z => (List.mem_cons.mp z).elim (fun y => e y.symm) q]
theorem flat_nats (l : List Nat) : (l.map nv).all flatV = true := by
 rw [List.all_eq_true]
 intro x hx
 obtain ⟨n, _, rfl⟩ := List.mem_map.mp hx
 rfl
theorem LL.at_ {H : Hp} {o : Addr} {g : Graph} (h : LL H o (g.all.map g.on)) : ∃ as : List Addr, H o = some (.lst (as.map V.ref)) /\ as.length = g.size /\ ∀ s, s < g.size -> ∃ b, as[s]? = some b /\ NL H b (g.on s) := by
 obtain ⟨as, h1, h2, h3⟩ := h
 have hsz : as.length = g.size := LL.len (H := H) (o := o) h2
 refine ⟨as, h1, hsz, fun s hs => ?_⟩
 obtain ⟨b, hb⟩ : ∃ b, as[s]? = some b := ⟨_, List.getElem?_eq_getElem (by omega)⟩
 obtain ⟨xs, hxs, hbl⟩ := h3 s b hb
 obtain ⟨_, rfl⟩ := all_get hxs
 exact ⟨b, hb, hbl⟩
def spLeast : Sp := fun vs H Q _ => ∃ (o h : Addr) (s t : Nat) (g : Graph) (a : Ways.Set), vs = [.ref o, nv s, .ref h] /\ WF g /\ LL H o (g.all.map g.on) /\ s < g.size /\ BL H h a /\ a.length = g.size /\ (g.on s).find? (Ways.has a) = some t /\ ∀ H' : Hp, Same H H' -> Q (nv t) H'
section
variable {P : Program} {w : World} {K : PySem.W.Frag} {mg : Str -> Option Value} {base : Heap}
theorem ok_least_next {f : Addr} {fd : FuncData} (F : Fun K "least_next" "least_next" s_least_next f fd) (T : Txt K mg) : FnOk P w K mg base CX0 1 f fd ["onward", "s", "held"] spLeast := by
 refine F.ok sc_least_next (fun vs H Q E h => ?_) (fun cdv A outer s H vs Q E hr h => ?_)
 . obtain ⟨_, _, _, _, _, _, rfl, _⟩ := h
   rfl
 obtain ⟨o, h, s, t, g, a, rfl, wf, ho, hs, hh, hl, hf, k⟩ := h
 refine ⟨_, (Zc (Zg (Zv (cr_minK K rfl) rfl T.nmin bootMin (pa1 (Yu rfl sc_least_next.nd (Yg K (Zm (Zd K) (pv 0) (pv 1) (fun _ _ => rfl))) (own := [("t", 3)]) (Ya (by rfl)) (fun _ _ _ _ _ => Zp (i := 3) sc_least_next.nd rfl (.inl rfl)) (fun _ _ _ _ _ => pts_one (Yw (Zm (Zd K) (pv 2) (pv 3) (fun _ _ => rfl)))) (fun _ _ _ _ _ => (pv 3))))))), ?_⟩
 have h12 := wf.le
 obtain ⟨as, ha, hn, hin⟩ := ho.at_
 obtain ⟨b, hb, hbl⟩ := hin s hs
 have hon := wf.on_lt hs
 have hol := Qb (wf.on_srt hs) hon
 refine ⟨_, rfl, _, rfl, o, _, _, _, rfl, rfl, SqL.of ha, Zs (Zh hb), b, rfl, ⟨_, SqL.of hbl⟩, fun D hD => ?_⟩
 refine lcL (SqL.of hbl) hD (fun i acc _ => acc = (((g.on s).take i).filter (Ways.has a)).map nv) rfl ?_ ?_
 . intro i H2 acc x hx s1 hd hl' hg
   obtain ⟨u, hu, rfl⟩ := Zz hx
   have hi := Zi hu
   have hul := hon u (List.mem_of_getElem? hu)
   refine ⟨rfl, _, rfl, _, rfl, h, _, _, _, rfl, rfl, SqL.of (hh.same s1), Zs (Zh (WM.Yz (by omega))), _, rfl, ?_⟩
   cases e : Ways.has a u with
   | true =>
     refine ifT rfl ⟨_, rfl, LcOk.push hD s1 hd hl' (Same.refl _) (Zn (m := 100) (by omega)) ?_⟩
     rw [hg, Yc hu, List.filter_append, List.map_append, List.filter_cons_of_pos e]; rfl
   | false =>
     refine ifF rfl (LcOk.skip s1 hd hl' (Same.refl _) ?_)
     rw [hg, Yc hu, List.filter_append, List.filter_cons_of_neg (by rw [e]; decide), List.filter_nil, List.append_nil]
 . intro H2 acc s1 hd hl' hg
   rw [List.length_map, List.take_length] at hg
   obtain ⟨m1, m2, m3⟩ := WM.find_min' (wf.on_srt hs) hf
   refine ⟨D, ((g.on s).filter (Ways.has a)).map fun n : Nat => (n : Int), rfl, SqL.of (by rw [hd, hg, List.map_map]; rfl), ?_, fun m hm hle => ?_⟩
   . rw [List.length_map]
     exact List.length_pos_of_mem (List.mem_filter.mpr ⟨m1, m2⟩)
   . obtain ⟨u, hu, rfl⟩ := List.mem_map.mp hm
     obtain ⟨u1, u2⟩ := List.mem_filter.mp hu
     have e1 := hle (t : Int) (List.mem_map.mpr ⟨t, List.mem_filter.mpr ⟨m1, m2⟩, rfl⟩)
     have e2 := m3 u u1 u2
     have e3 : u = t := by omega
     subst e3
     exact k H2 s1
def spKept : Sp := fun vs H Q _ => ∃ (o h : Addr) (s : Nat) (g : Graph) (a : Ways.Set), vs = [.ref o, nv s, .ref h] /\ WF g /\ LL H o (g.all.map g.on) /\ BL H h (g.keep a g.size) /\ a.length = g.size /\ Ways.has (g.keep a g.size) s = true /\
 ∀ (H' : Hp) (p : Addr), Same H H' -> NL H' p (g.round (g.keep a g.size) (g.size + 1) [] s) -> (g.round (g.keep a g.size) (g.size + 1) [] s).length <= 13 -> Q (.ref p) H'
theorem ok_way_kept_up {f : Addr} {fd : FuncData} (F : Fun K "way_kept_up" "way_kept_up" Qu f fd) (Dleast_next : Def P w K mg base "least_next" 1 ["onward", "s", "held"] spLeast) : FnOk P w K mg base CX0 2 f fd ["onward", "s", "held"] spKept := by
 refine F.ok sc_way_kept_up (fun vs H Q E h => ?_) (fun cdv A outer s H vs Q E hr h => ?_)
 . obtain ⟨_, _, _, _, _, rfl, _⟩ := h
   rfl
 obtain ⟨o, h, s, g, a, rfl, wf, ho, hh, la, hs, k⟩ := h
 refine ⟨_, (Za (Zr (i := 3) sc_way_kept_up.nd rfl (.inl rfl) (Zx (pa1 (pv 1))))
   (Za (Zr (i := 4) sc_way_kept_up.nd rfl (.inl rfl) (Zk Dleast_next hr.m (pa3 (pv 0) (pv 1) (pv 2))))
   (Za (ps_while PassesOwn.never (Zq (op_notInK K) (pv 4) (pv 3) (by with_unfolding_all rfl)) (Za (Yt (Uw PySem.F.plainAttrs_list PySem.F.slot_list_append PySem.F.type_list_append Yy (pv 3) (pa1 (pv 4))))
   (Zc (Zr (i := 4) sc_way_kept_up.nd rfl (.inl rfl) (Zk Dleast_next hr.m (pa3 (pv 0) (pv 4) (pv 2)))))))
   (Zc (Zg (Xh op_cat (pv 3) (Zx (pa1 (pv 4))))))))), ?_⟩
 have h12 := wf.le
 have lk := WM.Qn (g := g) la g.size
 have hsz : s < g.size := by have := WM.has_lt hs; omega
 obtain ⟨t0, f0, t0l, t0h⟩ := WM.keep_rest wf la hs
 refine ⟨_, rfl, le1, fun wy hwy => ?_⟩
 refine ⟨_, rfl, _, rfl, _, rfl, o, h, s, t0, g, _, rfl, wf, ho.same (Same.new hwy), hsz, hh.same (Same.new hwy), lk, f0, fun H1 s1 => ?_⟩
 refine ⟨fun m σ H' => ∃ (l : List Nat) (t : Nat), m = g.size - l.length /\ σ = [some (.ref o), some (nv s), some (.ref h), some (.ref wy), some (nv t)] /\ Same H H' /\ H' wy = some (.lst (l.map nv)) /\ l.Nodup /\ (∀ x ∈ l, x < g.size) /\ t < g.size /\ Ways.has (g.keep a g.size) t = true /\
     g.round (g.keep a g.size) (g.size + 1) [] s = g.round (g.keep a g.size) (g.size + 1 - l.length) l t,
   ⟨_, [s], t0, rfl, rfl, (Same.new hwy).trans s1, s1 _ _ Zb, by simp, by simpa using hsz, t0l, t0h, ?_⟩, ?_⟩
 . exact WM.round_out (by simp) f0
 rintro m σ H' ⟨l, t, rfl, rfl, s2, hw, hnd, hlt, htl, hth, hrd⟩
 have hll := WM.nodup_lt g.size l hnd hlt
 refine ⟨_, rfl, _, rfl, wy, _, rfl, .inl (SqL.of hw), rfl, flat_nats l, _, rfl, ?_⟩
 show if (!inV (nv t) (l.map nv)) = true then _ else _
 rw [inV_nat]
 by_cases q : t ∈ l
 . refine ifF (by rw [decide_eq_true q]; rfl) ?_
   have er : g.round (g.keep a g.size) (g.size + 1 - l.length) l t = l ++ [t] := by
     have e1 : g.size + 1 - l.length = (g.size - l.length) + 1 := by omega
     rw [e1]
     exact WM.round_in q
   refine ⟨_, rfl, _, rfl, le1, fun p1 hp1 => ?_⟩
   have hw2 := Same.new (o := .lst [nv t]) hp1 _ _ hw
   refine ⟨wy, p1, _, _, rfl, rfl, hw2, Zb, ?_, fun p2 hp2 => ?_⟩
   . rw [List.length_map]
     exact Nat.le_of_lt (Zn (m := 100) (by simp; omega))
   . rw [hrd, er] at k
     refine k _ p2 ((s2.trans (Same.new hp1)).trans (Same.new hp2)) ?_ (by rw [List.length_append, List.length_singleton]; omega)
     show upd _ p2 _ p2 = _
     rw [Zb, List.map_append]; rfl
 . refine ifT (by rw [decide_eq_false q]; rfl) ?_
   have hnd2 : (l ++ [t]).Nodup := nd_snoc hnd q
   have hlt2 : ∀ x ∈ l ++ [t], x < g.size := fun x hx => by
     rcases List.mem_append.mp hx with z | z
     . exact hlt x z
     . rw [List.mem_singleton.mp z]; exact htl
   have hll2 := WM.nodup_lt g.size _ hnd2 hlt2
   rw [List.length_append, List.length_singleton] at hll2
   obtain ⟨t1, f1, t1l, t1h⟩ := WM.keep_rest wf la hth
   refine ⟨fun σ' H'' => σ' = [some (.ref o), some (nv s), some (.ref h), some (.ref wy), some (nv t1)] /\ Same H H'' /\ H'' wy = some (.lst ((l ++ [t]).map nv)), ?_, ?_⟩
   . rintro σ' H'' ⟨rfl, s3, hw3⟩
     refine ⟨_, ?_, l ++ [t], t1, rfl, rfl, s3, hw3, hnd2, hlt2, t1l, t1h, ?_⟩
     . rw [List.length_append, List.length_singleton]; omega
     . rw [hrd]
       have e1 : g.size + 1 - l.length = (g.size - l.length) + 1 := by omega
       rw [e1, WM.round_out q f1, List.length_append, List.length_singleton]
       rw [show g.size + 1 - (l.length + 1) = g.size - l.length by omega]
   . refine ⟨_, rfl, .inl ⟨rfl, _, SqL.of hw⟩, _, rfl, wy, _, _, rfl, rfl, hw, ?_, ?_⟩
     . rw [List.length_map]
       exact Zn (m := 100) (by omega)
     have s4 : Same H (upd H' wy (.lst (l.map nv ++ [nv t]))) := s2.put hwy
     refine ⟨_, rfl, _, rfl, _, rfl, o, h, t, t1, g, _, rfl, wf, ho.same s4, htl, hh.same s4, lk, f1, fun H5 s5 => ⟨rfl, s4.trans s5, ?_⟩⟩
     rw [s5 _ _ Zb, List.map_append]; rfl
def IL (H : Hp) (a : Addr) (zs : List Int) : Prop := H a = some (.lst (zs.map V.int))
def spSteps : Sp := fun vs H Q _ => ∃ (o b c : Addr) (g : Graph) (a d : Ways.Set), vs = [.ref o, .ref b, .ref c] /\ WF g /\ LL H o (g.all.map g.on) /\ BL H b a /\ BL H c d /\ a.length = g.size /\ d.length = g.size /\
 ∀ (H' : Hp) (p : Addr), Same H H' -> IL H' p ((List.range g.size).map (stepsTo g a d g.size)) -> Q (.ref p) H'
theorem dec_int' {i j : Int} : decide (V.int i = V.int j) = decide (i = j) := by
 by_cases h : i = j
 . rw [decide_eq_true h, h]; exact decide_eq_true rfl
 . rw [decide_eq_false h]; exact decide_eq_false fun z => h (V.int.inj z)
theorem Xv {α : Type} {f : Nat -> α} {n s : Nat} (h : s < n) : ((List.range n).map f)[s]? = some (f s) := Zh (List.getElem?_range h)
theorem mid_set {α : Type} {n j : Nat} {f h : Nat -> α} (hj : j < n) : ((List.range n).map fun s => if s < j then h s else f s).set j (h j) = (List.range n).map fun s => if s < j + 1 then h s else f s := by
 apply List.ext_getElem?
 intro s
 by_cases hs : s < n
 . rw [Xv hs]
   by_cases e : s = j
   . subst e
     rw [List.getElem?_set_self (by simpa using hs), if_pos (Nat.lt_succ_self _)]
   . rw [List.getElem?_set_ne (fun z => e z.symm), Xv hs]
     by_cases q : s < j
     . rw [if_pos q, if_pos (by omega)]
     . rw [if_neg q, if_neg (by omega)]
 . rw [List.getElem?_eq_none (by simpa using hs), List.getElem?_eq_none (by simpa using hs)]
theorem mid_same {α : Type} {n j : Nat} {f h : Nat -> α} (e : h j = f j) : ((List.range n).map fun s => if s < j then h s else f s) = (List.range n).map fun s => if s < j + 1 then h s else f s := by
 refine List.map_congr_left fun s _ => ?_
 by_cases q : s = j
 . subst q
   rw [if_neg (Nat.lt_irrefl _), if_pos (Nat.lt_succ_self _), e]
 . by_cases q2 : s < j
   . rw [if_pos q2, if_pos (by omega)]
   . rw [if_neg q2, if_neg (by omega)]
theorem ok_steps_to {f : Addr} {fd : FuncData} (F : Fun K "steps_to" "steps_to" s_steps_to f fd) (T : Txt K mg) (Dsome_next : Def P w K mg base "some_next" 1 ["onward", "held"] (Qs Uh)) : FnOk P w K mg base CX0 2 f fd ["onward", "before", "goal"] spSteps := by
 refine F.ok sc_steps_to (fun vs H Q E h => ?_) (fun cdv A outer s H vs Q E hr h => ?_)
 . obtain ⟨_, _, _, _, _, _, rfl, _⟩ := h
   rfl
 obtain ⟨o, b, c, g, a, d, rfl, wf, ho, hb, hc, la, ld, k⟩ := h
 refine ⟨_, (Za (ps_setLc (i := 3) rfl sc_steps_to.nd rfl rfl (sw_true rfl rfl rfl (by decide +kernel)) (Yg K (pv 2)) (own := [("here", 4)]) (Ya (by rfl)) (fun _ _ _ _ _ => Zp (i := 4) sc_steps_to.nd rfl (.inl rfl)) (fun _ _ _ _ _ => Yn) (fun _ _ _ _ _ => (Vr (Yw (pv 4)) Zj (Zy T.gNOT_REACHED))))
   (Za (Xr PassesOwn.never rfl (Xe rfl T.nrange (pa1 (Zv (Yl K) rfl T.nlen PySem.boot_len (pa1 (pv 0))))) (Zp (i := 5) sc_steps_to.nd rfl (.inr rfl)) (Za (Zr (i := 6) sc_steps_to.nd rfl (.inl rfl) (Zk Dsome_next hr.m (pa2 (pv 0) (Yu rfl sc_steps_to.nd (Yg K (pv 3)) (own := [("number", 7)]) (Ya (by rfl)) (fun _ _ _ _ _ => Zp (i := 7) sc_steps_to.nd rfl (.inl rfl)) (fun _ _ _ _ _ => Yn) (fun _ _ _ _ _ => (Ua Yr (pv 7) (pv 5) (Zt _)))))))
   (Zc (Xr PassesOwn.never rfl (Xe rfl T.nrange (pa1 (Zv (Yl K) rfl T.nlen PySem.boot_len (pa1 (pv 0))))) (Zp (i := 8) sc_steps_to.nd rfl (.inl rfl)) (Zc (Yf (PW.pt (pw_and (Zq Yr (Zm (Zd K) (pv 3) (pv 8) (fun _ _ => rfl)) (Zy T.gNOT_REACHED) (Zt _)) (pw_and (Yw (Zm (Zd K) (pv 1) (pv 8) (fun _ _ => rfl))) (pw_and1 (Yw (Zm (Zd K) (pv 6) (pv 8) (fun _ _ => rfl))))))) (Zc (ps_asg (Xh op_add (pv 5) Zj) (pg_sub (pv 3) (pv 8) set_list))) Zo))))))
   (Zc (Zg (pv 3))))), ?_⟩
 have h12 := wf.le
 obtain ⟨as, ha, hn, hin⟩ := ho.at_
 have hz : (as.map V.ref).length = g.size := by rw [List.length_map]; exact hn
 have en : (((as.map V.ref).length : Nat) : Int).toNat = g.size := by rw [hz]; exact Int.toNat_natCast _
 refine ⟨_, rfl, c, rfl, ⟨_, SqL.of hc⟩, fun D hD => ?_⟩
 refine lcL (SqL.of hc) hD (fun i acc _ => acc = (List.range i).map fun s => V.int (stepsTo g a d 0 s)) rfl ?_ ?_
 . intro i H2 acc x hx s1 hd hl' hg
   obtain ⟨u, hu, rfl⟩ := Zz hx
   have hi := Zi hu
   have eu := WM.Qp hu
   have e0 := WM.stepsTo_zero (a := a) (b := d) (show i < g.size by omega)
   rw [eu] at e0
   refine ⟨rfl, _, rfl, _, rfl, ?_⟩
   cases u with
   | true =>
     refine ifT rfl (LcOk.push hD s1 hd hl' (Same.refl _) (Zn (m := 100) (by omega)) ?_)
     rw [hg, Yi, List.map_append, List.map_singleton, e0]; rfl
   | false =>
     refine ifF rfl (LcOk.push hD s1 hd hl' (Same.refl _) (Zn (m := 100) (by omega)) ?_)
     rw [hg, Yi, List.map_append, List.map_singleton, e0]; rfl
 . intro H1 acc s1 hd hl' hg
   rw [List.length_map, ld] at hg
   have hst : IL H1 D ((List.range g.size).map (stepsTo g a d 0)) := by
     show H1 D = _
     rw [hd, hg, List.map_map]; rfl
   refine ⟨_, rfl, o, _, rfl, .inl (SqL.of (s1 _ _ ha)), _, rfl, by omega, by omega, ?_⟩
   show ∃ W : Nat -> Nat -> L2.St -> Hp -> Prop, _
   rw [en]
   refine Ud (lo := 0) (n := g.size) (fun i σ H' => ∃ v4 v5 v6 v7 v8 : Option V, σ = [some (.ref o), some (.ref b), some (.ref c), some (.ref D), v4, v5, v6, v7, v8] /\ Same H H' /\ IL H' D ((List.range g.size).map (stepsTo g a d i)))
     ⟨none, none, none, none, none, rfl, s1, hst⟩ ?_ ?_
   . rintro i σ H2 hi ⟨v4, v5, v6, v7, v8, rfl, s2, hst2⟩
     have z0 : (0 : Int) + (i : Int) = (i : Int) := Int.zero_add _
     rw [z0]
     refine ⟨_, rfl, _, rfl, D, rfl, ⟨_, SqL.of hst2⟩, fun D2 hD2 => ?_⟩
     refine lcL (SqL.of hst2) hD2 (fun j acc _ => acc = (List.range j).map fun s => V.bl (decide (stepsTo g a d i s = (i : Int)))) rfl ?_ ?_
     . intro j H3 acc2 x hx s3 hd3 hl3 hg3
       obtain ⟨zz, hzz, rfl⟩ := Zz hx
       have hj := Zi hzz
       rw [List.length_map, List.length_range] at hj
       rw [Xv hj] at hzz
       cases hzz
       refine ⟨rfl, _, rfl, _, rfl, rfl, ?_⟩
       refine LcOk.push hD2 s3 hd3 hl3 (Same.refl _) (Zn (m := 100) (by omega)) ?_
       rw [hg3, Yi, List.map_append, List.map_singleton, dec_int']
     . intro H3 acc2 s3 hd3 hl3 hg3
       rw [List.length_map, List.length_map, List.length_range] at hg3
       have hbl : BL H3 D2 (g.setBy fun s => decide (stepsTo g a d i s = (i : Int))) := by
         show H3 D2 = _
         rw [hd3, hg3, setBy_map]
       refine ⟨o, D2, g, _, rfl, wf, ho.same (s2.trans s3), hbl, WM.Ze _ _, fun H4 ah s4 hah => ?_⟩
       have hst4 := s4 _ _ (s3 _ _ hst2)
       have s24 : Same H H4 := (s2.trans s3).trans s4
       refine ⟨_, rfl, o, _, rfl, .inl (SqL.of (s24 _ _ ha)), _, rfl, by omega, by omega, ?_⟩
       show ∃ W : Nat -> Nat -> L2.St -> Hp -> Prop, _
       rw [en]
       refine Ud (lo := 0) (n := g.size) (fun j σ H' => ∃ v8 : Option V, σ = [some (.ref o), some (.ref b), some (.ref c), some (.ref D), v4, some (nv i), some (.ref ah), v7, v8] /\ Same H H' /\ BL H' ah (Uh g (g.setBy fun s => decide (stepsTo g a d i s = (i : Int)))) /\ IL H' D ((List.range g.size).map fun s => if s < j then stepsTo g a d (i + 1) s else stepsTo g a d i s))
         ⟨v8, rfl, s24, hah, ?_⟩ ?_ ?_
       . show H4 D = _
         rw [hst4]
         congr 2
       . rintro j σ H5 hj ⟨v8, rfl, s5, hah5, hst5⟩
         have z1 : (0 : Int) + (j : Int) = (j : Int) := Int.zero_add _
         rw [z1]
         have hget : (((List.range g.size).map fun s => if s < j then stepsTo g a d (i + 1) s else stepsTo g a d i s).map V.int)[j]? = some (V.int (stepsTo g a d i j)) := by
           refine Zh ?_
           rw [Xv hj, if_neg (Nat.lt_irrefl _)]
         have hsucc := WM.stepsTo_succ (a := a) (b := d) (k := i) wf hj
         have hahj : Ways.has (Uh g (g.setBy fun s => decide (stepsTo g a d i s = (i : Int)))) j = (g.on j).any fun t => decide (stepsTo g a d i t = (i : Int)) := by
           unfold Uh
           rw [WM.Zu hj]
           show (g.on j).any (Ways.has _) = _
           have key : ∀ l : List Nat, (∀ t ∈ l, t < g.size) -> l.any (Ways.has (g.setBy fun s => decide (stepsTo g a d i s = (i : Int)))) = l.any fun t => decide (stepsTo g a d i t = (i : Int)) := by
             intro l
             induction l with
             | nil => intro _; rfl
             | cons t l ih =>
               intro hl
               rw [List.any_cons, List.any_cons, WM.Zu (hl t (by simp)), ih fun u hu => hl u (by simp [hu])]
           exact key _ (wf.on_lt hj)
         have lsf : (Uh g (g.setBy fun s => decide (stepsTo g a d i s = (i : Int)))).length = g.size := WM.Ze _ _
         have stay : (stepsTo g a d (i + 1) j = stepsTo g a d i j) -> IL H5 D ((List.range g.size).map fun s => if s < j + 1 then stepsTo g a d (i + 1) s else stepsTo g a d i s) := fun e => by
           rw [<- mid_same e]; exact hst5
         refine ⟨_, rfl, _, rfl, D, _, _, _, rfl, rfl, SqL.of hst5, Zs hget, rfl, _, rfl, ?_⟩
         by_cases q1 : stepsTo g a d i j = -1
         . refine ifE q1 ⟨_, rfl, _, rfl, b, _, _, _, rfl, rfl, SqL.of (hb.same s5), Zs (Zh (WM.Yz (by omega))), _, rfl, ?_⟩
           cases q2 : Ways.has a j with
           | false =>
             refine ifF rfl (ifF rfl ⟨_, rfl, s5, hah5, stay ?_⟩)
             rw [hsucc, if_neg (fun z => by rw [q2] at z; exact Bool.noConfusion z.2.1)]
           | true =>
             refine ifT rfl ⟨_, rfl, _, rfl, ah, _, _, _, rfl, rfl, SqL.of hah5, Zs (Zh (WM.Yz (by rw [lsf]; exact hj))), _, rfl, ?_⟩
             rw [hahj]
             cases q3 : (g.on j).any fun t => decide (stepsTo g a d i t = (i : Int)) with
             | false =>
               refine ifF rfl ⟨_, rfl, s5, hah5, stay ?_⟩
               rw [hsucc, if_neg (fun z => by rw [q3] at z; exact Bool.noConfusion z.2.2)]
             | true =>
               refine ifT rfl ⟨_, rfl, _, _, rfl, rfl, _, rfl, _, rfl, D, _, _, j, rfl, rfl, hst5, ?_, ?_⟩
               . unfold ixN
                 rw [if_pos (by omega), if_pos (by rw [List.length_map, List.length_map, List.length_range]; omega)]; simp
               . have hnD : ah ≠ D := fun z => by
                   have h1 := hah5
                   unfold BL at h1
                   rw [z] at h1
                   have h2 := hst5
                   unfold IL at h2
                   rw [h1] at h2
                   have e := HO.lst.inj (Option.some.inj h2)
                   have := congrArg (fun l => l[0]?) e
                   rw [Zh (WM.Yz (by rw [lsf]; exact wf.pos)), Zh (Xv wf.pos)] at this
                   cases this
                 refine ⟨_, rfl, s5.put hD, ?_, ?_⟩
                 . show upd H5 D _ ah = _
                   rw [Zl hnD]; exact hah5
                 . show upd H5 D _ D = _
                   rw [Zb, <- mid_set hj]
                   have e1 : stepsTo g a d (i + 1) j = ((i + 1 : Nat) : Int) := by rw [hsucc, if_pos ⟨q1, q2, q3⟩]
                   rw [e1, List.map_set]; rfl
         . refine ifN q1 (ifF rfl ⟨_, rfl, s5, hah5, stay ?_⟩)
           rw [hsucc, if_neg (fun z => q1 z.1)]
       . rintro σ H5 ⟨v8, rfl, s5, hah5, hst5⟩
         refine ⟨_, _, _, _, _, rfl, s5, ?_⟩
         show H5 D = _
         rw [hst5]
         congr 3
         refine List.map_congr_left fun s hs => ?_
         rw [if_pos (List.mem_range.mp hs)]
   . rintro σ H2 ⟨v4, v5, v6, v7, v8, rfl, s2, hst2⟩
     exact ⟨_, rfl, k H2 D s2 hst2⟩
end
def spShort : Sp := fun vs H Q _ => ∃ (o b c : Addr) (s n : Nat) (g : Graph) (a d : Ways.Set), vs = [.ref o, nv s, .ref b, .ref c] /\ WF g /\ LL H o (g.all.map g.on) /\ s < g.size /\ BL H b a /\ BL H c d /\ a.length = g.size /\ d.length = g.size /\ stepsTo g a d g.size s = (n : Int) /\
 ∀ (H' : Hp) (p : Addr), Same H H' -> NL H' p (g.wayTo a d n s) -> (g.wayTo a d n s).length <= 13 -> Q (.ref p) H'
theorem at_last {l : List Nat} {u : Nat} : atI ((l ++ [u]).map nv) (-1) = some (nv u) := by
 unfold atI ixN
 rw [if_neg (by decide), if_pos (by simp; omega)]
 show ((l ++ [u]).map nv)[_]? = _
 refine Zh ?_
 have e : (-1 + ((((l ++ [u]).map nv).length : Nat) : Int)).toNat = l.length := by simp; omega
 rw [e, List.getElem?_append_right (Nat.le_refl _), Nat.sub_self]; rfl
section
variable {P : Program} {w : World} {K : PySem.W.Frag} {mg : Str -> Option Value} {base : Heap}
theorem ok_shortest_way {f : Addr} {fd : FuncData} (F : Fun K "shortest_way" "shortest_way" Ul f fd) (T : Txt K mg) (Dsteps_to : Def P w K mg base "steps_to" 2 ["onward", "before", "goal"] spSteps) (Dleast_next : Def P w K mg base "least_next" 1 ["onward", "s", "held"] spLeast) :
   FnOk P w K mg base CX0 3 f fd ["onward", "s", "before", "goal"] spShort := by
 refine F.ok sc_shortest_way (fun vs H Q E h => ?_) (fun cdv A outer s H vs Q E hr h => ?_)
 . obtain ⟨_, _, _, _, _, _, _, _, rfl, _⟩ := h
   rfl
 obtain ⟨o, b, c, s, n, g, a, d, rfl, wf, ho, hs, hb, hc, la, ld, hn, k⟩ := h
 refine ⟨_, (Za (Zr (i := 4) sc_shortest_way.nd rfl (.inr rfl) (Zk Dsteps_to hr.m (pa3 (pv 0) (pv 2) (pv 3))))
   (Za (Zr (i := 5) sc_shortest_way.nd rfl (.inl rfl) (Zx (pa1 (pv 1))))
   (Za (Xr PassesOwn.never rfl (pi_range3 rfl T.nrange (pa3 (Xh op_sub (Zm (Zd K) (pv 4) (pv 1) (fun _ _ => rfl)) Zj) (pe_un un_neg Zj) (pe_un un_neg Zj))) (Zp (i := 6) sc_shortest_way.nd rfl (.inr rfl)) (Za (ps_setLc (i := 7) rfl sc_shortest_way.nd rfl rfl (sw_true rfl rfl rfl (by decide +kernel)) (Xe rfl T.nrange (pa1 (Zv (Yl K) rfl T.nlen PySem.boot_len (pa1 (pv 0))))) (own := [("t", 8)]) (Ya (by rfl)) (fun _ _ _ _ _ => Zp (i := 8) sc_shortest_way.nd rfl (.inl rfl)) (fun _ _ _ _ _ => Yn) (fun _ _ _ _ _ => (Ua Yr (Zm (Zd K) (pv 4) (pv 8) (fun _ _ => rfl)) (pv 6) (Zt _))))
   (Zc (Yt (Uw PySem.F.plainAttrs_list PySem.F.slot_list_append PySem.F.type_list_append Yy (pv 5) (pa1 (Zk Dleast_next hr.m (pa3 (pv 0) (Zm (Zd K) (pv 5) (pe_un un_neg Zj) (fun _ _ => rfl)) (pv 7)))))))))
   (Zc (Zg (pv 5)))))), ?_⟩
 have h12 := wf.le
 have n12 : n <= g.size := (WM.stepsTo_nat.mp hn).1
 obtain ⟨as, ha, hnn, hin⟩ := ho.at_
 have hz : (as.map V.ref).length = g.size := by rw [List.length_map]; exact hnn
 have en : (((as.map V.ref).length : Nat) : Int).toNat = g.size := by rw [hz]; exact Int.toNat_natCast _
 refine ⟨_, rfl, _, rfl, _, rfl, o, b, c, g, a, d, rfl, wf, ho, hb, hc, la, ld, fun H1 st s1 hst => ?_⟩
 refine ⟨_, rfl, le1, fun wy hwy => ?_⟩
 have s2 : Same H1 (upd H1 wy (.lst [nv s])) := Same.new hwy
 refine ⟨_, rfl, _, rfl, st, _, _, _, rfl, rfl, SqL.of (s2 _ _ hst), Zs (Zh (Xv hs)), _, _, rfl, rfl, _, rfl, _, rfl, _, _, _, n, rfl, ?_, ?_⟩
 . rw [hn]
   have z := RgC.neg (i := (n : Int) - 1) (j := -1) (by omega) (by omega) (by omega) (by omega)
   have e : ((n : Int) - 1 - -1).toNat = n := by omega
   rw [e] at z
   exact z
 rw [hn]
 refine for_rangeC (fun i σ H' => ∃ (v6 v7 v8 : Option V) (l r : List Nat) (u : Nat), σ = [some (.ref o), some (nv s), some (.ref b), some (.ref c), some (.ref st), some (.ref wy), v6, v7, v8] /\ Same H1 H' /\ H' wy = some (.lst ((l ++ [u]).map nv)) /\ l.length = i /\ u < g.size /\ stepsTo g a d g.size u = ((n - i : Nat) : Int) /\
     g.wayTo a d (n - i) u = u :: r /\ l ++ u :: r = g.wayTo a d n s) ?_ ?_ ?_
 . obtain ⟨r, hr'⟩ := WM.wayTo_head (g := g) (a := a) (b := d) n s
   exact ⟨none, none, none, [], r, s, rfl, s2, Zb, rfl, hs, hn, hr', hr'.symm⟩
 . rintro i σ H2 hi ⟨v6, v7, v8, l, r, u, rfl, s3, hw, hl, hu, hst2, hr', hw2⟩
   have ei : n - i = (n - (i + 1)) + 1 := by omega
   rw [ei] at hst2 hr'
   obtain ⟨t, hf, ht, hstt, hwt⟩ := WM.way_step wf hu hst2
   have s13 : Same H H2 := s1.trans s3
   have el : ((n : Int) - 1 + (i : Nat) * -1) = ((n - (i + 1) : Nat) : Int) := by omega
   rw [el]
   refine ⟨_, rfl, o, _, rfl, .inl (SqL.of (s13 _ _ ha)), _, rfl, by omega, by omega, fun D hD => ?_⟩
   rw [en]
   refine lcR hD (fun j acc _ => acc = (List.range j).map fun t => V.bl (decide (stepsTo g a d g.size t = ((n - (i + 1) : Nat) : Int)))) rfl ?_ ?_
   . intro j H3 acc hj s4 hd hl' hg
     have z : (0 : Int) + (j : Int) = (j : Int) := Int.zero_add _
     rw [z]
     refine ⟨rfl, _, rfl, _, rfl, st, _, _, _, rfl, rfl, SqL.of (s4 _ _ (s3 _ _ hst)), Zs (Zh (Xv hj)), _, rfl, rfl, ?_⟩
     refine LcOk.push hD s4 hd hl' (Same.refl _) (Zn (m := 100) (by omega)) ?_
     rw [hg, Yi, List.map_append, List.map_singleton]
     exact congrArg (fun z => _ ++ [V.bl z]) dec_int'
   . intro H3 acc s4 hd hl' hg
     have hbl : BL H3 D (g.setBy fun t => decide (stepsTo g a d g.size t = ((n - (i + 1) : Nat) : Int))) := by
       show H3 D = _
       rw [hd, hg, setBy_map]
     have hw4 := s4 _ _ hw
     refine ⟨_, rfl, .inl ⟨rfl, _, SqL.of hw4⟩, _, rfl, _, rfl, _, rfl, wy, _, _, _, rfl, rfl, SqL.of hw4, at_last, _, rfl, o, D, u, t, g, _, rfl, wf, ho.same (s13.trans s4), hu, hbl, WM.Ze _ _, ?_, fun H4 s5 => ?_⟩
     . rw [<- hf]
       have key : ∀ l : List Nat, (∀ t ∈ l, t < g.size) -> l.find? (Ways.has (g.setBy fun t => decide (stepsTo g a d g.size t = ((n - (i + 1) : Nat) : Int)))) = l.find? fun t => decide (stepsTo g a d g.size t = ((n - (i + 1) : Nat) : Int)) := by
         intro l
         induction l with
         | nil => intro _; rfl
         | cons x l ih =>
           intro hl
           rw [List.find?_cons, List.find?_cons, WM.Zu (hl x (by simp)), ih fun u hu => hl u (by simp [hu])]
       exact key _ (wf.on_lt hu)
     . have hw5 := s5 _ _ hw4
       refine ⟨wy, _, _, rfl, rfl, hw5, ?_, ?_⟩
       . rw [List.length_map, List.length_append, hl, List.length_singleton]
         exact Zn (m := 100) (by omega)
       . obtain ⟨r2, hr2⟩ := WM.wayTo_head (g := g) (a := a) (b := d) (n - (i + 1)) t
         have er : r = t :: r2 := by
           rw [hwt, hr2] at hr'
           exact (List.cons.inj hr').2.symm
         refine ⟨_, _, _, l ++ [u], r2, t, rfl, ((s3.trans s4).trans s5).put hwy, ?_, by rw [List.length_append, hl]; rfl, ht, hstt, hr2, ?_⟩
         . rw [Zb, List.map_append (l₂ := [t])]; rfl
         . rw [<- hw2, er, List.append_assoc]; rfl
 . rintro σ H2 ⟨v6, v7, v8, l, r, u, rfl, s3, hw, hl, hu, hst2, hr', hw2⟩
   rw [Nat.sub_self] at hr' hst2
   have er : r = [] := (List.cons.inj hr').2.symm
   subst er
   refine ⟨_, rfl, k H2 wy (s1.trans s3) ?_ ?_⟩
   . show H2 wy = _
     rw [hw, hw2]
   . rw [<- hw2, List.length_append, hl, List.length_singleton]; omega
def spCan : Sp := fun vs H Q _ => ∃ (pl : Addr) (k m : Nat) (R : List (Nat × Nat)), vs = [.ref pl] /\ PL H pl ((k, m) :: R) /\ ∀ H' : Hp, Same H H' -> Q (.bl (decide (k ∈ [5, 7, 9, 11]))) H'
theorem PL.head {H : Hp} {pl : Addr} {k m : Nat} {R : List (Nat × Nat)} (h : PL H pl ((k, m) :: R)) : ∃ (as : List Addr) (t : Addr), H pl = some (.lst ((t :: as).map V.ref)) /\ H t = some (.tup [nv k, nv m]) := by
 obtain ⟨as, h1, h2, h3⟩ := h
 cases as with
 | nil => simp at h2
 | cons t as =>
   obtain ⟨p, e, ht⟩ := h3 0 t rfl
   cases e
   exact ⟨as, t, h1, ht⟩
theorem ok_can_be_shown {f : Addr} {fd : FuncData} (F : Fun K "can_be_shown" "can_be_shown" Uq f fd) (T : Txt K mg) : FnOk P w K mg base CX0 1 f fd ["parts"] spCan := by
 refine F.ok sc_can_be_shown (fun vs H Q E h => ?_) (fun cdv A outer s H vs Q E hr h => ?_)
 . obtain ⟨_, _, _, _, rfl, _⟩ := h
   rfl
 obtain ⟨pl, k, m, R, rfl, hP, kk⟩ := h
 refine ⟨_, (Zc (Zg (Ua (op_inK K) (Zm (Xg K) (Zm (Zd K) (pv 0) Zj (fun _ _ => rfl)) Zj (fun _ _ => rfl)) (pe_tup (pa4 (Zy T.gSOME_NEXT) (Zy T.gSOME_KEEPS) (Zy T.gSOME_COMES) (Zy T.gSOME_UNTIL))) (by with_unfolding_all rfl)))), ?_⟩
 obtain ⟨as, t, h1, ht⟩ := hP.head
 refine ⟨_, rfl, pl, _, _, _, rfl, rfl, SqL.of h1, Yh (j := 0) rfl rfl, t, _, _, _, rfl, rfl, SqT.of ht, Yh (j := 0) rfl rfl, (by show 4 <= sizeLine; decide), fun p hp => ?_⟩
 refine ⟨p, _, rfl, .inr (SqT.of Zb), rfl, rfl, ?_⟩
 show Q (.bl (inV (nv k) ([5, 7, 9, 11].map nv))) _
 rw [inV_nat]
 exact kk _ (Same.new hp)
def spWay (CG : Addr) : Sp := fun vs H Q _ => ∃ (ga pl : Addr) (s : Nat) (g : Graph) (R : List (Nat × Nat)) (x : Form) (l : List Nat), vs = [.ref ga, nv s, .ref pl] /\ WF g /\ GraphAt CG H ga g /\ s < g.size /\ PL H pl R /\ R.length <= 64 /\ WM.Vx R x /\ Ways.has (g.holds x) s = true /\ g.shows s x = some l /\
 ∀ (H' : Hp) (p : Addr), Same H H' -> NL H' p l -> l.length <= 13 -> Q (.ref p) H'
theorem hRun_tail {p : Nat × Nat} {R : List (Nat × Nat)} {h n : Nat} (q : hRun (p :: R) h = some n) : ∃ m, hRun R h = some m := WM.hRun_drop q 1
theorem PL.tail {H : Hp} {pl q : Addr} {p : Nat × Nat} {R : List (Nat × Nat)} (h : PL H pl (p :: R)) (hq : H q = none) : ∃ xs, H pl = some (.lst xs) /\ PL (upd H q (.lst (cutV xs (some 1) none))) q R := by
 obtain ⟨as, h1, h2, h3⟩ := h
 refine ⟨_, h1, ?_⟩
 cases as with
 | nil => simp at h2
 | cons t as =>
   have ec : cutV ((t :: as).map V.ref) (some 1) none = as.map V.ref := by
     unfold cutV
     have e1 : HT.sIx ((t :: as).map V.ref).length 0 (some ((1 : Nat) : Int)) = 1 := by
       rw [HT.sIx_nat]; simp
     have e1 : HT.sIx ((t :: as).map V.ref).length 0 (some 1) = 1 := e1
     rw [e1, HT.sIx_none]
     rw [List.map_cons, List.drop_one, List.tail_cons, List.length_cons, Nat.add_sub_cancel]
     exact List.take_of_length_le (Nat.le_refl _)
   rw [ec]
   refine ⟨as, Zb, by simpa using h2, fun j b hb => ?_⟩
   obtain ⟨p', e, h⟩ := h3 (j + 1) b hb
   exact ⟨p', e, Same.new hq _ _ h⟩
theorem ok_way_that_shows {f CG : Addr} {fd : FuncData} (F : Fun K "way_that_shows" "way_that_shows" Vi f fd) (T : Txt K mg)
   (Dways_on : Def P w K mg base "ways_on" 1 ["graph"] (Uf CG)) (Dway_kept_up : Def P w K mg base "way_kept_up" 2 ["onward", "s", "held"] spKept) (Dwhere_each_holds : Def P w K mg base "where_each_holds" 6 ["graph", "parts"] (spEach CG))
   (Dleast_next : Def P w K mg base "least_next" 1 ["onward", "s", "held"] spLeast) (Dshortest_way : Def P w K mg base "shortest_way" 3 ["onward", "s", "before", "goal"] spShort) (Deverywhere : Def P w K mg base "everywhere" 1 ["states"] Xx) :
   FnOk P w K mg base CX0 7 f fd ["graph", "s", "parts"] (spWay CG) := by
 refine F.ok sc_way_that_shows (fun vs H Q E h => ?_) (fun cdv A outer s H vs Q E hr h => ?_)
 . obtain ⟨_, _, _, _, _, _, _, rfl, _⟩ := h
   rfl
 obtain ⟨ga, pl, s, g, R, x, l, rfl, wf, hG, hs, hP, h64, ht, hh, hsh, kk⟩ := h
 refine ⟨_, (Za (Zr (i := 3) sc_way_that_shows.nd rfl (.inl rfl) (Zk Dways_on hr.m (pa1 (pv 0))))
   (Za (Zr (i := 4) sc_way_that_shows.nd rfl (.inl rfl) (Zm (Xg K) (Zm (Zd K) (pv 2) Zj (fun _ _ => rfl)) Zj (fun _ _ => rfl)))
   (Za (Yf (Zq Yr (pv 4) (Zy T.gSOME_KEEPS) (Zt _)) (Zc (Zg (Zk Dway_kept_up hr.m (pa3 (pv 3) (pv 1) (Zm (Zd K) (Zk Dwhere_each_holds hr.m (pa2 (pv 0) (pv 2))) Zj (fun _ _ => rfl)))))) Zo)
   (Za (Zr (i := 5) sc_way_that_shows.nd rfl (.inl rfl) (Zk Dwhere_each_holds hr.m (pa2 (pv 0) (pe_slice (sl_listK K) (pv 2) (po_some Zj) po_none))))
   (Za (Yf (Zq Yr (pv 4) (Zy T.gSOME_NEXT) (Zt _)) (Zc (Zg (Zx (pa2 (pv 1) (Zk Dleast_next hr.m (pa3 (pv 3) (pv 1) (Zm (Zd K) (pv 5) Zj (fun _ _ => rfl)))))))) Zo)
   (Za (Yf (Zq Yr (pv 4) (Zy T.gSOME_COMES) (Zt _)) (Zc (Zg (Zk Dshortest_way hr.m (pa4 (pv 3) (pv 1) (Zk Deverywhere hr.m (pa1 (pv 3))) (Zm (Zd K) (pv 5) Zj (fun _ _ => rfl)))))) Zo)
   (Zc (Zg (Zk Dshortest_way hr.m (pa4 (pv 3) (pv 1) (Zm (Zd K) (pv 5) Zj (fun _ _ => rfl)) (Zm (Zd K) (pv 5) Zj (fun _ _ => rfl)))))))))))), ?_⟩
 have h12 := wf.le
 obtain ⟨k, m, R', rfl, hd⟩ := ht.head
 have hfit := ht.fit 0
 obtain ⟨n', hfit'⟩ := hRun_tail hfit
 have hok := ht.ok
 refine ⟨_, rfl, ga, g, rfl, wf, hG, fun H1 o s1 ho => ?_⟩
 obtain ⟨as, t, hp1, hpt⟩ := (hP.same s1).head
 refine ⟨_, rfl, pl, _, _, _, rfl, rfl, SqL.of hp1, Yh (j := 0) rfl rfl, t, _, _, _, rfl, rfl, SqT.of hpt, Yh (j := 0) rfl rfl, ?_⟩
 refine ⟨_, rfl, rfl, _, rfl, ?_⟩
 have hr64 : R'.length <= 64 := by simp at h64; omega
 have each1 : ∀ {H2 : Hp} {bl : Addr} {a : Ways.Set} {S : List Ways.Set}, BB H2 bl (a :: S) -> ∃ (xs : List Addr) (x0 : Addr), H2 bl = some (.lst (xs.map V.ref)) /\ xs[0]? = some x0 /\ BL H2 x0 a := fun {H2 bl a S} h => by
   obtain ⟨xs, h1, h2, h3⟩ := h
   obtain ⟨x0, hx0, hb0⟩ := BB.at_ (H := H2) (a := bl) h2 h3 (j := 0) (by simp)
   exact ⟨xs, x0, h1, hx0, hb0⟩
 have each2 : ∀ {H2 : Hp} {bl : Addr} {a b : Ways.Set} {S : List Ways.Set}, BB H2 bl (a :: b :: S) -> ∃ (xs : List Addr) (x0 x1 : Addr), H2 bl = some (.lst (xs.map V.ref)) /\ xs[0]? = some x0 /\ xs[1]? = some x1 /\ BL H2 x0 a /\ BL H2 x1 b := fun {H2 bl a b S} h => by
   obtain ⟨xs, h1, h2, h3⟩ := h
   obtain ⟨x0, hx0, hb0⟩ := BB.at_ (H := H2) (a := bl) h2 h3 (j := 0) (by simp)
   obtain ⟨x1, hx1, hb1⟩ := BB.at_ (H := H2) (a := bl) h2 h3 (j := 1) (by simp)
   exact ⟨xs, x0, x1, h1, hx0, hx1, hb0, hb1⟩
 have hok' : ∀ p ∈ R', p.1 < 13 /\ p.2 < 8 /\ (p.1 ≠ 1 -> p.2 = 0) := fun p hp => hok p (List.mem_cons_of_mem _ hp)
 have hls : ∀ (a b : Ways.Set) (n : Nat), b.length = g.size -> g.far a b s = some n -> stepsTo g a b g.size s = (n : Int) := fun a b n _ h => WM.far_nat.mp h
 rcases hd with ⟨e, f', ef, hb⟩ | ⟨e, f', ef⟩ | ⟨e, f', ef, hb⟩ | ⟨e, f', h', ef, hb⟩ | ⟨_, _, _, _, z⟩
 . subst e; subst ef
   have hsh : (match (g.on s).find? (Ways.has (g.holds f')) with | some t => some [s, t] | none => none) = some l := hsh
   cases hfd : (g.on s).find? (Ways.has (g.holds f')) with
   | none => rw [hfd] at hsh; cases hsh
   | some t1 =>
     rw [hfd] at hsh
     cases hsh
     refine ifN (by decide) ⟨_, rfl, _, rfl, _, rfl, pl, _, rfl, SqL.of hp1, fun q hq => ?_⟩
     obtain ⟨xs, hxs, hPt⟩ := (hP.same s1).tail hq
     rw [hp1] at hxs
     cases hxs
     have sq := Same.new (o := .lst (cutV ((t :: as).map V.ref) (some 1) none)) hq
     refine ⟨ga, q, g, R', n', rfl, wf, (hG.same s1).same sq, hPt, hr64, hok', hfit', fun H3 bl s3 hbl => ?_⟩
     rw [hb g []] at hbl
     obtain ⟨ys, x0, hy, hx0, hb0⟩ := each1 hbl
     have s13 := s1.trans (sq.trans s3)
     refine ⟨_, rfl, rfl, _, rfl, ifE rfl ⟨_, rfl, _, rfl, _, rfl, _, rfl, bl, _, _, _, rfl, rfl, SqL.of hy, Yh (j := 0) rfl (Zh hx0), o, x0, s, t1, g, g.holds f', rfl, wf, ho.same (sq.trans s3), hs, hb0, WM.Yj _ _, hfd, fun H4 s4 => ⟨le2, fun p hp => ?_⟩⟩⟩
     exact kk _ p ((s13.trans s4).put (s13.free (s4.free hp))) Zb (by simp)
 . subst e; subst ef
   have hh2 : Ways.has (g.keep (g.holds f') g.size) s = true := hh
   have hsh : (if Ways.has (g.keep (g.holds f') g.size) s = true then some (g.round (g.keep (g.holds f') g.size) (g.size + 1) [] s) else none) = some l := hsh
   rw [if_pos hh2] at hsh
   cases hsh
   refine ifE rfl ⟨_, rfl, _, rfl, _, rfl, _, rfl, ga, pl, g, _, 1, rfl, wf, hG.same s1, hP.same s1, h64, hok, hfit, fun H3 bl s3 hbl => ?_⟩
   rw [ht.run g []] at hbl
   obtain ⟨ys, x0, hy, hx0, hb0⟩ := each1 hbl
   refine ⟨bl, _, _, _, rfl, rfl, SqL.of hy, Yh (j := 0) rfl (Zh hx0), o, x0, s, g, g.holds f', rfl, wf, ho.same s3, hb0, WM.Yj _ _, hh2, fun H4 p s4 hp hl => ?_⟩
   exact kk H4 p ((s1.trans s3).trans s4) hp hl
 . subst e; subst ef
   have hsh : (match g.far (g.holds .yes) (g.holds f') s with | some n => some (g.wayTo (g.holds .yes) (g.holds f') n s) | none => none) = some l := hsh
   cases hfd : g.far (g.holds .yes) (g.holds f') s with
   | none => rw [hfd] at hsh; cases hsh
   | some n =>
     rw [hfd] at hsh
     cases hsh
     refine ifN (by decide) ⟨_, rfl, _, rfl, _, rfl, pl, _, rfl, SqL.of hp1, fun q hq => ?_⟩
     obtain ⟨xs, hxs, hPt⟩ := (hP.same s1).tail hq
     rw [hp1] at hxs
     cases hxs
     have sq := Same.new (o := .lst (cutV ((t :: as).map V.ref) (some 1) none)) hq
     refine ⟨ga, q, g, R', n', rfl, wf, (hG.same s1).same sq, hPt, hr64, hok', hfit', fun H3 bl s3 hbl => ?_⟩
     rw [hb g []] at hbl
     obtain ⟨ys, x0, hy, hx0, hb0⟩ := each1 hbl
     have s13 := s1.trans (sq.trans s3)
     have ho3 := ho.same (sq.trans s3)
     obtain ⟨os, hos, hon, _⟩ := ho3.at_
     refine ⟨_, rfl, rfl, _, rfl, ifN (by decide) ⟨_, rfl, rfl, _, rfl, ifE rfl ⟨_, rfl, _, rfl, _, rfl, o, _, rfl, hos, by rw [List.length_map, hon]; omega, fun H4 ev s4 hev => ?_⟩⟩⟩
     rw [map_yes (g := g) (by rw [List.length_map]; exact hon)] at hev
     refine ⟨_, rfl, bl, _, _, _, rfl, rfl, SqL.of (s4 _ _ hy), Yh (j := 0) rfl (Zh hx0), o, ev, x0, s, n, g, g.holds .yes, g.holds f', rfl, wf, ho3.same s4, hs, hev, hb0.same s4, WM.Yj _ _, WM.Yj _ _, hls _ _ _ (WM.Yj _ _) hfd, fun H5 p s5 hp hl => ?_⟩
     exact kk H5 p ((s13.trans s4).trans s5) hp hl
 . subst e; subst ef
   have hsh : (match g.far (g.holds f') (g.holds h') s with | some n => some (g.wayTo (g.holds f') (g.holds h') n s) | none => none) = some l := hsh
   cases hfd : g.far (g.holds f') (g.holds h') s with
   | none => rw [hfd] at hsh; cases hsh
   | some n =>
     rw [hfd] at hsh
     cases hsh
     refine ifN (by decide) ⟨_, rfl, _, rfl, _, rfl, pl, _, rfl, SqL.of hp1, fun q hq => ?_⟩
     obtain ⟨xs, hxs, hPt⟩ := (hP.same s1).tail hq
     rw [hp1] at hxs
     cases hxs
     have sq := Same.new (o := .lst (cutV ((t :: as).map V.ref) (some 1) none)) hq
     refine ⟨ga, q, g, R', n', rfl, wf, (hG.same s1).same sq, hPt, hr64, hok', hfit', fun H3 bl s3 hbl => ?_⟩
     rw [hb g []] at hbl
     obtain ⟨ys, x0, x1, hy, hx0, hx1, hb0, hb1⟩ := each2 hbl
     have s13 := s1.trans (sq.trans s3)
     have ho3 := ho.same (sq.trans s3)
     refine ⟨_, rfl, rfl, _, rfl, ifN (by decide) ⟨_, rfl, rfl, _, rfl, ifN (by decide) ⟨_, rfl, _, rfl, _, rfl, bl, _, _, _, rfl, rfl, SqL.of hy, Yh (j := 0) rfl (Zh hx0), _, rfl, bl, _, _, _, rfl, rfl, SqL.of hy, Yh (j := 1) rfl (Zh hx1), o, x0, x1, s, n, g, g.holds f', g.holds h', rfl, wf, ho3, hs, hb0, hb1, WM.Yj _ _, WM.Yj _ _, hls _ _ _ (WM.Yj _ _) hfd, fun H5 p s5 hp hl => ?_⟩⟩⟩
     exact kk H5 p (s13.trans s5) hp hl
 . rw [z g s] at hsh; cases hsh
end
structure Own (CG : Addr) (H : Hp) (ga m t : Addr) (as : List Addr) (g : Graph) : Prop where
 mt : m ≠ t
 ex : ∃ dg : Addr, H ga = some (.ins CG dg (gf m t)) /\ NL H m g.marks /\ H t = some (.lst (as.map V.ref)) /\ as.length = g.next.length /\ ∀ (j : Nat) (b : Addr), as[j]? = some b -> b ≠ m /\ b ≠ t /\ ∃ xs, g.next[j]? = some xs /\ NL H b xs
theorem Own.at_ {CG : Addr} {H : Hp} {ga m t : Addr} {as : List Addr} {g : Graph} (o : Own CG H ga m t as g) : GraphAt CG H ga g := by
 obtain ⟨dg, h1, h2, h3, h4, h5⟩ := o.ex
 exact ⟨dg, m, t, h1, h2, as, h3, h4, fun j b hb => (h5 j b hb).2.2⟩
theorem Own.same {CG : Addr} {H H' : Hp} {ga m t : Addr} {as : List Addr} {g : Graph} (o : Own CG H ga m t as g) (s : Same H H') : Own CG H' ga m t as g := by
 obtain ⟨dg, h1, h2, h3, h4, h5⟩ := o.ex
 refine ⟨o.mt, dg, s _ _ h1, h2.same s, s _ _ h3, h4, fun j b hb => ?_⟩
 obtain ⟨a1, a2, xs, a3, a4⟩ := h5 j b hb
 exact ⟨a1, a2, xs, a3, a4.same s⟩
theorem Own.setT {CG : Addr} {H H' : Hp} {ga m t p : Addr} {g : Graph} {dg : Addr} {as : List Addr} {s : Nat} {xs : List Nat} (hmt : m ≠ t) (h1 : H ga = some (.ins CG dg (gf m t))) (h2 : NL H m g.marks) (h3 : H t = some (.lst (as.map V.ref))) (h4 : as.length = g.next.length)
   (h5 : ∀ (j : Nat) (b : Addr), as[j]? = some b -> b ≠ m /\ b ≠ t /\ ∃ xs, g.next[j]? = some xs /\ NL H b xs) (s1 : Same H H') (hp : H p = none) (hp' : NL H' p xs) : Own CG (upd H' t (.lst ((as.map V.ref).set s (.ref p)))) ga m t (as.set s p) ⟨g.marks, g.next.set s xs⟩ := by
 have np : ∀ b o, H b = some o -> b ≠ p := fun b o h => Yb h hp
 have gt : ga ≠ t := Xj h1 h3 (by intro z; cases z)
 refine ⟨hmt, dg, ?_, ?_, ?_, ?_, fun j b hb => ?_⟩
 . rw [Zl gt]; exact s1 _ _ h1
 . show upd H' t _ m = _
   rw [Zl hmt]; exact s1 _ _ h2
 . rw [Zb, List.map_set]
 . rw [List.length_set, List.length_set]; exact h4
 . by_cases e : j = s
   . subst e
     have hj := Zi hb
     rw [List.length_set] at hj
     rw [List.getElem?_set_self hj] at hb
     cases hb
     have pt : p ≠ t := fun z => np _ _ h3 z.symm
     refine ⟨fun z => np _ _ h2 z.symm, pt, xs, List.getElem?_set_self (by omega), ?_⟩
     show upd H' t _ p = _
     rw [Zl pt]; exact hp'
   . rw [List.getElem?_set_ne (fun z => e z.symm)] at hb
     obtain ⟨a1, a2, ys, a3, a4⟩ := h5 j b hb
     refine ⟨a1, a2, ys, by rw [List.getElem?_set_ne (fun z => e z.symm)]; exact a3, ?_⟩
     show upd H' t _ b = _
     rw [Zl a2]; exact s1 _ _ a4
theorem Own.setM {CG : Addr} {H : Hp} {ga m t : Addr} {as : List Addr} {g : Graph} {s x : Nat} (o : Own CG H ga m t as g) : Own CG (upd H m (.lst ((g.marks.map nv).set s (nv x)))) ga m t as ⟨g.marks.set s x, g.next⟩ := by
 obtain ⟨dg, h1, h2, h3, h4, h5⟩ := o.ex
 have gm : ga ≠ m := Xj h1 h2 (by intro z; cases z)
 refine ⟨o.mt, dg, by rw [Zl gm]; exact h1, ?_, by rw [Zl (Ne.symm o.mt)]; exact h3, h4, fun j b hb => ?_⟩
 . show upd H m _ m = _
   rw [Zb, List.map_set]
 . obtain ⟨a1, a2, ys, a3, a4⟩ := h5 j b hb
   refine ⟨a1, a2, ys, a3, ?_⟩
   show upd H m _ b = _
   rw [Zl a1]; exact a4
theorem nats_of {ns : List Int} {l : List Nat} (hp : ns.Perm (l.map fun n : Nat => (n : Int))) (ho : ns.Pairwise (· <= ·)) : ∃ l' : List Nat, ns = l'.map (fun n : Nat => (n : Int)) /\ l'.Perm l /\ l'.Pairwise (· <= ·) := by
 have e : ns = (ns.map Int.toNat).map fun n : Nat => (n : Int) := by
   rw [List.map_map]
   have : ∀ x ∈ ns, x = ((fun n : Nat => (n : Int)) ∘ Int.toNat) x := fun x hx => by
     obtain ⟨n, _, e⟩ := List.mem_map.mp (hp.mem_iff.mp hx)
     rw [<- e]; rfl
   exact (List.map_id' ns).symm.trans (List.map_congr_left this)
 refine ⟨ns.map Int.toNat, e, ?_, ?_⟩
 . have := hp.map Int.toNat
   rw [List.map_map] at this
   have e2 : l.map (Int.toNat ∘ fun n : Nat => (n : Int)) = l := by
     exact (List.map_congr_left fun n _ => Int.toNat_natCast n).trans (List.map_id' l)
   rw [e2] at this
   exact this
 . rw [List.pairwise_map]
   exact ho.imp fun h => Int.toNat_le_toNat h
section
variable {P : Program} {w : World} {K : PySem.W.Frag} {mg : Str -> Option Value} {base : Heap}
def spGInit (CG : Addr) : Sp := fun vs H Q _ => ∃ (x dx m t : Addr), vs = [.ref x, .ref m, .ref t] /\ H x = some (.ins CG dx []) /\ ∀ H' : Hp, H' x = some (.ins CG dx (gf m t)) -> (∀ b o, H b = some o -> b ≠ x -> H' b = some o) -> Q .non H'
theorem ok_Graph_init {f CG : Addr} {fd : FuncData} (F : Fun K "__init__" "Graph.__init__" s_Graph_init f fd) (TG : TxG K mg CG) : FnOk P w K mg base CX0 1 f fd ["self", "marks", "targets"] (spGInit CG) := by
 refine F.ok sc_Graph_init (fun vs H Q E h => ?_) (fun cdv A outer s H vs Q E hr h => ?_)
 . obtain ⟨_, _, _, _, rfl, _⟩ := h
   rfl
 obtain ⟨x, dx, m, t, rfl, hx, k⟩ := h
 refine ⟨_, (Za (ps_fld (pv 0) (pv 1) rfl)
   (Zc (ps_fld (pv 0) (pv 2) rfl))), ?_⟩
 refine ⟨_, rfl, _, rfl, x, CG, dx, [], rfl, hx, TG.cl, TG.nM, (by show 0 < 1000; decide), _, rfl, _, rfl, x, CG, dx, _, rfl, Zb, TG.cl, TG.nT, (by show 1 < 1000; decide), ?_⟩
 refine k _ Zb fun b o hb ne => ?_
 rw [Zl ne, Zl ne]; exact hb
def spAreMarks : Sp := fun vs H Q _ => ∃ n : Nat, vs = [nv n] /\ Q (.bl (decide (n < 256))) H
theorem ok_are_marks {f : Addr} {fd : FuncData} (F : Fun K "are_marks" "are_marks" s_are_marks f fd) (T : Txt K mg) : FnOk P w K mg base CX0 1 f fd ["number"] spAreMarks := by
 refine F.ok sc_are_marks (fun vs H Q E h => ?_) (fun cdv A outer s H vs Q E hr h => ?_)
 . obtain ⟨_, rfl, _⟩ := h
   rfl
 obtain ⟨n, rfl, k⟩ := h
 refine ⟨_, (Zc (Zg (Ua op_lt (pv 0) (Zy T.gMARKS_END) (Zt _)))), ?_⟩
 refine ⟨_, rfl, _, _, rfl, rfl, ?_⟩
 have e : decide ((n : Int) < 256) = decide (n < 256) := by
   by_cases q : n < 256
   . rw [decide_eq_true q]; exact decide_eq_true (by omega)
   . rw [decide_eq_false q]; exact decide_eq_false (by omega)
 show Q (.bl (decide ((n : Int) < 256))) H
 rw [e]; exact k
def Ug (CG : Addr) : Sp := fun vs H Q _ => ∃ (ga : Addr) (g : Graph) (s : Nat), vs = [.ref ga, nv s] /\ GraphAt CG H ga g /\ Q (.bl (decide (s < g.size))) H
theorem dec_lt {a b : Nat} : decide ((a : Int) < (b : Int)) = decide (a < b) := by
 by_cases q : a < b
 . rw [decide_eq_true q]; exact decide_eq_true (by omega)
 . rw [decide_eq_false q]; exact decide_eq_false (by omega)
theorem ok_has_state {f CG : Addr} {fd : FuncData} (F : Fun K "has_state" "has_state" s_has_state f fd) (T : Txt K mg) (TG : TxG K mg CG) : FnOk P w K mg base CX0 1 f fd ["graph", "s"] (Ug CG) := by
 refine F.ok sc_has_state (fun vs H Q E h => ?_) (fun cdv A outer s H vs Q E hr h => ?_)
 . obtain ⟨_, _, _, rfl, _⟩ := h
   rfl
 obtain ⟨ga, g, s, rfl, ⟨dg, m, t, hg, hm, hn⟩, k⟩ := h
 refine ⟨_, (Zc (Zg (Ua op_lt (pv 1) (Zv (Yl K) rfl T.nlen PySem.boot_len (pa1 (Ye K (pv 0)))) (Zt _)))), ?_⟩
 refine ⟨_, rfl, _, rfl, ga, CG, dg, _, _, rfl, hg, TG.cl, TG.nM, Xc _ _, m, _, rfl, .inl (SqL.of hm), _, _, rfl, rfl, ?_⟩
 show Q (.bl (decide ((s : Int) < (((g.marks.map nv).length : Nat) : Int)))) H
 rw [dec_lt, List.length_map]; exact k
def Qc (CG : Addr) : Sp := fun vs H Q _ => ∃ (ga : Addr) (g : Graph) (s t : Nat), vs = [.ref ga, nv s, nv t] /\ GraphAt CG H ga g /\ Q (.bl (decide (s < g.size /\ t < g.size))) H
theorem ok_has_states {f CG : Addr} {fd : FuncData} (F : Fun K "has_states" "has_states" s_has_states f fd) (Dhas_state : Def P w K mg base "has_state" 1 ["graph", "s"] (Ug CG)) : FnOk P w K mg base CX0 2 f fd ["graph", "s", "t"] (Qc CG) := by
 refine F.ok sc_has_states (fun vs H Q E h => ?_) (fun cdv A outer s H vs Q E hr h => ?_)
 . obtain ⟨_, _, _, _, rfl, _⟩ := h
   rfl
 obtain ⟨ga, g, s, t, rfl, hG, k⟩ := h
 refine ⟨_, (Zc (Zg (pe_and (Zk Dhas_state hr.m (pa2 (pv 0) (pv 1))) (pe_one (Zk Dhas_state hr.m (pa2 (pv 0) (pv 2))))))), ?_⟩
 refine ⟨_, rfl, _, rfl, ga, g, s, rfl, hG, _, rfl, ?_⟩
 by_cases q1 : s < g.size
 . refine ifT (decide_eq_true q1) ⟨_, rfl, _, rfl, ga, g, t, rfl, hG, ?_⟩
   by_cases q2 : t < g.size
   . rw [decide_eq_true (And.intro q1 q2)] at k
     rw [decide_eq_true q2]; exact k
   . rw [decide_eq_false (fun z => q2 z.2)] at k
     rw [decide_eq_false q2]; exact k
 . refine ifF (decide_eq_false q1) ?_
   rw [decide_eq_false (fun z => q1 z.1)] at k
   exact k
def spHasEdge (CG : Addr) : Sp := fun vs H Q _ => ∃ (ga : Addr) (g : Graph) (s u : Nat), vs = [.ref ga, nv s, nv u] /\ GraphAt CG H ga g /\ s < g.next.length /\ Q (.bl (decide (u ∈ g.next.getD s []))) H
theorem ok_has_edge {f CG : Addr} {fd : FuncData} (F : Fun K "has_edge" "has_edge" s_has_edge f fd) (T : Txt K mg) (TG : TxG K mg CG) : FnOk P w K mg base CX0 1 f fd ["graph", "s", "t"] (spHasEdge CG) := by
 refine F.ok sc_has_edge (fun vs H Q E h => ?_) (fun cdv A outer s H vs Q E hr h => ?_)
 . obtain ⟨_, _, _, _, rfl, _⟩ := h
   rfl
 obtain ⟨ga, g, s, u, rfl, ⟨dg, m, t, hg, hm, as, ht, hal, has⟩, hs, k⟩ := h
 refine ⟨_, (Zc (Zg (Ua (op_inK K) (pv 2) (Zm (Zd K) (Ye K (pv 0)) (pv 1) (fun _ _ => rfl)) (by with_unfolding_all rfl)))), ?_⟩
 obtain ⟨b, hb⟩ : ∃ b, as[s]? = some b := ⟨_, List.getElem?_eq_getElem (by omega)⟩
 obtain ⟨xs, hxs, hbx⟩ := has s b hb
 refine ⟨_, rfl, _, rfl, ga, CG, dg, _, _, rfl, hg, TG.cl, TG.nT, Xs _ _, _, rfl, t, _, _, _, rfl, rfl, SqL.of ht, Zs (Zh hb), b, _, rfl, .inl (SqL.of hbx), rfl, flat_nats xs, ?_⟩
 show Q (.bl (inV (nv u) (xs.map nv))) H
 rw [inV_nat]
 have e : g.next.getD s [] = xs := by rw [List.getD_eq_getElem?_getD, hxs]; rfl
 rw [e] at k; exact k
def spAddEdge (CG : Addr) : Sp := fun vs H Q _ => ∃ (ga m t : Addr) (as : List Addr) (g : Graph) (s u : Nat), vs = [.ref ga, nv s, nv u] /\ WF g /\ Own CG H ga m t as g /\ s < g.size /\ u < g.size /\ u ∉ g.next.getD s [] /\
 ∀ (H' : Hp) (p : Addr), H p = none -> (∀ b o, H b = some o -> b ≠ t -> H' b = some o) -> Own CG H' ga m t (as.set s p) ⟨g.marks, g.next.set s (Ways.rising (u :: g.next.getD s []) g.size)⟩ -> Q .non H'
theorem ix_nat {xs : List V} {s : Nat} (h : s < xs.length) : ixN xs.length (s : Int) = some s := by
 unfold ixN
 rw [if_pos (by omega), if_pos (by omega)]; simp
theorem ok_add_edge {f CG : Addr} {fd : FuncData} (F : Fun K "add_edge" "add_edge" s_add_edge f fd) (T : Txt K mg) (TG : TxG K mg CG) : FnOk P w K mg base CX0 1 f fd ["graph", "s", "t"] (spAddEdge CG) := by
 refine F.ok sc_add_edge (fun vs H Q E h => ?_) (fun cdv A outer s H vs Q E hr h => ?_)
 . obtain ⟨_, _, _, _, _, _, _, rfl, _⟩ := h
   rfl
 obtain ⟨ga, m, t, as, g, s, u, rfl, wf, own, hs, hu, hnu, k⟩ := h
 refine ⟨_, (Zc (ps_asg (Zv (cr_sortedK K) rfl T.nsorted bootSorted (pa1 (Xh op_cat (Zm (Zd K) (Ye K (pv 0)) (pv 1) (fun _ _ => rfl)) (Zx (pa1 (pv 2)))))) (pg_sub (Ye K (pv 0)) (pv 1) set_list))), ?_⟩
 have h12 := wf.le
 obtain ⟨dg, hg, hm, ht, hal, has⟩ := id own.ex
 have hnl := wf.len
 obtain ⟨b, hb⟩ : ∃ b, as[s]? = some b := ⟨_, List.getElem?_eq_getElem (by omega)⟩
 obtain ⟨bm, bt, xs, hxs, hbx⟩ := has s b hb
 have ex : g.next.getD s [] = xs := by rw [List.getD_eq_getElem?_getD, hxs]; rfl
 have hsrt := wf.srt _ (wf.next_mem hs)
 have hlt := wf.lt _ (wf.next_mem hs)
 rw [ex] at hsrt hlt hnu k
 have hxl := Qb hsrt hlt
 refine ⟨_, rfl, ga, CG, dg, _, _, rfl, hg, TG.cl, TG.nT, Xs _ _, _, rfl, t, _, _, _, rfl, rfl, SqL.of ht, Zs (Zh hb), _, rfl, le1, fun p1 hp1 => ?_⟩
 have s1 : Same H (upd H p1 (.lst [nv u])) := Same.new hp1
 refine ⟨b, p1, _, _, rfl, rfl, s1 _ _ hbx, Zb, ?_, fun p2 hp2 => ?_⟩
 . rw [List.length_map]
   exact Nat.le_of_lt (Zn (m := 100) (by simp; omega))
 have s2 := s1.trans (Same.new (o := .lst (xs.map nv ++ [nv u])) hp2)
 refine ⟨p2, (xs ++ [u]).map fun n : Nat => (n : Int), rfl, SqL.of ?_, by rw [List.length_map, List.length_append, List.length_singleton]; omega, fun ns p3 hperm hord hp3 => ?_⟩
 . rw [Zb, List.map_map, List.map_append]; rfl
 obtain ⟨l', rfl, hp', ho'⟩ := nats_of hperm hord
 have el := WM.sorted_rising hsrt hlt hu hnu hp' ho'
 have s3 := s2.trans (Same.new (o := .lst ((l'.map fun n : Nat => (n : Int)).map V.int)) hp3)
 refine ⟨_, rfl, ga, CG, dg, _, _, rfl, s3 _ _ hg, TG.cl, TG.nT, Xs _ _, _, rfl, t, _, _, s, rfl, rfl, s3 _ _ ht, ix_nat (by rw [List.length_map]; omega), ?_⟩
 refine k _ p3 (s2.free hp3) (fun b' o hb' ne => by rw [Zl ne]; exact s3 _ _ hb') ?_
 rw [<- el]
 refine Own.setT own.mt hg hm ht hal has s3 (s2.free hp3) ?_
 show upd _ p3 _ p3 = _
 rw [Zb, List.map_map]; rfl
def spCutEdge (CG : Addr) : Sp := fun vs H Q _ => ∃ (ga m t : Addr) (as : List Addr) (g : Graph) (s u : Nat), vs = [.ref ga, nv s, nv u] /\ WF g /\ Own CG H ga m t as g /\ s < g.size /\
 ∀ (H' : Hp) (p : Addr), H p = none -> (∀ b o, H b = some o -> b ≠ t -> H' b = some o) -> Own CG H' ga m t (as.set s p) ⟨g.marks, g.next.set s ((g.next.getD s []).filter fun x => x != u)⟩ -> Q .non H'
theorem ok_cut_edge {f CG : Addr} {fd : FuncData} (F : Fun K "cut_edge" "cut_edge" s_cut_edge f fd) (T : Txt K mg) (TG : TxG K mg CG) : FnOk P w K mg base CX0 1 f fd ["graph", "s", "t"] (spCutEdge CG) := by
 refine F.ok sc_cut_edge (fun vs H Q E h => ?_) (fun cdv A outer s H vs Q E hr h => ?_)
 . obtain ⟨_, _, _, _, _, _, _, rfl, _⟩ := h
   rfl
 obtain ⟨ga, m, t, as, g, s, u, rfl, wf, own, hs, k⟩ := h
 refine ⟨_, (Zc (ps_asg (Yu rfl sc_cut_edge.nd (Yg K (Zm (Zd K) (Ye K (pv 0)) (pv 1) (fun _ _ => rfl))) (own := [("u", 3)]) (Ya (by rfl)) (fun _ _ _ _ _ => Zp (i := 3) sc_cut_edge.nd rfl (.inl rfl)) (fun _ _ _ _ _ => pts_one (Zq op_ne (pv 3) (pv 2) (Zt _))) (fun _ _ _ _ _ => (pv 3))) (pg_sub (Ye K (pv 0)) (pv 1) set_list))), ?_⟩
 have h12 := wf.le
 obtain ⟨dg, hg, hm, ht, hal, has⟩ := id own.ex
 have hnl := wf.len
 obtain ⟨b, hb⟩ : ∃ b, as[s]? = some b := ⟨_, List.getElem?_eq_getElem (by omega)⟩
 obtain ⟨bm, bt, xs, hxs, hbx⟩ := has s b hb
 have ex : g.next.getD s [] = xs := by rw [List.getD_eq_getElem?_getD, hxs]; rfl
 have hsrt := wf.srt _ (wf.next_mem hs)
 have hlt := wf.lt _ (wf.next_mem hs)
 rw [ex] at hsrt hlt k
 have hxl := Qb hsrt hlt
 refine ⟨_, rfl, ga, CG, dg, _, _, rfl, hg, TG.cl, TG.nT, Xs _ _, _, rfl, t, _, _, _, rfl, rfl, SqL.of ht, Zs (Zh hb), b, rfl, ⟨_, SqL.of hbx⟩, fun D hD => ?_⟩
 refine lcL (SqL.of hbx) hD (fun i acc _ => acc = ((xs.take i).filter fun x => x != u).map nv) rfl ?_ ?_
 . intro i H2 acc x hx s1 hd hl' hg2
   obtain ⟨v, hv, rfl⟩ := Zz hx
   have hi := Zi hv
   refine ⟨rfl, _, rfl, _, rfl, rfl, _, rfl, ?_⟩
   have ed : (!decide (nv v = nv u)) = (v != u) := by
     show (!decide (V.int (v : Int) = V.int (u : Int))) = _
     rw [dec_int']
     by_cases q : v = u
     . subst q; simp
     . rw [decide_eq_false (by omega)]
       exact (bne_iff_ne.mpr q).symm
   show if (!decide (nv v = nv u)) = true then _ else _
   rw [ed]
   cases q : v != u with
   | true =>
     refine ifT rfl ⟨_, rfl, LcOk.push hD s1 hd hl' (Same.refl _) (Zn (m := 100) (by omega)) ?_⟩
     rw [hg2, Yc hv, List.filter_append, List.map_append, List.filter_cons_of_pos (p := fun x => x != u) q]; rfl
   | false =>
     refine ifF rfl (LcOk.skip s1 hd hl' (Same.refl _) ?_)
     rw [hg2, Yc hv, List.filter_append, List.filter_cons_of_neg (p := fun x => x != u) (by rw [q]; decide), List.filter_nil, List.append_nil]
 . intro H2 acc s1 hd hl' hg2
   rw [List.length_map, List.take_length] at hg2
   refine ⟨_, rfl, ga, CG, dg, _, _, rfl, s1 _ _ hg, TG.cl, TG.nT, Xs _ _, _, rfl, t, _, _, s, rfl, rfl, s1 _ _ ht, ix_nat (by rw [List.length_map]; omega), ?_⟩
   refine k _ D hD (fun b' o hb' ne => by rw [Zl ne]; exact s1 _ _ hb') ?_
   refine Own.setT own.mt hg hm ht hal has s1 hD ?_
   show H2 D = _
   rw [hd, hg2]
end
section
variable {P : Program} {w : World} {K : PySem.W.Frag} {mg : Str -> Option Value} {base : Heap}
def spIsGraph : Sp := fun vs H Q _ => ∃ (a b : Addr) (m e : List Nat), vs = [.ref a, .ref b] /\ NL H a m /\ NL H b e /\ m.length <= 16000 /\ e.length <= 16000 /\ ∀ H' : Hp, Same H H' -> Q (.bl (okGraph m e)) H'
theorem small_big {n : Nat} (h : n <= 16000) : n <= sizeLine := by
 rw [sizeLine_eq]; omega
theorem ok_is_graph {f : Addr} {fd : FuncData} (F : Fun K "is_graph" "is_graph" s_is_graph f fd) (T : Txt K mg) (Dare_marks : Def P w K mg base "are_marks" 1 ["number"] spAreMarks) : FnOk P w K mg base CX0 2 f fd ["marks", "ends"] spIsGraph := by
 refine F.ok sc_is_graph (fun vs H Q E h => ?_) (fun cdv A outer s H vs Q E hr h => ?_)
 . obtain ⟨_, _, _, _, rfl, _⟩ := h
   rfl
 obtain ⟨a, b, m, e, rfl, ha, hb, ml, el, k⟩ := h
 refine ⟨_, (Za (Zr (i := 2) sc_is_graph.nd rfl (.inr rfl) (Zv (Yl K) rfl T.nlen PySem.boot_len (pa1 (pv 0))))
   (Za (Yf (PW.pt (pw_or (Zq op_lt (pv 2) Zj (Zt _)) (pw_or (Zq op_gt (pv 2) (Zy T.gMOST_STATES) (Zt _)) (pw_or1 (Zq Yr (Xh op_mod (Zv (Yl K) rfl T.nlen PySem.boot_len (pa1 (pv 1))) Zj) Zj (Zt _)))))) (Zc (Zg pe_bl)) Zo)
   (Zc (Zg (pe_and (Zv (cr_allK K rfl) rfl T.nall bootAll (pa1 (Yu rfl sc_is_graph.nd (Yg K (pv 0)) (own := [("number", 3)]) (Ya (by rfl)) (fun _ _ _ _ _ => Zp (i := 3) sc_is_graph.nd rfl (.inl rfl)) (fun _ _ _ _ _ => Yn) (fun _ _ _ _ _ => (Zk Dare_marks hr.m (pa1 (pv 3))))))) (pe_one (Zv (cr_allK K rfl) rfl T.nall bootAll (pa1 (Yu rfl sc_is_graph.nd (Yg K (pv 1)) (own := [("s", 4)]) (Ya (by rfl)) (fun _ _ _ _ _ => Zp (i := 4) sc_is_graph.nd rfl (.inl rfl)) (fun _ _ _ _ _ => Yn) (fun _ _ _ _ _ => (Ua op_lt (pv 4) (pv 2) (Zt _)))))))))))), ?_⟩
 have lm : (m.map nv).length = m.length := List.length_map _
 have le : (e.map nv).length = e.length := List.length_map _
 refine ⟨_, rfl, a, _, rfl, .inl (SqL.of ha), ?_⟩
 show tSeq _ _ _ [some (.ref a), some (.ref b), some (.int (((m.map nv).length : Nat) : Int)), none, none] H
 rw [lm]
 have no : okGraph m e = false -> ∀ H' : Hp, Same H H' -> Q (.bl false) H' := fun q => by rw [q] at k; exact k
 refine ⟨_, rfl, _, _, rfl, rfl, _, rfl, ?_⟩
 by_cases q1 : m.length < 1
 . refine ifT (decide_eq_true (by omega)) (ifT rfl (no ?_ H (Same.refl _)))
   unfold okGraph
   rw [decide_eq_false (by omega)]; rfl
 refine ifF (decide_eq_false (by omega)) ⟨_, rfl, _, _, rfl, rfl, _, rfl, ?_⟩
 by_cases q2 : 12 < m.length
 . refine ifT (decide_eq_true (by omega)) (ifT rfl (no ?_ H (Same.refl _)))
   unfold okGraph
   rw [decide_eq_false (show ¬ m.length <= 12 by omega), Bool.and_false]; rfl
 refine ifF (decide_eq_false (by omega)) ⟨_, rfl, b, _, rfl, .inl (SqL.of hb), _, _, rfl, rfl, (by show (0 : Int) < 2; decide), rfl, _, rfl, ?_⟩
 show if decide (V.int ((((e.map nv).length : Nat) : Int) % 2) = V.int 1) = true then _ else _
 rw [le, dec_int']
 by_cases q3 : e.length % 2 = 1
 . refine ifT (decide_eq_true (by omega)) (no ?_ H (Same.refl _))
   unfold okGraph
   rw [decide_eq_false (show ¬ e.length % 2 = 0 by omega), Bool.and_false]; rfl
 refine ifF (decide_eq_false (by omega)) ?_
 have eok : okGraph m e = (m.all (fun x => decide (x < 256)) && e.all fun x => decide (x < m.length)) := by
   unfold okGraph
   rw [decide_eq_true (show 1 <= m.length by omega), decide_eq_true (show m.length <= 12 by omega), decide_eq_true (show e.length % 2 = 0 by omega), Bool.true_and, Bool.true_and, Bool.true_and]
 rw [eok] at k
 refine ⟨_, rfl, a, rfl, ⟨_, SqL.of ha⟩, fun D hD => ?_⟩
 refine lcL (SqL.of ha) hD (fun i acc _ => acc = (m.take i).map fun x => V.bl (decide (x < 256))) rfl ?_ ?_
 . intro i H2 acc x hx s1 hd hl' hg
   obtain ⟨v, hv, rfl⟩ := Zz hx
   have hi := Zi hv
   refine ⟨rfl, _, rfl, v, rfl, LcOk.push hD s1 hd hl' (Same.refl _) (Nat.lt_of_lt_of_le hi (small_big ml)) ?_⟩
   rw [hg, Yc hv, List.map_append]; rfl
 . intro H1 acc s1 hd hl' hg
   rw [lm, List.take_length] at hg
   refine ⟨D, m.map fun x => decide (x < 256), rfl, SqL.of (by rw [hd, hg, List.map_map]; rfl), _, rfl, ?_⟩
   rw [List.all_map]
   show if m.all (fun x => decide (x < 256)) = true then _ else _
   cases qa : m.all fun x => decide (x < 256) with
   | false =>
     refine ifF rfl ?_
     rw [qa] at k
     exact k H1 s1
   | true =>
     rw [qa, Bool.true_and] at k
     refine ifT rfl ⟨_, rfl, b, rfl, ⟨_, SqL.of (hb.same s1)⟩, fun D2 hD2 => ?_⟩
     refine lcL (SqL.of (hb.same s1)) hD2 (fun i acc _ => acc = (e.take i).map fun x => V.bl (decide (x < m.length))) rfl ?_ ?_
     . intro i H2 acc2 x hx s2 hd2 hl2 hg2
       obtain ⟨v, hv, rfl⟩ := Zz hx
       have hi := Zi hv
       refine ⟨rfl, _, rfl, _, rfl, _, _, rfl, rfl, LcOk.push hD2 s2 hd2 hl2 (Same.refl _) (Nat.lt_of_lt_of_le hi (small_big el)) ?_⟩
       rw [hg2, Yc hv, List.map_append, List.map_singleton]
       exact congrArg (fun z => _ ++ [V.bl z]) dec_lt
     . intro H2 acc2 s2 hd2 hl2 hg2
       rw [le, List.take_length] at hg2
       refine ⟨D2, e.map fun x => decide (x < m.length), rfl, SqL.of (by rw [hd2, hg2, List.map_map]; rfl), ?_⟩
       rw [List.all_map]
       exact k H2 (s1.trans s2)
def spGraphOf (CG : Addr) : Sp := fun vs H Q _ => ∃ (a b : Addr) (m e : List Nat) (g : Graph), vs = [.ref a, .ref b] /\ NL H a m /\ NL H b e /\ e.length <= 16000 /\ okGraph m e = true /\ Ways.graphIn m e = some g /\
 ∀ (H' : Hp) (ga am at' : Addr) (as : List Addr), Same H H' -> H ga = none -> H am = none -> H at' = none -> (∀ b ∈ as, H b = none) -> Own CG H' ga am at' as g -> Q (.ref ga) H'
theorem wf_tgt {m : List Nat} {ps : List (Nat × Nat)} (h1 : 1 <= m.length) (h2 : m.length <= 12) (h3 : ∀ x ∈ m, x < 256) : WF ⟨m, tgt m.length ps⟩ := by
 refine ⟨h1, h2, WM.Xn _ _, h3, fun l hl t ht => ?_, fun l hl => ?_⟩
 . have hl : l ∈ tgt m.length ps := hl
   unfold tgt at hl
   obtain ⟨s, _, e⟩ := List.mem_map.mp hl
   rw [<- e] at ht
   exact (WM.edgeTo_mem.mp ht).1
 . have hl : l ∈ tgt m.length ps := hl
   unfold tgt at hl
   obtain ⟨s, _, e⟩ := List.mem_map.mp hl
   rw [<- e]
   exact WM.Yk _ _
def GoodNil (H1 : Hp) (D : Addr) (i : Nat) (acc : List V) (H' : Hp) : Prop := ∃ bs : List Addr, acc = bs.map V.ref /\ bs.length = i /\ ∀ (j : Nat) (b : Addr), bs[j]? = some b -> NL H' b [] /\ b ≠ D /\ H1 b = none
theorem ok_graph_of {f CG fI : Addr} {fd fdI : FuncData} (F : Fun K "graph_of" "graph_of" s_graph_of f fd) (T : Txt K mg) (TG : TxG K mg CG) (MGraph : Mk K CG fI) (FI : FnOk P w K mg base CX0 1 fI fdI ["self", "marks", "targets"] (spGInit CG)) (bGraph : Binds K fdI ["self", "marks", "targets"] [])
   (Dhas_edge : Def P w K mg base "has_edge" 1 ["graph", "s", "t"] (spHasEdge CG)) (Dadd_edge : Def P w K mg base "add_edge" 1 ["graph", "s", "t"] (spAddEdge CG)) : FnOk P w K mg base CX0 3 f fd ["marks", "ends"] (spGraphOf CG) := by
 refine F.ok sc_graph_of (fun vs H Q E h => ?_) (fun cdv A outer s H vs Q E hr h => ?_)
 . obtain ⟨_, _, _, _, _, rfl, _⟩ := h
   rfl
 obtain ⟨a, b, m, e, g, rfl, ha, hb, el, hok, hgi, k⟩ := h
 refine ⟨_, (Za (Zr (i := 2) sc_graph_of.nd rfl (.inl rfl) (pe_make MGraph FI hr rfl TG.at_ bGraph .nil pass0 (pa2 (pe_callTy (cr_listK K) rfl T.nlist bootList (pa1 (pv 0))) (Yu rfl sc_graph_of.nd (Yg K (pv 0)) (own := [("number", 3)]) (Ya (by rfl)) (fun _ _ _ _ _ => Zp (i := 3) sc_graph_of.nd rfl (.inl rfl)) (fun _ _ _ _ _ => Yn) (fun _ _ _ _ _ => (Zx Vc))))))
   (Za (Xr PassesOwn.never rfl (pi_range3 rfl T.nrange (pa3 Zj (Zv (Yl K) rfl T.nlen PySem.boot_len (pa1 (pv 1))) Zj)) (Zp (i := 4) sc_graph_of.nd rfl (.inl rfl)) (Zc (Yf (Vl (Yw (Zk Dhas_edge hr.m (pa3 (pv 2) (Zm (Zd K) (pv 1) (pv 4) (fun _ _ => rfl)) (Zm (Zd K) (pv 1) (Xh op_add (pv 4) Zj) (fun _ _ => rfl)))))) (Zc (Yt (Zk Dadd_edge hr.m (pa3 (pv 2) (Zm (Zd K) (pv 1) (pv 4) (fun _ _ => rfl)) (Zm (Zd K) (pv 1) (Xh op_add (pv 4) Zj) (fun _ _ => rfl)))))) Zo)))
   (Zc (Zg (pv 2))))), ?_⟩
 have hsp := WM.graphIn_spec m e
 rw [hok] at hsp
 obtain ⟨ps, he, hps, hg⟩ := hsp
 rw [hg] at hgi
 cases hgi
 unfold okGraph at hok
 simp only [Bool.and_eq_true, decide_eq_true_eq, List.all_eq_true] at hok
 obtain ⟨⟨⟨⟨q1, q2⟩, q3⟩, q4⟩, q5⟩ := hok
 have lm : (m.map nv).length = m.length := List.length_map _
 have le : (e.map nv).length = e.length := List.length_map _
 have lp : e.length = 2 * ps.length := by rw [he, WM.flat_length]
 refine ⟨_, rfl, a, _, rfl, .inl (SqL.of ha), fun am ham => ?_⟩
 have s1 : Same H (upd H am (.lst (m.map nv))) := Same.new ham
 generalize hH1 : upd H am (.lst (m.map nv)) = H1 at s1
 have hm1 : NL H1 am m := by rw [<- hH1]; exact Zb
 refine ⟨_, rfl, a, rfl, ⟨_, SqL.of (ha.same s1)⟩, fun at' hat => ?_⟩
 refine lcL (SqL.of (ha.same s1)) hat (GoodNil H1 at') ⟨[], rfl, rfl, fun j b hb => by simp at hb⟩ ?_ ?_
 . intro i H2 acc x hx s2 hd hl' hg2
   obtain ⟨bs, rfl, hbl, hbs⟩ := hg2
   obtain ⟨v, hv, rfl⟩ := Zz hx
   have hi := Zi hv
   refine ⟨rfl, Nat.zero_le _, fun p hp => ?_⟩
   refine LcOk.push hat s2 hd hl' (Same.new hp) (Zn (m := 100) (by omega)) ⟨bs ++ [p], by rw [List.map_append]; rfl, by rw [List.length_append, hbl]; rfl, fun j b' hb' => ?_⟩
   have pD : p ≠ at' := fun z => by rw [z, hd] at hp; cases hp
   by_cases q : j < bs.length
   . rw [List.getElem?_append_left q] at hb'
     obtain ⟨h1, h2, h3⟩ := hbs j b' hb'
     refine ⟨?_, h2, h3⟩
     show upd (upd H2 p _) at' _ b' = _
     rw [Zl h2]
     exact Same.new hp _ _ h1
   . rw [List.getElem?_append_right (by omega)] at hb'
     have e0 : j - bs.length = 0 := by
       have := Zi hb'
       simp at this
       omega
     rw [e0] at hb'
     have e1 : p = b' := by simpa using hb'
     subst e1
     refine ⟨?_, pD, s2.free hp⟩
     show upd (upd H2 p _) at' _ p = _
     rw [Zl pD, Zb]; rfl
 . intro H2 acc s2 hd hl' hg2
   obtain ⟨bs, rfl, hbl, hbs⟩ := hg2
   rw [lm] at hbl
   intro x dx nx ndx nex
   refine ⟨x, dx, am, at', rfl, Zb, fun H3 hx3 k3 => ⟨rfl, ?_⟩⟩
   have s3 : Same H2 H3 := Same.made nx ndx k3
   have s03 : Same H H3 := (s1.trans s2).trans s3
   have nam : am ≠ at' := fun z => by
     have := hm1
     unfold NL at this
     rw [z, hat] at this; cases this
   have own0 : Own CG H3 x am at' bs ⟨m, tgt m.length []⟩ := by
     refine ⟨nam, dx, hx3, (hm1.same s2).same s3, s3 _ _ hd, ?_, fun j b' hb' => ?_⟩
     . rw [hbl]; exact (WM.Xn _ _).symm
     . obtain ⟨h1, h2, h3⟩ := hbs j b' hb'
       refine ⟨fun z => ?_, h2, [], ?_, h1.same s3⟩
       . have := hm1
         unfold NL at this
         rw [<- z, h3] at this; cases this
       . show (tgt m.length [])[j]? = _
         rw [WM.tgt_nil]
         have hj := Zi hb'
         rw [List.getElem?_map, List.getElem?_range (by omega)]; rfl
   have hz : (((e.map nv).length : Nat) : Int) = (e.length : Int) := by rw [le]
   refine ⟨_, rfl, b, _, rfl, .inl (SqL.of (hb.same s03)), _, _, _, ps.length, rfl, ?_, ?_⟩
   . rw [hz]
     have z := RgC.two (n := e.length) (by omega)
     have e1 : (e.length + 1) / 2 = ps.length := by omega
     rw [e1] at z
     exact z
   refine for_rangeC (fun i σ H' => ∃ (v4 : Option V) (as : List Addr), σ = [some (.ref a), some (.ref b), some (.ref x), none, v4] /\ Same H H' /\ (∀ b ∈ as, H b = none) /\ Own CG H' x am at' as ⟨m, tgt m.length (ps.take i)⟩) ⟨none, bs, rfl, s03, fun b' hb' => by
     obtain ⟨j, hj⟩ := List.getElem?_of_mem hb'
     exact s1.free (hbs j b' hj).2.2, own0⟩ ?_ ?_
   . rintro i σ H4 hi ⟨v4, as, rfl, s4, hfr, own⟩
     obtain ⟨p, hp⟩ : ∃ p, ps[i]? = some p := ⟨_, List.getElem?_eq_getElem hi⟩
     obtain ⟨p1, p2⟩ := p
     obtain ⟨f1, f2⟩ := WM.flat_get hp
     rw [<- he] at f1 f2
     obtain ⟨l1, l2⟩ := hps _ (List.mem_of_getElem? hp)
     have zi : (0 : Int) + (i : Nat) * 2 = ((2 * i : Nat) : Int) := by omega
     rw [zi]
     have hb4 := hb.same s4
     have wfi : WF ⟨m, tgt m.length (ps.take i)⟩ := wf_tgt q1 q2 q4
     have eg : (tgt m.length (ps.take i)).getD p1 [] = WM.edgeTo m.length (ps.take i) p1 := by
       rw [List.getD_eq_getElem?_getD, WM.tgt_get l1]; rfl
     have fin : ∀ (H5 : Hp) (as : List Addr), Same H H5 -> (∀ b ∈ as, H b = none) -> Own CG H5 x am at' as ⟨m, tgt m.length (ps.take (i + 1))⟩ -> ∃ (v4 : Option V) (as : List Addr), [some (V.ref a), some (V.ref b), some (V.ref x), none, some (V.int ((2 * i : Nat) : Int))] = [some (.ref a), some (.ref b), some (.ref x), none, v4] /\ Same H H5 /\ (∀ b ∈ as, H b = none) /\ Own CG H5 x am at' as ⟨m, tgt m.length (ps.take (i + 1))⟩ := fun H5 as h1 h2 h3 => ⟨_, as, rfl, h1, h2, h3⟩
     refine ⟨_, rfl, _, rfl, _, rfl, b, _, _, _, rfl, rfl, SqL.of hb4, Zs (Zh f1), _, rfl, _, rfl, _, _, rfl, rfl, b, _, _, _, rfl, rfl, SqL.of hb4, Yh (j := 2 * i + 1) (by omega) (Zh f2), x, _, p1, p2, rfl, own.at_, by show p1 < (tgt _ _).length; rw [WM.Xn]; exact l1, _, rfl, ?_⟩
     show if (!decide (p2 ∈ (tgt m.length (ps.take i)).getD p1 [])) = true then _ else _
     rw [eg]
     by_cases q : p2 ∈ WM.edgeTo m.length (ps.take i) p1
     . refine ifF (by rw [decide_eq_true q]; rfl) (fin H4 as s4 hfr ?_)
       rw [Yc hp, WM.tgt_old q]; exact own
     . refine ifT (by rw [decide_eq_false q]; rfl) ?_
       refine ⟨_, rfl, _, rfl, _, rfl, b, _, _, _, rfl, rfl, SqL.of hb4, Zs (Zh f1), _, rfl, _, rfl, _, _, rfl, rfl, b, _, _, _, rfl, rfl, SqL.of hb4, Yh (j := 2 * i + 1) (by omega) (Zh f2), x, am, at', as, _, p1, p2, rfl, wfi, own, l1, l2, by rw [eg]; exact q, fun H5 px npx k5 own5 => fin H5 (as.set p1 px) ?_ ?_ ?_⟩
       . intro b' o hb'
         refine k5 b' o (s4 _ _ hb') fun z => ?_
         rw [z, s1.free hat] at hb'; cases hb'
       . intro b' hb'
         rcases List.mem_or_eq_of_mem_set hb' with z | z
         . exact hfr b' z
         . rw [z]; exact s4.free npx
       . rw [Yc hp, WM.tgt_new l1 l2, <- eg]; exact own5
   . rintro σ H4 ⟨v4, as, rfl, s4, hfr, own⟩
     rw [List.take_length] at own
     exact ⟨_, rfl, k H4 x am at' as s4 ((s1.trans s2).free nx) ham (s1.free hat) hfr own⟩
end
def AL (H : Hp) (p : Addr) (zs : List Int) : Prop := H p = some (.lst (zs.map V.int))
def sh (a : Ways.Answer) : List Int := WaysNeutral.shown a
theorem sh_lists (l : List Nat) : sh (Ways.lists l) = (l.length : Int) :: (l.length : Int) :: l.map fun n : Nat => (n : Int) := by
 show ((l.length : Nat) : Int) :: ([l].flatMap _) = _
 rw [List.flatMap_cons, List.flatMap_nil, List.append_nil]
theorem Vn (l : List Nat) : l.map nv = (l.map fun n : Nat => (n : Int)).map V.int := by rw [List.map_map]; rfl
section
variable {P : Program} {w : World} {K : PySem.W.Frag} {mg : Str -> Option Value} {base : Heap}
def spWithLen : Sp := fun vs H Q _ => ∃ (r : Addr) (xs : List V), vs = [.ref r] /\ H r = some (.lst xs) /\ xs.length <= 1000 /\ ∀ (H' : Hp) (p : Addr), Same H H' -> H' p = some (.lst (.int (xs.length : Int) :: xs)) -> Q (.ref p) H'
theorem ok_with_length {f : Addr} {fd : FuncData} (F : Fun K "with_length" "with_length" Qt f fd) (T : Txt K mg) : FnOk P w K mg base CX0 1 f fd ["row"] spWithLen := by
 refine F.ok sc_with_length (fun vs H Q E h => ?_) (fun cdv A outer s H vs Q E hr h => ?_)
 . obtain ⟨_, _, rfl, _⟩ := h
   rfl
 obtain ⟨r, xs, rfl, hr', hl, k⟩ := h
 refine ⟨_, (Zc (Zg (Xh op_cat (Zx (pa1 (Zv (Yl K) rfl T.nlen PySem.boot_len (pa1 (pv 0))))) (pv 0)))), ?_⟩
 refine ⟨_, rfl, r, _, rfl, .inl (SqL.of hr'), le1, fun p1 hp1 => ⟨_, rfl, p1, r, _, _, rfl, rfl, Zb, Same.new hp1 _ _ hr', ?_, fun p2 hp2 => ?_⟩⟩
 . have : sizeLine = 16777216 := sizeLine_eq
   simp; omega
 . exact k _ p2 ((Same.new hp1).trans (Same.new hp2)) Zb
def spCounted : Sp := fun vs H Q _ => ∃ (r : Addr) (xs : List V), vs = [.ref r] /\ H r = some (.lst xs) /\ xs.length <= 1000 /\ ∀ (H' : Hp) (p : Addr), Same H H' -> H p = none -> H' p = some (.lst (.int (xs.length : Int) :: .int (xs.length : Int) :: xs)) -> Q (.ref p) H'
theorem ok_counted {f : Addr} {fd : FuncData} (F : Fun K "counted" "counted" s_counted f fd) (T : Txt K mg) (Dwith_length : Def P w K mg base "with_length" 1 ["row"] spWithLen) : FnOk P w K mg base CX0 2 f fd ["row"] spCounted := by
 refine F.ok sc_counted (fun vs H Q E h => ?_) (fun cdv A outer s H vs Q E hr h => ?_)
 . obtain ⟨_, _, rfl, _⟩ := h
   rfl
 obtain ⟨D, xs, rfl, hD, hl, k⟩ := h
 refine ⟨_, (Zc (Zg (Xh op_cat (Zx (pa1 (Zv (Yl K) rfl T.nlen PySem.boot_len (pa1 (pv 0))))) (Zk Dwith_length hr.m (pa1 (pv 0)))))), ?_⟩
 refine ⟨_, rfl, D, _, rfl, .inl (SqL.of hD), le1, fun p1 hp1 => ?_⟩
 have s4 := Same.new (o := .lst [.int (xs.length : Int)]) hp1
 refine ⟨_, rfl, D, _, rfl, s4 _ _ hD, by omega, fun H5 p2 s5 hp2 => ?_⟩
 refine ⟨p1, p2, _, _, rfl, rfl, s5 _ _ Zb, hp2, ?_, fun p3 hp3 => ?_⟩
 . have : sizeLine = 16777216 := sizeLine_eq
   simp; omega
 . exact k _ p3 ((s4.trans s5).trans (Same.new hp3)) ((s4.trans s5).free hp3) Zb
def spOn (CG : Addr) (c : Nat -> Nat -> Ways.Call) : Sp := fun vs H Q _ => ∃ (ga m t : Addr) (as : List Addr) (g g' : Graph) (a b : Nat) (z : Int), vs = [.ref ga, nv a, nv b] /\ WF g /\ Own CG H ga m t as g /\ Ways.step (some g) (c a b) = (some g', Ways.says z) /\
 ∀ (H' : Hp) (p : Addr) (as' : List Addr), (∀ b o, H b = some o -> b ≠ m -> b ≠ t -> H' b = some o) -> (∀ b ∈ as', b ∈ as \/ H b = none) -> Own CG H' ga m t as' g' -> H p = none -> AL H' p [z] -> Q (.ref p) H'
theorem own_free {CG : Addr} {H H2 : Hp} {ga m t : Addr} {as : List Addr} {g : Graph} {p : Addr} (own : Own CG H2 ga m t as g) (k : ∀ b o, H b = some o -> b ≠ t -> H2 b = some o) (hp : H2 p = none) : H p = none := by
 cases q : H p with
 | none => rfl
 | some o =>
   by_cases e : p = t
   . subst e
     obtain ⟨_, _, _, h3, _⟩ := own.ex
     rw [h3] at hp; cases hp
   . rw [k p o q e] at hp; cases hp
theorem setM_free {H : Hp} {m p : Addr} {xs : List V} {o : HO} (hm : H m = some (.lst xs)) (hp : upd H m o p = none) : H p = none := by
 by_cases e : p = m
 . subst e
   rw [Zb] at hp; cases hp
 . rw [Zl e] at hp; exact hp
theorem edge_step {g : Graph} {a b : Nat} : Ways.step (some g) (.edge a b) = if g.size <= a \/ g.size <= b then (some g, Ways.says (-4)) else if (g.next.getD a []).contains b = true then (some g, Ways.says (-3)) else (some ⟨g.marks, g.next.set a (Ways.rising (b :: g.next.getD a []) g.size)⟩, Ways.says 0) := by
 show (if g.size <= a then _ else if g.size <= b then _ else _) = _
 by_cases q : g.size <= a
 . rw [if_pos q, if_pos (.inl q)]
 . by_cases q2 : g.size <= b
   . rw [if_neg q, if_pos q2, if_pos (.inr q2)]
   . rw [if_neg q, if_neg q2, if_neg (by rintro (z | z) <;> omega)]
theorem cut_step {g : Graph} {a b : Nat} : Ways.step (some g) (.cut a b) = if g.size <= a \/ g.size <= b then (some g, Ways.says (-4)) else if (g.next.getD a []).contains b = false then (some g, Ways.says (-3)) else (some ⟨g.marks, g.next.set a ((g.next.getD a []).filter fun t => t != b)⟩, Ways.says 0) := by
 show (if g.size <= a then _ else if g.size <= b then _ else _) = _
 by_cases q : g.size <= a
 . rw [if_pos q, if_pos (.inl q)]
 . by_cases q2 : g.size <= b
   . rw [if_neg q, if_pos q2, if_pos (.inr q2)]
   . rw [if_neg q, if_neg q2, if_neg (by rintro (z | z) <;> omega)]
theorem mark_step {g : Graph} {a b : Nat} : Ways.step (some g) (.mark a b) = if g.size <= a then (some g, Ways.says (-4)) else if 256 <= b then (some g, Ways.says (-1)) else (some ⟨g.marks.set a b, g.next⟩, Ways.says ((g.mark a : Nat) : Int)) := rfl
theorem Xy {s s' : Ways.State} {z z' : Int} (h : (s, Ways.says z) = (s', Ways.says z')) : s = s' /\ z = z' := by
 injection h with h1 h2
 injection h2 with h3 h4
 exact ⟨h1, h3⟩
theorem ok_answer_edge {f CG : Addr} {fd : FuncData} (F : Fun K "answer_edge" "answer_edge" Qx f fd) (T : Txt K mg) (Dhas_states : Def P w K mg base "has_states" 2 ["graph", "s", "t"] (Qc CG)) (Dhas_edge : Def P w K mg base "has_edge" 1 ["graph", "s", "t"] (spHasEdge CG)) (Dadd_edge : Def P w K mg base "add_edge" 1 ["graph", "s", "t"] (spAddEdge CG)) :
   FnOk P w K mg base CX0 3 f fd ["graph", "s", "t"] (spOn CG .edge) := by
 refine F.ok sc_answer_edge (fun vs H Q E h => ?_) (fun cdv A outer s H vs Q E hr h => ?_)
 . obtain ⟨_, _, _, _, _, _, _, _, _, rfl, _⟩ := h
   rfl
 obtain ⟨ga, m, t, as, g, g', a, b, z, rfl, wf, own, hst, k⟩ := h
 refine ⟨_, (Za (Yf (Vl (Yw (Zk Dhas_states hr.m (pa3 (pv 0) (pv 1) (pv 2))))) (Zc (Zg (Zx (pa1 (Zy T.gNO_STATE))))) Zo)
   (Za (Yf (Yw (Zk Dhas_edge hr.m (pa3 (pv 0) (pv 1) (pv 2)))) (Zc (Zg (Zx (pa1 (Zy T.gUNFIT))))) Zo)
   (Za (Yt (Zk Dadd_edge hr.m (pa3 (pv 0) (pv 1) (pv 2))))
   (Zc (Zg (Zx (pa1 Zj))))))), ?_⟩
 rw [edge_step] at hst
 have hnl := wf.len
 have refuse : ∀ x : Int, g' = g -> z = x -> ∀ p, H p = none -> Q (.ref p) (upd H p (.lst [.int x])) := fun x e1 e2 p hp => by
   subst e1; subst e2
   exact k _ p as (fun b o hb _ _ => Same.new hp _ _ hb) (fun b hb => .inl hb) (own.same (Same.new hp)) hp Zb
 refine ⟨_, rfl, _, rfl, _, rfl, ga, g, a, b, rfl, own.at_, _, rfl, ?_⟩
 by_cases q : a < g.size /\ b < g.size
 . obtain ⟨q1, q2⟩ := q
   . rw [if_neg (by rintro (z | z) <;> omega)] at hst
     refine ifF (by rw [decide_eq_true (And.intro q1 q2)]; rfl) ⟨_, rfl, _, rfl, _, rfl, ga, g, a, b, rfl, own.at_, by omega, _, rfl, ?_⟩
     by_cases q3 : b ∈ g.next.getD a []
     . rw [if_pos (by simpa using q3)] at hst
       obtain ⟨e1, e2⟩ := Xy hst
       exact ifT (decide_eq_true q3) ⟨le1, refuse (-3) (Option.some.inj e1).symm e2.symm⟩
     . rw [if_neg (by simpa using q3)] at hst
       obtain ⟨e1, e2⟩ := Xy hst
       have e1 := Option.some.inj e1
       subst e1; subst e2
       refine ifF (decide_eq_false q3) ⟨_, rfl, _, rfl, _, rfl, ga, m, t, as, g, a, b, rfl, wf, own, q1, q2, q3, fun H2 px npx k2 own2 => ⟨le1, fun p hp => ?_⟩⟩
       exact k _ p (as.set a px) (fun b o hb _ nt => Same.new hp _ _ (k2 b o hb nt)) (fun b' hb' => (List.mem_or_eq_of_mem_set hb').imp id fun z => by rw [z]; exact npx) (own2.same (Same.new hp)) (own_free own2 k2 hp) Zb
 . rw [if_pos (by omega)] at hst
   obtain ⟨e1, e2⟩ := Xy hst
   exact ifT (by rw [decide_eq_false q]; rfl) ⟨le1, refuse (-4) (Option.some.inj e1).symm e2.symm⟩
theorem ok_answer_cut {f CG : Addr} {fd : FuncData} (F : Fun K "answer_cut" "answer_cut" s_answer_cut f fd) (T : Txt K mg) (Dhas_states : Def P w K mg base "has_states" 2 ["graph", "s", "t"] (Qc CG)) (Dhas_edge : Def P w K mg base "has_edge" 1 ["graph", "s", "t"] (spHasEdge CG)) (Dcut_edge : Def P w K mg base "cut_edge" 1 ["graph", "s", "t"] (spCutEdge CG)) :
   FnOk P w K mg base CX0 3 f fd ["graph", "s", "t"] (spOn CG .cut) := by
 refine F.ok sc_answer_cut (fun vs H Q E h => ?_) (fun cdv A outer s H vs Q E hr h => ?_)
 . obtain ⟨_, _, _, _, _, _, _, _, _, rfl, _⟩ := h
   rfl
 obtain ⟨ga, m, t, as, g, g', a, b, z, rfl, wf, own, hst, k⟩ := h
 refine ⟨_, (Za (Yf (Vl (Yw (Zk Dhas_states hr.m (pa3 (pv 0) (pv 1) (pv 2))))) (Zc (Zg (Zx (pa1 (Zy T.gNO_STATE))))) Zo)
   (Za (Yf (Vl (Yw (Zk Dhas_edge hr.m (pa3 (pv 0) (pv 1) (pv 2))))) (Zc (Zg (Zx (pa1 (Zy T.gUNFIT))))) Zo)
   (Za (Yt (Zk Dcut_edge hr.m (pa3 (pv 0) (pv 1) (pv 2))))
   (Zc (Zg (Zx (pa1 Zj))))))), ?_⟩
 rw [cut_step] at hst
 have hnl := wf.len
 have refuse : ∀ x : Int, g' = g -> z = x -> ∀ p, H p = none -> Q (.ref p) (upd H p (.lst [.int x])) := fun x e1 e2 p hp => by
   subst e1; subst e2
   exact k _ p as (fun b o hb _ _ => Same.new hp _ _ hb) (fun b hb => .inl hb) (own.same (Same.new hp)) hp Zb
 refine ⟨_, rfl, _, rfl, _, rfl, ga, g, a, b, rfl, own.at_, _, rfl, ?_⟩
 by_cases q : a < g.size /\ b < g.size
 . obtain ⟨q1, q2⟩ := q
   . rw [if_neg (by rintro (z | z) <;> omega)] at hst
     refine ifF (by rw [decide_eq_true (And.intro q1 q2)]; rfl) ⟨_, rfl, _, rfl, _, rfl, ga, g, a, b, rfl, own.at_, by omega, _, rfl, ?_⟩
     by_cases q3 : b ∈ g.next.getD a []
     . rw [if_neg (by simpa using q3)] at hst
       obtain ⟨e1, e2⟩ := Xy hst
       have e1 := Option.some.inj e1
       subst e1; subst e2
       refine ifF (by rw [decide_eq_true q3]; rfl) ⟨_, rfl, _, rfl, _, rfl, ga, m, t, as, g, a, b, rfl, wf, own, q1, fun H2 px npx k2 own2 => ⟨le1, fun p hp => ?_⟩⟩
       exact k _ p (as.set a px) (fun b o hb _ nt => Same.new hp _ _ (k2 b o hb nt)) (fun b' hb' => (List.mem_or_eq_of_mem_set hb').imp id fun z => by rw [z]; exact npx) (own2.same (Same.new hp)) (own_free own2 k2 hp) Zb
     . rw [if_pos (by simpa using q3)] at hst
       obtain ⟨e1, e2⟩ := Xy hst
       exact ifT (by rw [decide_eq_false q3]; rfl) ⟨le1, refuse (-3) (Option.some.inj e1).symm e2.symm⟩
 . rw [if_pos (by omega)] at hst
   obtain ⟨e1, e2⟩ := Xy hst
   exact ifT (by rw [decide_eq_false q]; rfl) ⟨le1, refuse (-4) (Option.some.inj e1).symm e2.symm⟩
theorem ok_answer_mark {f CG : Addr} {fd : FuncData} (F : Fun K "answer_mark" "answer_mark" Qw f fd) (T : Txt K mg) (TG : TxG K mg CG) (Dhas_state : Def P w K mg base "has_state" 1 ["graph", "s"] (Ug CG)) (Dare_marks : Def P w K mg base "are_marks" 1 ["number"] spAreMarks) :
   FnOk P w K mg base CX0 2 f fd ["graph", "s", "marks"] (spOn CG .mark) := by
 refine F.ok sc_answer_mark (fun vs H Q E h => ?_) (fun cdv A outer s H vs Q E hr h => ?_)
 . obtain ⟨_, _, _, _, _, _, _, _, _, rfl, _⟩ := h
   rfl
 obtain ⟨ga, m, t, as, g, g', a, b, z, rfl, wf, own, hst, k⟩ := h
 refine ⟨_, (Za (Yf (Vl (Yw (Zk Dhas_state hr.m (pa2 (pv 0) (pv 1))))) (Zc (Zg (Zx (pa1 (Zy T.gNO_STATE))))) Zo)
   (Za (Yf (Vl (Yw (Zk Dare_marks hr.m (pa1 (pv 2))))) (Zc (Zg (Zx (pa1 (Zy T.gWRONG))))) Zo)
   (Za (Zr (i := 3) sc_answer_mark.nd rfl (.inl rfl) (Zm (Zd K) (Ye K (pv 0)) (pv 1) (fun _ _ => rfl)))
   (Za (ps_asg (pv 2) (pg_sub (Ye K (pv 0)) (pv 1) set_list))
   (Zc (Zg (Zx (pa1 (pv 3))))))))), ?_⟩
 rw [mark_step] at hst
 have refuse : ∀ x : Int, g' = g -> z = x -> ∀ p, H p = none -> Q (.ref p) (upd H p (.lst [.int x])) := fun x e1 e2 p hp => by
   subst e1; subst e2
   exact k _ p as (fun b o hb _ _ => Same.new hp _ _ hb) (fun b hb => .inl hb) (own.same (Same.new hp)) hp Zb
 refine ⟨_, rfl, _, rfl, ga, g, a, rfl, own.at_, _, rfl, ?_⟩
 by_cases q1 : a < g.size
 . rw [if_neg (by omega)] at hst
   refine ifF (by rw [decide_eq_true q1]; rfl) ⟨_, rfl, b, rfl, _, rfl, ?_⟩
   by_cases q2 : b < 256
   . rw [if_neg (by omega)] at hst
     obtain ⟨e1, e2⟩ := Xy hst
     have e1 := Option.some.inj e1
     subst e1; subst e2
     obtain ⟨dg, hg, hm, ht, hal, has⟩ := id own.ex
     obtain ⟨x, hx⟩ : ∃ x, g.marks[a]? = some x := ⟨_, List.getElem?_eq_getElem q1⟩
     have ex : g.mark a = x := by unfold Graph.mark; rw [List.getD_eq_getElem?_getD, hx]; rfl
     refine ifF (by rw [decide_eq_true q2]; rfl) ⟨_, rfl, ga, CG, dg, _, _, rfl, hg, TG.cl, TG.nM, Xc _ _, _, rfl, m, _, _, _, rfl, rfl, SqL.of hm, Zs (Zh hx), ?_⟩
     refine ⟨_, rfl, _, rfl, ga, CG, dg, _, _, rfl, hg, TG.cl, TG.nM, Xc _ _, _, rfl, m, _, _, a, rfl, rfl, hm, ix_nat (by rw [List.length_map]; exact q1), ?_⟩
     refine ⟨_, rfl, le1, fun p hp => ?_⟩
     rw [ex] at k
     refine k _ p as (fun b' o hb' nm nt => Same.new hp _ _ (by rw [Zl nm]; exact hb')) (fun b hb => .inl hb) (own.setM.same (Same.new hp)) (setM_free hm hp) Zb
   . rw [if_pos (by omega)] at hst
     obtain ⟨e1, e2⟩ := Xy hst
     exact ifT (by rw [decide_eq_false q2]; rfl) ⟨le1, refuse (-1) (Option.some.inj e1).symm e2.symm⟩
 . rw [if_pos (by omega)] at hst
   obtain ⟨e1, e2⟩ := Xy hst
   exact ifT (by rw [decide_eq_false q1]; rfl) ⟨le1, refuse (-4) (Option.some.inj e1).symm e2.symm⟩
def spHolds (CG : Addr) : Sp := fun vs H Q _ => ∃ (ga fa : Addr) (g : Graph) (l : List Nat), vs = [.ref ga, .ref fa] /\ WF g /\ GraphAt CG H ga g /\ NL H fa l /\
 ∀ (H' : Hp) (p : Addr), Same H H' -> H p = none -> AL H' p (sh (Ways.ofForm l fun x => Ways.lists (g.states (g.holds x)))) -> Q (.ref p) H'
theorem ofForm_none {l : List Nat} {f : Form -> Ways.Answer} (h : 64 < l.length \/ partsOf l = none) : Ways.ofForm l f = Ways.says (-1) := by
 unfold Ways.ofForm
 by_cases q : Ways.LONG < l.length
 . rw [if_pos q]
 . rw [if_neg q]
   rcases h with h | h
   . exact absurd h q
   . have z := WM.partsOf_form l
     cases e : Ways.formOf l with
     | none => rfl
     | some x =>
       rw [e] at z
       obtain ⟨R, e2, _⟩ := z
       rw [h] at e2; cases e2
theorem ofForm_some {l : List Nat} {f : Form -> Ways.Answer} {R : List (Nat × Nat)} (h64 : l.length <= 64) (h : partsOf l = some R) : ∃ x, WM.Vx R x /\ Ways.ofForm l f = f x := by
 unfold Ways.ofForm
 rw [if_neg (show ¬ Ways.LONG < l.length from Nat.not_lt.mpr h64)]
 have z := WM.partsOf_form l
 cases e : Ways.formOf l with
 | none => rw [e] at z; rw [h] at z; cases z
 | some x =>
   rw [e] at z
   obtain ⟨R', e2, t⟩ := z
   rw [h] at e2
   cases e2
   exact ⟨x, t, rfl⟩
theorem states_len (g : Graph) (a : Ways.Set) : (g.states a).length <= g.size := by
 unfold Graph.states
 have := List.length_filter_le (Ways.has a) g.all
 unfold Graph.all at this
 rw [List.length_range] at this
 exact this
theorem ok_answer_holds {f CG : Addr} {fd : FuncData} (F : Fun K "answer_holds" "answer_holds" Ut f fd) (T : Txt K mg) (Dparts_of : Def P w K mg base "parts_of" 2 ["numbers"] spPartsOf) (Dwhere_each_holds : Def P w K mg base "where_each_holds" 6 ["graph", "parts"] (spEach CG)) (Dcounted : Def P w K mg base "counted" 2 ["row"] spCounted) :
   FnOk P w K mg base CX0 7 f fd ["graph", "formula"] (spHolds CG) := by
 refine F.ok sc_answer_holds (fun vs H Q E h => ?_) (fun cdv A outer s H vs Q E hr h => ?_)
 . obtain ⟨_, _, _, _, rfl, _⟩ := h
   rfl
 obtain ⟨ga, fa, g, l, rfl, wf, hG, hl, k⟩ := h
 refine ⟨_, (Za (Zr (i := 2) sc_answer_holds.nd rfl (.inl rfl) (Zk Dparts_of hr.m (pa1 (pv 1))))
   (Za (Yf (pt_cmp (pc_isN (pv 2))) (Zc (Zg (Zx (pa1 (Zy T.gWRONG))))) Zo)
   (Za (Zr (i := 3) sc_answer_holds.nd rfl (.inl rfl) (Zm (Zd K) (Zk Dwhere_each_holds hr.m (pa2 (pv 0) (pv 2))) Zj (fun _ _ => rfl)))
   (Zc (Zg (Zk Dcounted hr.m (pa1 (Yu rfl sc_answer_holds.nd (pi_enumK K rfl T.nenumerate (pa1 (pv 3))) (own := [("s", 4), ("here", 5)]) (Ya (by rfl)) (fun _ _ _ _ _ => Qi K (n := 2) rfl (Ys (Zp (i := 4) sc_answer_holds.nd rfl (.inl rfl)) (Ys (Zp (i := 5) sc_answer_holds.nd rfl (.inl rfl)) Qh))) (fun _ _ _ _ _ => pts_one (Yw (pv 5))) (fun _ _ _ _ _ => (pv 4)))))))))), ?_⟩
 have h12 := wf.le
 refine ⟨_, rfl, fa, l, rfl, hl, fun hN H1 s1 => ?_, fun R h64 hR r64 H1 pl s1 hP => ?_⟩
 . refine ⟨_, rfl, _, rfl, ifT (by decide) ⟨le1, fun p hp => ?_⟩⟩
   rw [ofForm_none hN] at k
   exact k _ p (s1.trans (Same.new hp)) (s1.free hp) Zb
 . obtain ⟨x, ht, ex⟩ := ofForm_some (f := fun x => Ways.lists (g.states (g.holds x))) h64 hR
   rw [ex, sh_lists] at k
   refine ⟨_, rfl, _, rfl, ifF (decide_eq_false (fun z => nomatch z)) ⟨_, rfl, _, rfl, ga, pl, g, R, 1, rfl, wf, hG.same s1, hP, r64, ht.ok, ht.fit 0, fun H2 bl s2 hbl => ?_⟩⟩
   rw [ht.run g []] at hbl
   obtain ⟨xs, hx, hxl, hxs⟩ := hbl
   obtain ⟨x0, hx0, hb0⟩ := BB.at_ (H := H2) (a := bl) hxl hxs (j := 0) (by simp)
   have hb0 : BL H2 x0 (g.holds x) := hb0
   have lh := WM.Yj g x
   refine ⟨bl, _, _, _, rfl, rfl, SqL.of hx, Yh (j := 0) rfl (Zh hx0), ?_⟩
   refine ⟨_, rfl, x0, _, rfl, SqL.of hb0, fun D hD => ?_⟩
   refine lcE (SqL.of hb0) hD (fun i acc _ => acc = ((List.range i).filter (Ways.has (g.holds x))).map nv) rfl ?_ ?_
   . intro i H3 acc y Tp hy s3 hd hl' hg hT
     obtain ⟨c, hc, rfl⟩ := Zz hy
     have hi := Zi hc
     have ec := WM.Qp hc
     refine ⟨Tp, _, rfl, SqT.of Zb, rfl, _, _, rfl, _, _, rfl, rfl, rfl, _, rfl, _, rfl, ?_⟩
     cases c with
     | true =>
       refine ifT rfl ⟨_, rfl, LcOk.push hD s3 hd hl' (Same.new hT) (Zn (m := 100) (by omega)) ?_⟩
       rw [hg, Yi, List.filter_append, List.map_append, List.filter_cons_of_pos ec]; rfl
     | false =>
       refine ifF rfl (LcOk.skip s3 hd hl' (Same.new hT) ?_)
       rw [hg, Yi, List.filter_append, List.filter_cons_of_neg (by rw [ec]; decide), List.filter_nil, List.append_nil]
   . intro H3 acc s3 hd hl' hg
     rw [List.length_map, lh] at hg
     have hst : NL H3 D (g.states (g.holds x)) := by
       show H3 D = _
       rw [hd, hg]; rfl
     have hsl := states_len g (g.holds x)
     have hnl : ((g.states (g.holds x)).map nv).length = (g.states (g.holds x)).length := List.length_map _
     refine ⟨D, _, rfl, hst, by omega, fun H5 p s5 np hp => ?_⟩
     refine k H5 p (((s1.trans s2).trans s3).trans s5) (((s1.trans s2).trans s3).free np) ?_
     show H5 p = _
     rw [hp, hnl, Vn]; rfl
def spShows (CG : Addr) : Sp := fun vs H Q _ => ∃ (ga fa : Addr) (g : Graph) (a : Nat) (l : List Nat), vs = [.ref ga, nv a, .ref fa] /\ WF g /\ GraphAt CG H ga g /\ NL H fa l /\
 ∀ (H' : Hp) (p : Addr), Same H H' -> H p = none -> AL H' p (sh (Ways.step (some g) (.shows a l)).2) -> Q (.ref p) H'
theorem ok_answer_shows {f CG : Addr} {fd : FuncData} (F : Fun K "answer_shows" "answer_shows" Us f fd) (T : Txt K mg) (Dhas_state : Def P w K mg base "has_state" 1 ["graph", "s"] (Ug CG)) (Dparts_of : Def P w K mg base "parts_of" 2 ["numbers"] spPartsOf) (Dwhere_each_holds : Def P w K mg base "where_each_holds" 6 ["graph", "parts"] (spEach CG))
   (Dcan_be_shown : Def P w K mg base "can_be_shown" 1 ["parts"] spCan) (Dway_that_shows : Def P w K mg base "way_that_shows" 7 ["graph", "s", "parts"] (spWay CG)) (Dcounted : Def P w K mg base "counted" 2 ["row"] spCounted) :
   FnOk P w K mg base CX0 8 f fd ["graph", "s", "formula"] (spShows CG) := by
 refine F.ok sc_answer_shows (fun vs H Q E h => ?_) (fun cdv A outer s H vs Q E hr h => ?_)
 . obtain ⟨_, _, _, _, _, rfl, _⟩ := h
   rfl
 obtain ⟨ga, fa, g, a, l, rfl, wf, hG, hl, k⟩ := h
 refine ⟨_, (Za (Yf (Vl (Yw (Zk Dhas_state hr.m (pa2 (pv 0) (pv 1))))) (Zc (Zg (Zx (pa1 (Zy T.gNO_STATE))))) Zo)
   (Za (Zr (i := 3) sc_answer_shows.nd rfl (.inl rfl) (Zk Dparts_of hr.m (pa1 (pv 2))))
   (Za (Yf (pt_cmp (pc_isN (pv 3))) (Zc (Zg (Zx (pa1 (Zy T.gWRONG))))) Zo)
   (Za (Yf (Vl (Yw (Zm (Zd K) (Zm (Zd K) (Zk Dwhere_each_holds hr.m (pa2 (pv 0) (pv 3))) Zj (fun _ _ => rfl)) (pv 1) (fun _ _ => rfl)))) (Zc (Zg (Zx (pa1 (Zy T.gNOT_SO))))) Zo)
   (Za (Yf (Vl (Yw (Zk Dcan_be_shown hr.m (pa1 (pv 3))))) (Zc (Zg (Zx (pa1 (Zy T.gUNFIT))))) Zo)
   (Zc (Zg (Zk Dcounted hr.m (pa1 (Zk Dway_that_shows hr.m (pa3 (pv 0) (pv 1) (pv 3)))))))))))), ?_⟩
 have h12 := wf.le
 have est : (Ways.step (some g) (.shows a l)).2 = if g.size <= a then Ways.says (-4) else Ways.ofForm l fun x => if Ways.has (g.holds x) a = false then Ways.says (-5) else match g.shows a x with | none => Ways.says (-3) | some l => Ways.lists l := by
   show (if g.size <= a then _ else _ : Ways.State × Ways.Answer).2 = _
   by_cases q : g.size <= a
   . rw [if_pos q, if_pos q]
   . rw [if_neg q, if_neg q]; rfl
 rw [est] at k
 have out : ∀ (H1 : Hp) (x : Int), Same H H1 -> (∀ (H' : Hp) (p : Addr), Same H H' -> H p = none -> AL H' p (sh (Ways.says x)) -> Q (.ref p) H') -> ∀ p, H1 p = none -> Q (.ref p) (upd H1 p (.lst [.int x])) := fun H1 x s1 kk p hp => kk _ p (s1.trans (Same.new hp)) (s1.free hp) Zb
 refine ⟨_, rfl, _, rfl, ga, g, a, rfl, hG, _, rfl, ?_⟩
 by_cases q1 : a < g.size
 . rw [if_neg (by omega)] at k
   refine ifF (by rw [decide_eq_true q1]; rfl) ⟨_, rfl, fa, l, rfl, hl, fun hN H1 s1 => ?_, fun R h64 hR r64 H1 pl s1 hP => ?_⟩
   . rw [ofForm_none hN] at k
     exact ⟨_, rfl, _, rfl, ifT (by decide) ⟨le1, out H1 (-1) s1 k⟩⟩
   . obtain ⟨x, ht, ex⟩ := ofForm_some (f := fun x => if Ways.has (g.holds x) a = false then Ways.says (-5) else match g.shows a x with | none => Ways.says (-3) | some l => Ways.lists l) h64 hR
     rw [ex] at k
     refine ⟨_, rfl, _, rfl, ifF (decide_eq_false (fun z => nomatch z)) ⟨_, rfl, _, rfl, ga, pl, g, R, 1, rfl, wf, hG.same s1, hP, r64, ht.ok, ht.fit 0, fun H2 bl s2 hbl => ?_⟩⟩
     rw [ht.run g []] at hbl
     obtain ⟨xs, hx, hxl, hxs⟩ := hbl
     obtain ⟨x0, hx0, hb0⟩ := BB.at_ (H := H2) (a := bl) hxl hxs (j := 0) (by simp)
     have hb0 : BL H2 x0 (g.holds x) := hb0
     have lh := WM.Yj g x
     refine ⟨bl, _, _, _, rfl, rfl, SqL.of hx, Yh (j := 0) rfl (Zh hx0), _, rfl, x0, _, _, _, rfl, rfl, SqL.of hb0, Zs (Zh (WM.Yz (by omega))), _, rfl, ?_⟩
     cases qh : Ways.has (g.holds x) a with
     | false =>
       rw [if_pos qh] at k
       exact ifT rfl ⟨le1, out H2 (-5) (s1.trans s2) k⟩
     | true =>
       rw [if_neg (by rw [qh]; decide)] at k
       obtain ⟨kk, mm, R', eR, hd⟩ := id ht.head
       have hP2 := hP.same s2
       rw [eR] at hP2
       refine ifF rfl ⟨_, rfl, pl, kk, mm, R', rfl, hP2, fun H3 s3 => ⟨_, rfl, ?_⟩⟩
       cases qs : g.shows a x with
       | none =>
         rw [qs] at k
         have kn : kk ∉ [5, 7, 9, 11] := by
           rcases hd with ⟨e, f', ef, hb⟩ | ⟨e, f', ef⟩ | ⟨e, f', ef, hb⟩ | ⟨e, f', h', ef, hb⟩ | ⟨z1, z2, z3, z4, _⟩
           . exfalso
             subst ef
             have qs : (match (g.on a).find? (Ways.has (g.holds f')) with | some t => some [a, t] | none => none) = none := qs
             have qh : Ways.has (g.setBy (g.someNext (g.holds f'))) a = true := qh
             rw [WM.Zu q1] at qh
             have qh : (g.on a).any (Ways.has (g.holds f')) = true := qh
             obtain ⟨t, ht1, ht2⟩ := List.any_eq_true.mp qh
             cases hfd : (g.on a).find? (Ways.has (g.holds f')) with
             | none => exact absurd ht2 (List.find?_eq_none.mp hfd t ht1)
             | some t1 => rw [hfd] at qs; cases qs
           . exfalso
             subst ef
             have qh' : Ways.has (g.keep (g.holds f') g.size) a = true := qh
             have qs : (if Ways.has (g.keep (g.holds f') g.size) a = true then some (g.round (g.keep (g.holds f') g.size) (g.size + 1) [] a) else none) = none := qs
             rw [if_pos qh'] at qs; cases qs
           . exfalso
             subst ef
             obtain ⟨n, hn⟩ := WM.far_of_gain (g := g) (a := g.holds .yes) (b := g.holds f') qh
             have qs : (match g.far (g.holds .yes) (g.holds f') a with | some n => some (g.wayTo (g.holds .yes) (g.holds f') n a) | none => none) = none := qs
             rw [hn] at qs; cases qs
           . exfalso
             subst ef
             obtain ⟨n, hn⟩ := WM.far_of_gain (g := g) (a := g.holds f') (b := g.holds h') qh
             have qs : (match g.far (g.holds f') (g.holds h') a with | some n => some (g.wayTo (g.holds f') (g.holds h') n a) | none => none) = none := qs
             rw [hn] at qs; cases qs
           . simp; omega
         exact ifT (by rw [decide_eq_false kn]; rfl) ⟨le1, out H3 (-3) ((s1.trans s2).trans s3) k⟩
       | some wy =>
         rw [qs] at k
         have k : ∀ (H' : Hp) (p : Addr), Same H H' -> H p = none -> AL H' p (sh (Ways.lists wy)) -> Q (.ref p) H' := k
         rw [sh_lists] at k
         have kn : kk ∈ [5, 7, 9, 11] := by
           rcases hd with ⟨e, _⟩ | ⟨e, _⟩ | ⟨e, _⟩ | ⟨e, _⟩ | ⟨_, _, _, _, z⟩
           . subst e; decide
           . subst e; decide
           . subst e; decide
           . subst e; decide
           . rw [z g a] at qs; cases qs
         have s13 := (s1.trans s2).trans s3
         refine ifF (by rw [decide_eq_true kn]; rfl) ⟨_, rfl, _, rfl, _, rfl, ga, pl, a, g, R, x, wy, rfl, wf, hG.same s13, q1, (hP.same s2).same s3, r64, ht, qh, qs, fun H4 D s4 hD hwl => ?_⟩
         have hnl : (wy.map nv).length = wy.length := List.length_map _
         refine ⟨D, _, rfl, hD, by omega, fun H5 p s5 np hp => ?_⟩
         refine k H5 p ((s13.trans s4).trans s5) ((s13.trans s4).free np) ?_
         show H5 p = _
         rw [hp, hnl, Vn]; rfl
 . rw [if_pos (by omega)] at k
   exact ifT (by rw [decide_eq_false q1]; rfl) ⟨le1, out H (-4) (Same.refl _) k⟩
end
def dN (xs : List Nat) : PyData := .list (xs.map fun n : Nat => PyData.int (n : Int))
theorem dp_nats {K : PySem.W.Frag} {H : Hp} : ∀ xs : List Nat, DpAll K H (xs.map nv) (xs.map fun n : Nat => PyData.int (n : Int))
 | [] => .nil
 | n :: xs => .cons (.int _) (dp_nats xs)
theorem lay_nats : ∀ xs : List Nat, PyData.canLayAll0 (xs.map fun n : Nat => PyData.int (n : Int)) = true
 | [] => by simp [PyData.canLayAll0]
 | n :: xs => by
   have := lay_nats xs
   simp only [List.map_cons, PyData.canLayAll0, PyData.canLay0, this, Bool.and_self]
theorem deep_nats : ∀ xs : List Nat, PyData.depthAll (xs.map fun n : Nat => PyData.int (n : Int)) = 0
 | [] => by simp [PyData.depthAll]
 | n :: xs => by
   have := deep_nats xs
   simp only [List.map_cons, PyData.depthAll, PyData.depth, this, Nat.max_self]
theorem Qe (xs : List Nat) : SeqAt.shaped (dN xs) = true := by
 unfold SeqAt.shaped dN
 simp [PyData.canLay0, PyData.depth, lay_nats, deep_nats]
theorem eqv_nats : ∀ (as bs : List Nat), PyData.eqvAll (as.map fun n : Nat => PyData.int (n : Int)) (bs.map fun n : Nat => PyData.int (n : Int)) = decide (as = bs)
 | [], [] => by simp [PyData.eqvAll]
 | [], b :: bs => by simp [PyData.eqvAll]
 | a :: as, [] => by simp [PyData.eqvAll]
 | a :: as, b :: bs => by
   have := eqv_nats as bs
   simp only [List.map_cons, PyData.eqvAll, PyData.eqv, this]
   by_cases h : a = b
   . subst h; simp
   . have h' : ((a : Int) == (b : Int)) = false := by
       rw [beq_eq_false_iff_ne]; omega
     rw [h', Bool.false_and]
     exact (decide_eq_false fun z => h (List.cons.inj z).1).symm
theorem eqv_dN (as bs : List Nat) : PyData.eqv (dN as) (dN bs) = decide (as = bs) := by
 unfold dN
 simp only [PyData.eqv]
 exact eqv_nats as bs
theorem dp_N {K : PySem.W.Frag} {H : Hp} {a : Addr} {xs : List Nat} (h : NL H a xs) : Dp K H (.ref a) (dN xs) := .lst (SqL.of h) (dp_nats xs)
theorem ne_nats {K : PySem.W.Frag} {H : Hp} {p q : Addr} {as bs : List Nat} {Q : VK} (h1 : NL H p as) (h2 : NL H q bs) (h : Q (.bl (!decide (as = bs))) H) : rNeD K (.ref p) (.ref q) H Q :=
 ⟨dN as, dN bs, dp_N h1, dp_N h2, Qe _, Qe _, by rw [eqv_dN]; exact h⟩
theorem dp_lists {K : PySem.W.Frag} {H : Hp} : ∀ {as : List Addr} {xss : List (List Nat)}, as.length = xss.length -> (∀ (j : Nat) (b : Addr), as[j]? = some b -> ∃ xs, xss[j]? = some xs /\ NL H b xs) -> DpAll K H (as.map V.ref) (xss.map dN)
 | [], [], _, _ => .nil
 | [], _ :: _, h, _ => by cases h
 | _ :: _, [], h, _ => by cases h
 | a :: as, xs :: xss, h, k => by
   obtain ⟨ys, e, hy⟩ := k 0 a rfl
   cases e
   exact .cons (dp_N hy) (dp_lists (Nat.succ.inj h) fun j b hb => k (j + 1) b hb)
theorem Qo {α : Type} [BEq α] [LawfulBEq α] : ∀ {l : List α} {x y : α} {j : Nat}, j < l.idxOf x -> l[j]? = some y -> y ≠ x
 | [], x, y, j, h, _ => by simp at h
 | a :: l, x, y, j, h, hy => by
   rw [List.idxOf_cons] at h
   by_cases q : a = x
   . subst q
     simp at h
   . have q' : (a == x) = false := by simpa using q
     rw [q'] at h
     cases j with
     | zero =>
       have e : a = y := by simpa using hy
       subst e; exact q
     | succ j =>
       have h2 : j + 1 < l.idxOf x + 1 := h
       have h3 : j < l.idxOf x := Nat.lt_of_succ_lt_succ h2
       exact Qo h3 (by simpa using hy)
def GoodLL (f : Nat -> List Nat) (D : Addr) (i : Nat) (acc : List V) (H' : Hp) : Prop := ∃ bs : List Addr, acc = bs.map V.ref /\ bs.length = i /\ ∀ (j : Nat) (b : Addr), bs[j]? = some b -> NL H' b (f j) /\ b ≠ D
theorem snoc_get {α : Type} {bs : List α} {c b : α} {j : Nat} (h : (bs ++ [c])[j]? = some b) : bs[j]? = some b \/ (j = bs.length /\ b = c) := by
 by_cases q : j < bs.length
 . rw [List.getElem?_append_left q] at h; exact .inl h
 . rw [List.getElem?_append_right (by omega)] at h
   have e0 : j - bs.length = 0 := by
     have := Zi h
     simp at this
     omega
   rw [e0] at h
   have e1 : c = b := by simpa using h
   exact .inr ⟨by omega, e1.symm⟩
theorem GoodLL.push {f : Nat -> List Nat} {D : Addr} {i : Nat} {bs : List Addr} {H2 H4 : Hp} {c : Addr} {o : HO} (hbl : bs.length = i) (hbs : ∀ (j : Nat) (b : Addr), bs[j]? = some b -> NL H2 b (f j) /\ b ≠ D) (s4 : Same H2 H4) (hc : NL H4 c (f i)) (cD : c ≠ D) : GoodLL f D (i + 1) (bs.map V.ref ++ [V.ref c]) (upd H4 D o) := by
 refine ⟨bs ++ [c], by rw [List.map_append]; rfl, by rw [List.length_append, hbl]; rfl, fun j b' hb' => ?_⟩
 rcases snoc_get hb' with q | ⟨e1, e2⟩
 . obtain ⟨h1, h2⟩ := hbs j b' q
   exact ⟨by show upd H4 D _ b' = _; rw [Zl h2]; exact h1.same s4, h2⟩
 . subst e2
   rw [e1, hbl]
   exact ⟨by show upd H4 D _ b' = _; rw [Zl cD]; exact hc, cD⟩
theorem GoodLL.ll {f : Nat -> List Nat} {D : Addr} {i : Nat} {acc : List V} {H' : Hp} (h : GoodLL f D i acc H') (hd : H' D = some (.lst acc)) : LL H' D ((List.range i).map f) := by
 obtain ⟨bs, rfl, hbl, hbs⟩ := h
 refine ⟨bs, hd, by rw [List.length_map, List.length_range]; exact hbl, fun j b hb => ⟨f j, ?_, (hbs j b hb).1⟩⟩
 have := Zi hb
 rw [List.getElem?_map, List.getElem?_range (by omega)]; rfl
theorem last_of {α : Type} {l : List α} {i : Nat} {x : α} (h : l[i]? = some x) (hl : l.length = i + 1) : ∃ l', l = l' ++ [x] := ⟨l.take i, by
 have e := Yc h
 rw [List.take_of_length_le (by omega)] at e
 exact e⟩
theorem ne_free {H : Hp} {a D : Addr} {o : HO} (h : H a = some o) (hD : H D = none) : a ≠ D := Yb h hD
theorem cast_mem {l : List Nat} {x : Int} : x ∈ (l.map fun n : Nat => (n : Int)) ↔ ∃ n ∈ l, (n : Int) = x := List.mem_map
theorem sorted_met {zs : List Nat} {ns : List Int} {n : Nat} (hl : ∀ x ∈ zs, x < n) (hp : ns.Perm (met (zs.map fun n : Nat => (n : Int)))) (ho : ns.Pairwise (· <= ·)) : ns = (Ways.rising zs n).map fun n : Nat => (n : Int) := by
 have hmem : ∀ x, x ∈ ns ↔ ∃ m ∈ zs, (m : Int) = x := fun x => by rw [hp.mem_iff, met_mem, cast_mem]
 have e : ns = (ns.map Int.toNat).map fun n : Nat => (n : Int) := by
   rw [List.map_map]
   have : ∀ x ∈ ns, x = ((fun n : Nat => (n : Int)) ∘ Int.toNat) x := fun x hx => by
     obtain ⟨m, _, e⟩ := (hmem x).mp hx
     rw [<- e]; rfl
   exact (List.map_id' ns).symm.trans (List.map_congr_left this)
 have hnd : ns.Nodup := hp.symm.nodup (met_nodup _)
 have e2 : ns.map Int.toNat = Ways.rising zs n := by
   refine WM.sorted_once hl (fun x => ?_) ?_ ?_
   . rw [List.mem_map]
     constructor
     . rintro ⟨y, hy, rfl⟩
       obtain ⟨m, hm, e⟩ := (hmem y).mp hy
       rw [<- e]; exact hm
     . intro hx
       exact ⟨(x : Int), (hmem _).mpr ⟨x, hx, rfl⟩, Int.toNat_natCast x⟩
   . have hnd2 : ((ns.map Int.toNat).map fun n : Nat => (n : Int)).Nodup := by rw [<- e]; exact hnd
     rw [List.Nodup, List.pairwise_map] at hnd2
     exact hnd2.imp fun h z => h (by rw [z])
   . rw [List.pairwise_map]
     exact ho.imp fun h => Int.toNat_le_toNat h
 rw [e, e2]
theorem met_count {zs : List Nat} {n : Nat} (hl : ∀ x ∈ zs, x < n) : (met (zs.map fun n : Nat => (n : Int))).length = (Ways.rising zs n).length := by
 have hp : (met (zs.map fun n : Nat => (n : Int))).Perm ((Ways.rising zs n).map fun n : Nat => (n : Int)) := by
   refine (List.perm_ext_iff_of_nodup (met_nodup _) ?_).mpr fun x => ?_
   . rw [List.Nodup, List.pairwise_map]
     exact (WM.Yk zs n).imp fun h z => by omega
   . rw [met_mem, cast_mem, cast_mem]
     constructor
     . rintro ⟨m, hm, e⟩
       exact ⟨m, WM.rising_mem.mpr ⟨hl m hm, hm⟩, e⟩
     . rintro ⟨m, hm, e⟩
       exact ⟨m, (WM.rising_mem.mp hm).2, e⟩
 rw [hp.length_eq, List.length_map]
theorem same_setO {H : Hp} {p q : Addr} {o u : HO} (hp : H p = none) (hq : upd H p o q = none) : Same H (upd (upd H p o) q u) := (Same.new hp).trans (Same.new hq)
section
variable {P : Program} {w : World} {K : PySem.W.Frag} {mg : Str -> Option Value} {base : Heap}
def spBy : Sp := fun vs H Q _ => ∃ a : Addr, vs = [.ref a] /\ ((∃ ns : List Nat, NL H a ns /\ ns.length <= 12 /\ ∀ (H' : Hp) (p : Addr), Same H H' -> H p = none -> NL H' p (ns.map fun m => ns.idxOf m) -> Q (.ref p) H') \/
 ∃ xss : List (List Nat), LL H a xss /\ xss.length <= 12 /\ ∀ (H' : Hp) (p : Addr), Same H H' -> H p = none -> NL H' p (Ways.firstOf xss) -> Q (.ref p) H')
theorem ok_classes_by {f : Addr} {fd : FuncData} (F : Fun K "classes_by" "classes_by" s_classes_by f fd) (T : Txt K mg) : FnOk P w K mg base CX0 1 f fd ["signs"] spBy := by
 refine F.ok sc_classes_by (fun vs H Q E h => ?_) (fun cdv A outer s H vs Q E hr h => ?_)
 . obtain ⟨_, rfl, _⟩ := h
   rfl
 obtain ⟨a, rfl, h⟩ := h
 refine ⟨_, (Zc (Zg (Yu rfl sc_classes_by.nd (Yg K (pv 0)) (own := [("sign", 1)]) (Ya (by rfl)) (fun _ _ _ _ _ => Zp (i := 1) sc_classes_by.nd rfl (.inl rfl)) (fun _ _ _ _ _ => Yn) (fun _ _ _ _ _ => (pe_bmK K PySem.F.plainAttrs_list PySem.F.slot_list_index PySem.F.type_list_index (mt_indexE K hr.u65) (pv 0) (pa1 (pv 1))))))), ?_⟩
 rcases h with ⟨ns, ha, hl, k⟩ | ⟨xss, ha, hl, k⟩
 . refine ⟨_, rfl, a, rfl, ⟨_, SqL.of ha⟩, fun D hD => ?_⟩
   refine lcL (SqL.of ha) hD (fun i acc _ => acc = (ns.take i).map fun m => nv (ns.idxOf m)) rfl ?_ ?_
   . intro i H2 acc x hx s1 hd hl' hg
     obtain ⟨m, hm, rfl⟩ := Zz hx
     have hi := Zi hm
     refine ⟨rfl, _, rfl, .inl ⟨rfl, _, SqL.of (ha.same s1)⟩, _, rfl, .inl ⟨a, _, nv m, ns.idxOf m, nv m, rfl, rfl, SqL.of (ha.same s1), rfl, flat_nats ns, Zh (WM.idxOf_nat (List.mem_of_getElem? hm)), ?_, fun j z hj hz => ?_, ?_⟩⟩
     . show ((m : Int) == (m : Int)) = true
       simp
     . obtain ⟨y, hy, rfl⟩ := Zz hz
       have := Qo hj hy
       show ((y : Int) == (m : Int)) = false
       rw [beq_eq_false_iff_ne]; omega
     . refine LcOk.push hD s1 hd hl' (Same.refl _) (Zn (m := 100) (by omega)) ?_
       rw [hg, Yc hm, List.map_append]; rfl
   . intro H2 acc s1 hd hl' hg
     rw [List.length_map, List.take_length] at hg
     refine k H2 D s1 hD ?_
     show H2 D = _
     rw [hd, hg, List.map_map]; rfl
 . obtain ⟨as, ha, hn, hin⟩ := ha
   refine ⟨_, rfl, a, rfl, ⟨_, SqL.of ha⟩, fun D hD => ?_⟩
   refine lcL (SqL.of ha) hD (fun i acc _ => acc = (xss.take i).map fun xs => nv (xss.idxOf xs)) rfl ?_ ?_
   . intro i H2 acc x hx s1 hd hl' hg
     obtain ⟨b, hb, rfl⟩ := Zz hx
     obtain ⟨xs, hxs, hbx⟩ := hin i b hb
     have hi := Zi hxs
     have hmem := List.mem_of_getElem? hxs
     have hix := WM.idxOf_get hmem
     refine ⟨rfl, _, rfl, .inl ⟨rfl, _, SqL.of (s1 _ _ ha)⟩, _, rfl, .inr ⟨a, _, xss.map dN, .ref b, dN xs, xss.idxOf xs, dN xs, rfl, rfl, SqL.of (s1 _ _ ha), dp_lists hn (fun j b' hb' => ?_), dp_N (hbx.same s1), fun d hd' => ?_, Qe _, Zh hix, ?_, fun j d hj hd' => ?_, ?_⟩⟩
     . obtain ⟨ys, e, hy⟩ := hin j b' hb'
       exact ⟨ys, e, hy.same s1⟩
     . obtain ⟨ys, _, rfl⟩ := List.mem_map.mp hd'
       exact Qe _
     . rw [eqv_dN]; exact decide_eq_true rfl
     . obtain ⟨ys, hy, rfl⟩ := Zz hd'
       rw [eqv_dN]
       exact decide_eq_false (Qo hj hy)
     . refine LcOk.push hD s1 hd hl' (Same.refl _) (Zn (m := 100) (by omega)) ?_
       rw [hg, Yc hxs, List.map_append]; rfl
   . intro H2 acc s1 hd hl' hg
     rw [List.length_map, hn, List.take_length] at hg
     refine k H2 D s1 hD ?_
     show H2 D = _
     rw [hd, hg]
     unfold Ways.firstOf
     rw [List.map_map]; rfl
def spAmong : Sp := fun vs H Q _ => ∃ (a c : Addr) (ss cs : List Nat), vs = [.ref a, .ref c] /\ NL H a ss /\ NL H c cs /\ ss.length <= 12 /\ (∀ s ∈ ss, s < cs.length) /\ (∀ x ∈ cs, x < cs.length) /\
 ∀ (H' : Hp) (p : Addr), Same H H' -> H p = none -> NL H' p (Ways.rising (ss.map fun t => cs.getD t 0) cs.length) -> Q (.ref p) H'
theorem ok_classes_among {f : Addr} {fd : FuncData} (F : Fun K "classes_among" "classes_among" Vw f fd) (T : Txt K mg) : FnOk P w K mg base CX0 1 f fd ["states", "classes"] spAmong := by
 refine F.ok sc_classes_among (fun vs H Q E h => ?_) (fun cdv A outer s H vs Q E hr h => ?_)
 . obtain ⟨_, _, _, _, rfl, _⟩ := h
   rfl
 obtain ⟨a, c, ss, cs, rfl, ha, hc, h12, hss, hcs, k⟩ := h
 refine ⟨_, (Zc (Zg (Zv (cr_sortedW w rfl) rfl T.nsorted bootSorted (pa1 (pe_callTy (cr_setW w K rfl) rfl T.nset bootSet (pa1 (Yu rfl sc_classes_among.nd (Yg K (pv 0)) (own := [("s", 2)]) (Ya (by rfl)) (fun _ _ _ _ _ => Zp (i := 2) sc_classes_among.nd rfl (.inl rfl)) (fun _ _ _ _ _ => Yn) (fun _ _ _ _ _ => (Zm (Zd K) (pv 1) (pv 2) (fun _ _ => rfl)))))))))), ?_⟩
 refine ⟨_, rfl, a, rfl, ⟨_, SqL.of ha⟩, fun D hD => ?_⟩
 refine lcL (SqL.of ha) hD (fun i acc _ => acc = (ss.take i).map fun t => nv (cs.getD t 0)) rfl ?_ ?_
 . intro i H2 acc x hx s1 hd hl' hg
   obtain ⟨t, ht, rfl⟩ := Zz hx
   have hi := Zi ht
   have htl := hss t (List.mem_of_getElem? ht)
   have et : cs[t]? = some (cs.getD t 0) := by rw [List.getD_eq_getElem?_getD, List.getElem?_eq_getElem htl]; rfl
   refine ⟨rfl, _, rfl, _, rfl, c, _, _, _, rfl, rfl, SqL.of (hc.same s1), Zs (Zh et), ?_⟩
   refine LcOk.push hD s1 hd hl' (Same.refl _) (Zn (m := 100) (by omega)) ?_
   rw [hg, Yc ht, List.map_append]; rfl
 . intro H2 acc s1 hd hl' hg
   rw [List.length_map, List.take_length] at hg
   have hlt : ∀ x ∈ ss.map (fun t => cs.getD t 0), x < cs.length := fun x hx => by
     obtain ⟨t, ht, rfl⟩ := List.mem_map.mp hx
     have et : cs[t]? = some (cs.getD t 0) := by rw [List.getD_eq_getElem?_getD, List.getElem?_eq_getElem (hss t ht)]; rfl
     exact hcs _ (List.mem_of_getElem? et)
   have hd2 : H2 D = some (.lst (((ss.map fun t => cs.getD t 0).map fun n : Nat => (n : Int)).map V.int)) := by
     rw [hd, hg, List.map_map, List.map_map]; rfl
   refine ⟨D, _, rfl, SqL.of hd2, by rw [List.length_map, List.length_map]; omega, fun p hp => ?_⟩
   refine ⟨p, _, rfl, Zb, ?_, fun ns' q hpm ho hq => ?_⟩
   . have := met_len ((ss.map fun t => cs.getD t 0).map fun n : Nat => (n : Int))
     rw [List.length_map, List.length_map] at this; omega
   . have e := sorted_met hlt hpm ho
     refine k _ q (s1.trans (same_setO hp hq)) ((s1.trans (Same.new hp)).free hq) ?_
     show upd _ q _ q = _
     rw [Zb, e, List.map_map]; rfl
def spFurther : Sp := fun vs H Q _ => ∃ (o c : Addr) (g : Graph) (n : Nat), vs = [.ref o, .ref c] /\ WF g /\ LL H o (g.all.map g.on) /\ NL H c (g.parted n) /\ ∀ (H' : Hp) (p : Addr), Same H H' -> H p = none -> NL H' p (g.parted (n + 1)) -> Q (.ref p) H'
theorem parted_lt {g : Graph} {n x : Nat} (h : x ∈ g.parted n) : x < g.size := by
 obtain ⟨s, hs⟩ := List.mem_iff_getElem?.mp h
 have hl : s < g.size := by rw [<- WM.Yp (g := g) n]; exact Zi hs
 rw [WM.Ux hl] at hs
 cases hs
 exact WM.cls_lt hl
theorem on_len {g : Graph} (wf : WF g) {s : Nat} (hs : s < g.size) : (g.on s).length <= 12 := by
 have := Qb (wf.on_srt hs) (wf.on_lt hs)
 have := wf.le
 omega
theorem ok_parted_further {f : Addr} {fd : FuncData} (F : Fun K "parted_further" "parted_further" Vj f fd) (T : Txt K mg) (Dclasses_by : Def P w K mg base "classes_by" 1 ["signs"] spBy) (Dclasses_among : Def P w K mg base "classes_among" 1 ["states", "classes"] spAmong) : FnOk P w K mg base CX0 2 f fd ["onward", "classes"] spFurther := by
 refine F.ok sc_parted_further (fun vs H Q E h => ?_) (fun cdv A outer s H vs Q E hr h => ?_)
 . obtain ⟨_, _, _, _, rfl, _⟩ := h
   rfl
 obtain ⟨o, c, g, n, rfl, wf, ho, hc, k⟩ := h
 refine ⟨_, (Zc (Zg (Zk Dclasses_by hr.m (pa1 (Yu rfl sc_parted_further.nd (pi_enumK K rfl T.nenumerate (pa1 (pv 0))) (own := [("s", 2), ("targets", 3)]) (Ya (by rfl)) (fun _ _ _ _ _ => Qi K (n := 2) rfl (Ys (Zp (i := 2) sc_parted_further.nd rfl (.inl rfl)) (Ys (Zp (i := 3) sc_parted_further.nd rfl (.inl rfl)) Qh))) (fun _ _ _ _ _ => Yn) (fun _ _ _ _ _ => (Xh op_cat (Zx (pa1 (Zm (Zd K) (pv 1) (pv 2) (fun _ _ => rfl)))) (Zk Dclasses_among hr.m (pa2 (pv 3) (pv 1)))))))))), ?_⟩
 have h12 := wf.le
 have hpl := WM.Yp (g := g) n
 obtain ⟨as, ha, hn, hin⟩ := ho.at_
 refine ⟨_, rfl, o, _, rfl, SqL.of ha, fun D hD => ?_⟩
 refine lcE (SqL.of ha) hD (GoodLL (fun s => cls g n s :: g.goes (g.parted n) s) D) ⟨[], rfl, rfl, fun j b hb => by simp at hb⟩ ?_ ?_
 . intro i H2 acc x Tp hx s1 hd hl' hg hT
   obtain ⟨bs, rfl, hbl, hbs⟩ := hg
   obtain ⟨b, hb, rfl⟩ := Zz hx
   have hi : i < g.size := by have := Zi hb; omega
   obtain ⟨b', hb', hbx⟩ := hin i hi
   rw [hb] at hb'
   cases hb'
   have s2 : Same H2 (upd H2 Tp (.tup [.int (i : Nat), .ref b])) := Same.new hT
   refine ⟨Tp, _, rfl, SqT.of Zb, rfl, _, _, rfl, _, _, rfl, rfl, rfl, ?_⟩
   generalize hH3 : upd H2 Tp (.tup [.int (i : Nat), .ref b]) = H3 at s2 ⊢
   have s13 := s1.trans s2
   refine ⟨_, rfl, _, rfl, c, _, _, _, rfl, rfl, SqL.of (hc.same s13), Zs (Zh (WM.Ux hi)), le1, fun p1 hp1 => ?_⟩
   have s3 : Same H3 (upd H3 p1 (.lst [nv (cls g n i)])) := Same.new hp1
   have s14 := s13.trans s3
   refine ⟨_, rfl, _, rfl, b, c, g.on i, g.parted n, rfl, hbx.same s14, hc.same s14, on_len wf hi, fun t ht => by rw [hpl]; exact wf.on_lt hi t ht, fun y hy => by rw [hpl]; exact parted_lt hy, fun H5 p2 s5 np2 hp2 => ?_⟩
   rw [hpl] at hp2
   refine ⟨p1, p2, _, _, rfl, rfl, s5 _ _ Zb, hp2, ?_, fun p3 hp3 => ?_⟩
   . have : sizeLine = 16777216 := sizeLine_eq
     have h2 : (Ways.rising ((g.on i).map fun t => (g.parted n).getD t 0) g.size).length <= g.size := by
       unfold Ways.rising
       exact Nat.le_trans (List.length_filter_le _ _) (by rw [List.length_range]; exact Nat.le_refl _)
     simp only [List.length_cons, List.length_nil, List.length_map]; omega
   . have s25 := (s2.trans s3).trans s5
     refine LcOk.push hD s1 hd hl' (s25.trans (Same.new hp3)) (Zn (m := 100) (by omega)) (GoodLL.push hbl hbs (s25.trans (Same.new hp3)) ?_ ?_)
     . show upd H5 p3 _ p3 = _
       rw [Zb]; rfl
     . exact (ne_free (s25 _ _ hd) hp3).symm
 . intro H2 acc s1 hd hl' hg
   have hll := hg.ll hd
   rw [List.length_map, hn] at hll
   refine ⟨D, rfl, .inr ⟨WM.signs g n, hll, ?_, fun H3 p s3 np hp => k H3 p (s1.trans s3) (s1.free np) hp⟩⟩
   unfold WM.signs Graph.all
   rw [List.length_map, List.length_range]; exact h12
def spRounds (CG : Addr) : Sp := fun vs H Q _ => ∃ (ga : Addr) (g : Graph), vs = [.ref ga] /\ WF g /\ GraphAt CG H ga g /\ ∀ (H' : Hp) (p : Addr) (m : Nat), Same H H' -> H p = none -> m + 1 <= g.size -> g.parted (m + 1) = g.parted m -> LL H' p ((List.range (m + 1)).map g.parted) -> Q (.ref p) H'
theorem ok_rounds_of {f CG : Addr} {fd : FuncData} (F : Fun K "rounds_of" "rounds_of" s_rounds_of f fd) (T : Txt K mg) (TG : TxG K mg CG) (Dways_on : Def P w K mg base "ways_on" 1 ["graph"] (Uf CG)) (Dclasses_by : Def P w K mg base "classes_by" 1 ["signs"] spBy) (Dparted_further : Def P w K mg base "parted_further" 2 ["onward", "classes"] spFurther) :
   FnOk P w K mg base CX0 3 f fd ["graph"] (spRounds CG) := by
 refine F.ok sc_rounds_of (fun vs H Q E h => ?_) (fun cdv A outer s H vs Q E hr h => ?_)
 . obtain ⟨_, _, rfl, _⟩ := h
   rfl
 obtain ⟨ga, g, rfl, wf, hG, k⟩ := h
 refine ⟨_, (Za (Zr (i := 1) sc_rounds_of.nd rfl (.inl rfl) (Zk Dways_on hr.m (pa1 (pv 0))))
   (Za (Zr (i := 2) sc_rounds_of.nd rfl (.inl rfl) (Zx Vc))
   (Za (Zr (i := 3) sc_rounds_of.nd rfl (.inl rfl) (Zk Dclasses_by hr.m (pa1 (Ye K (pv 0)))))
   (Za (ps_while PassesOwn.never (PW.pt (pw_or (Zq Yr (Zv (Yl K) rfl T.nlen PySem.boot_len (pa1 (pv 2))) Zj (Zt _)) (pw_or1 (Zq (op_neDK K hr.units) (pv 3) (Zm (Zd K) (pv 2) (pe_un un_neg Zj) (fun _ _ => rfl)) (Zt _))))) (Za (Yt (Uw PySem.F.plainAttrs_list PySem.F.slot_list_append PySem.F.type_list_append Yy (pv 2) (pa1 (pv 3))))
   (Zc (Zr (i := 3) sc_rounds_of.nd rfl (.inl rfl) (Zk Dparted_further hr.m (pa2 (pv 1) (pv 3)))))))
   (Zc (Zg (pv 2))))))), ?_⟩
 have h12 := wf.le
 refine ⟨_, rfl, ga, g, rfl, wf, hG, fun H1 o s1 ho => ?_⟩
 refine ⟨Nat.zero_le _, fun r hr0 => ?_⟩
 have s2 : Same H1 (upd H1 r (.lst [])) := Same.new hr0
 obtain ⟨dg, am, at', hg, hm, hnx⟩ := (hG.same s1).same s2
 refine ⟨_, rfl, ga, CG, dg, _, _, rfl, hg, TG.cl, TG.nM, Xc _ _, am, rfl, .inl ⟨g.marks, hm, h12, fun H2 f0 s3 nf0 hf0 => ?_⟩⟩
 rw [<- WM.parted_zero] at hf0
 refine ⟨fun mm σ H' => ∃ (fa : Addr) (bs : List Addr), mm = g.size - bs.length /\ σ = [some (.ref ga), some (.ref o), some (.ref r), some (.ref fa)] /\ Same H1 H' /\ H' r = some (.lst (bs.map V.ref)) /\ (∀ (j : Nat) (b : Addr), bs[j]? = some b -> NL H' b (g.parted j) /\ b ≠ r) /\ NL H' fa (g.parted bs.length) /\ fa ≠ r /\
     (∀ j, j + 1 < bs.length -> g.parted (j + 1) ≠ g.parted j) /\ bs.length <= g.size,
   ⟨_, f0, [], rfl, rfl, s2.trans s3, s3 _ _ Zb, (fun j b hb => by simp at hb), hf0, (fun z => by rw [z, Zb] at nf0; cases nf0), (fun j hj => by simp at hj), Nat.zero_le _⟩, ?_⟩
 rintro mm σ H' ⟨fa, bs, rfl, rfl, s4, hr1, hbs, hfa, fr, hne, hle⟩
 -- the loop goes on
 have go : (bs.length = 0 \/ g.parted bs.length ≠ g.parted (bs.length - 1)) -> ∃ N : L2.St -> Hp -> Prop, (∀ σ' H'', N σ' H'' -> ∃ m', m' < g.size - bs.length /\ ∃ (fa : Addr) (bs : List Addr), m' = g.size - bs.length /\ σ' = [some (.ref ga), some (.ref o), some (.ref r), some (.ref fa)] /\ Same H1 H'' /\ H'' r = some (.lst (bs.map V.ref)) /\ (∀ (j : Nat) (b : Addr), bs[j]? = some b -> NL H'' b (g.parted j) /\ b ≠ r) /\ NL H'' fa (g.parted bs.length) /\ fa ≠ r /\
     (∀ j, j + 1 < bs.length -> g.parted (j + 1) ≠ g.parted j) /\ bs.length <= g.size) /\ N = fun σ' H'' => ∃ fa' : Addr, σ' = [some (.ref ga), some (.ref o), some (.ref r), some (.ref fa')] /\ Same H1 H'' /\ H'' r = some (.lst ((bs ++ [fa]).map V.ref)) /\ (∀ (j : Nat) (b : Addr), (bs ++ [fa])[j]? = some b -> NL H'' b (g.parted j) /\ b ≠ r) /\ NL H'' fa' (g.parted (bs.length + 1)) /\ fa' ≠ r := fun hgo => by
   have hne2 : ∀ j, j + 1 < bs.length + 1 -> g.parted (j + 1) ≠ g.parted j := fun j hj => by
     by_cases q : j + 1 < bs.length
     . exact hne j q
     . have e : j + 1 = bs.length := by omega
       rcases hgo with z | z
       . omega
       . rw [e]
         have e2 : j = bs.length - 1 := by omega
         rw [e2]; exact z
   have hsz := WM.rounds_go wf (k := bs.length) fun j hj => hne2 j (by omega)
   refine ⟨_, fun σ' H'' hN => ?_, rfl⟩
   obtain ⟨fa', rfl, h1, h2, h3, h4, h5⟩ := hN
   have el : (bs ++ [fa]).length = bs.length + 1 := by rw [List.length_append]; rfl
   exact ⟨_, by rw [el]; omega, fa', bs ++ [fa], rfl, rfl, h1, h2, h3, by rw [el]; exact h4, h5, fun j hj => hne2 j (by rw [el] at hj; exact hj), by rw [el]; exact hsz⟩
 have body : ∀ N : L2.St -> Hp -> Prop, (N = fun σ' H'' => ∃ fa' : Addr, σ' = [some (.ref ga), some (.ref o), some (.ref r), some (.ref fa')] /\ Same H1 H'' /\ H'' r = some (.lst ((bs ++ [fa]).map V.ref)) /\ (∀ (j : Nat) (b : Addr), (bs ++ [fa])[j]? = some b -> NL H'' b (g.parted j) /\ b ≠ r) /\ NL H'' fa' (g.parted (bs.length + 1)) /\ fa' ≠ r) ->
     ∀ H5, (∀ H5', H5' = upd H' r (.lst (bs.map V.ref ++ [.ref fa])) -> H5 = H5') -> Same H1 H5 /\ H5 r = some (.lst ((bs ++ [fa]).map V.ref)) /\ NL H5 fa (g.parted bs.length) /\ ∀ (H6 : Hp) (p : Addr), Same H5 H6 -> H5 p = none -> NL H6 p (g.parted (bs.length + 1)) -> N [some (.ref ga), some (.ref o), some (.ref r), some (.ref p)] H6 := fun N hN H5 e5 => by
   have e5 := e5 _ rfl
   subst e5
   have s5 : Same H1 (upd H' r (.lst (bs.map V.ref ++ [.ref fa]))) := s4.put hr0
   have hr5 : upd H' r (.lst (bs.map V.ref ++ [.ref fa])) r = some (.lst ((bs ++ [fa]).map V.ref)) := by rw [Zb, List.map_append]; rfl
   have hf5 : NL (upd H' r (.lst (bs.map V.ref ++ [.ref fa]))) fa (g.parted bs.length) := by
     show upd H' r _ fa = _
     rw [Zl fr]; exact hfa
   refine ⟨s5, hr5, hf5, fun H6 p s6 np hp => ?_⟩
   rw [hN]
   refine ⟨p, rfl, s5.trans s6, s6 _ _ hr5, fun j b hb => ?_, hp, fun z => by rw [z, hr5] at np; cases np⟩
   rcases snoc_get hb with q | ⟨e1, e2⟩
   . obtain ⟨h1, h2⟩ := hbs j b q
     refine ⟨NL.same (H := upd H' r _) ?_ s6, h2⟩
     show upd H' r _ b = _
     rw [Zl h2]; exact h1
   . subst e2; rw [e1]
     exact ⟨hf5.same s6, fr⟩
 refine ⟨_, rfl, r, _, rfl, .inl (SqL.of hr1), rfl, _, rfl, ?_⟩
 rw [List.length_map, dec_int']
 by_cases q0 : bs.length = 0
 . obtain ⟨N, hN, eN⟩ := go (.inl q0)
   refine ifT (decide_eq_true (by omega)) (ifT rfl ⟨N, hN, ?_⟩)
   refine ⟨_, rfl, .inl ⟨rfl, _, SqL.of hr1⟩, _, rfl, r, _, _, rfl, rfl, hr1, by rw [List.length_map]; exact Zn (m := 100) (by omega), ?_⟩
   obtain ⟨b1, b2, b3, b4⟩ := body N eN _ fun H5' e => e.symm
   exact ⟨_, rfl, _, rfl, o, fa, g, bs.length, rfl, wf, ho.same b1, b3, fun H6 p s6 np hp => b4 H6 p s6 np hp⟩
 . refine ifF (decide_eq_false (by omega)) ?_
   obtain ⟨b0, eb⟩ : ∃ b0, bs[bs.length - 1]? = some b0 := ⟨_, List.getElem?_eq_getElem (by omega)⟩
   obtain ⟨hb0, _⟩ := hbs _ _ eb
   obtain ⟨bs', ebs⟩ := last_of eb (by omega)
   have hlast : atI (bs.map V.ref) (-1) = some (V.ref b0) := by
     rw [ebs, List.map_append]; exact atI_last _ _
   refine ⟨_, rfl, _, rfl, _, rfl, r, _, _, _, rfl, rfl, SqL.of hr1, hlast, ne_nats hfa hb0 ⟨_, rfl, ?_⟩⟩
   by_cases q1 : g.parted bs.length = g.parted (bs.length - 1)
   . refine ifF (by rw [decide_eq_true q1]; rfl) ⟨_, rfl, ?_⟩
     have eb1 : bs.length - 1 + 1 = bs.length := by omega
     refine k H' r (bs.length - 1) (s1.trans s4) (s1.free hr0) (by omega) (by rw [eb1]; exact q1) ?_
     rw [eb1]
     refine ⟨bs, hr1, by rw [List.length_map, List.length_range], fun j b hb => ⟨g.parted j, ?_, (hbs j b hb).1⟩⟩
     rw [List.getElem?_map, List.getElem?_range (Zi hb)]; rfl
   . obtain ⟨N, hN, eN⟩ := go (.inr q1)
     refine ifT (by rw [decide_eq_false q1]; rfl) ⟨N, hN, ?_⟩
     refine ⟨_, rfl, .inl ⟨rfl, _, SqL.of hr1⟩, _, rfl, r, _, _, rfl, rfl, hr1, by rw [List.length_map]; exact Zn (m := 100) (by omega), ?_⟩
     obtain ⟨b1, b2, b3, b4⟩ := body N eN _ fun H5' e => e.symm
     exact ⟨_, rfl, _, rfl, o, fa, g, bs.length, rfl, wf, ho.same b1, b3, fun H6 p s6 np hp => b4 H6 p s6 np hp⟩
def spClasses (CG : Addr) : Sp := fun vs H Q _ => ∃ (ga : Addr) (g : Graph), vs = [.ref ga] /\ WF g /\ GraphAt CG H ga g /\ ∀ (H' : Hp) (p : Addr), Same H H' -> NL H' p g.alike -> Q (.ref p) H'
theorem ok_classes_of {f CG : Addr} {fd : FuncData} (F : Fun K "classes_of" "classes_of" s_classes_of f fd) (Drounds_of : Def P w K mg base "rounds_of" 3 ["graph"] (spRounds CG)) : FnOk P w K mg base CX0 4 f fd ["graph"] (spClasses CG) := by
 refine F.ok sc_classes_of (fun vs H Q E h => ?_) (fun cdv A outer s H vs Q E hr h => ?_)
 . obtain ⟨_, _, rfl, _⟩ := h
   rfl
 obtain ⟨ga, g, rfl, wf, hG, k⟩ := h
 refine ⟨_, (Zc (Zg (Zm (Zd K) (Zk Drounds_of hr.m (pa1 (pv 0))) (pe_un un_neg Zj) (fun _ _ => rfl)))), ?_⟩
 refine ⟨_, rfl, ga, g, rfl, wf, hG, fun H1 r m s1 nr hm hp hr => ?_⟩
 obtain ⟨as, h1, h2, h3⟩ := hr
 rw [List.length_map, List.length_range] at h2
 obtain ⟨b, hb⟩ : ∃ b, as[m]? = some b := ⟨_, List.getElem?_eq_getElem (by omega)⟩
 obtain ⟨xs, hxs, hbx⟩ := h3 m b hb
 rw [List.getElem?_map, List.getElem?_range (by omega)] at hxs
 cases hxs
 obtain ⟨as', eas⟩ := last_of hb h2
 refine ⟨_, rfl, r, _, _, _, rfl, rfl, SqL.of h1, by rw [eas, List.map_append]; exact atI_last _ _, ?_⟩
 refine k H1 b s1 ?_
 rw [<- WM.parted_fin wf hp]; exact hbx
end
theorem filt_pos {p : Nat -> Bool} {j : Nat} (h : p j = true) : [j].filter p = [j] := by rw [List.filter_cons_of_pos h]; rfl
theorem filt_neg {p : Nat -> Bool} {j : Nat} (h : p j = false) : [j].filter p = [] := by rw [List.filter_cons_of_neg (by rw [h]; decide)]; rfl
theorem tup_upd {H : Hp} {b q : Addr} {xs ys : List V} {o : HO} (hb : H b = some (.tup xs)) (hq : H q = some (.lst ys)) : upd H q o b = some (.tup xs) := by
 rw [Zl (Xj hb hq (by intro z; cases z))]; exact hb
def Row (H : Hp) (v : V) (l : List Nat) : Prop := if l.length <= 400 then ∃ p, v = .ref p /\ NL H p l else v = .non
theorem Row.same {H H' : Hp} {v : V} {l : List Nat} (h : Row H v l) (s : Same H H') : Row H' v l := by
 unfold Row at h ⊢
 split
 . rename_i c
   rw [if_pos c] at h
   obtain ⟨p, e, hp⟩ := h
   exact ⟨p, e, hp.same s⟩
 . rename_i c
   rw [if_neg c] at h; exact h
theorem Row.short {H : Hp} {v : V} {l : List Nat} (h : Row H v l) (c : l.length <= 400) : ∃ p, v = .ref p /\ NL H p l := by
 unfold Row at h; rw [if_pos c] at h; exact h
theorem Row.long {H : Hp} {v : V} {l : List Nat} (h : Row H v l) (c : ¬ l.length <= 400) : v = .non := by
 unfold Row at h; rw [if_neg c] at h; exact h
theorem Row.of {H : Hp} {p : Addr} {l : List Nat} (c : l.length <= 400) (h : NL H p l) : Row H (.ref p) l := by
 unfold Row; rw [if_pos c]; exact ⟨p, rfl, h⟩
theorem Row.none {H : Hp} {l : List Nat} (c : ¬ l.length <= 400) : Row H .non l := by
 unfold Row; rw [if_neg c]
theorem join_bound {ls : List (List Nat)} : ∀ {i : Nat}, (∀ j, j < i -> (ls.getD j []).length <= 400) -> (joinTo ls i).length <= i * 401
 | 0, _ => by simp [joinTo]
 | i + 1, h => by
   have ih := join_bound (i := i) fun j hj => h j (by omega)
   have h1 := h i (by omega)
   rw [WM.Vs, List.length_append, List.length_append]
   have : (if i < ls.length - 1 then [3] else [] : List Nat).length <= 1 := by split <;> simp
   omega
section
variable {P : Program} {w : World} {K : PySem.W.Frag} {mg : Str -> Option Value} {base : Heap}
def spPairs : Sp := fun vs H Q _ => ∃ (c : Addr) (cs : List Nat), vs = [.ref c] /\ NL H c cs /\ cs.length <= 12 /\ ∀ (H' : Hp) (p : Addr), Same H H' -> H p = none -> PL H' p (pairsOf cs.length cs) -> Q (.ref p) H'
def TupsAt (H : Hp) (bs : List Addr) (ps : List (Nat × Nat)) : Prop := bs.length = ps.length /\ ∀ (j : Nat) (b : Addr), bs[j]? = some b -> ∃ p, ps[j]? = some p /\ H b = some (.tup [nv p.1, nv p.2])
theorem TupsAt.same {H H' : Hp} {bs : List Addr} {ps : List (Nat × Nat)} (h : TupsAt H bs ps) (s : Same H H') : TupsAt H' bs ps := ⟨h.1, fun j b hb => by
 obtain ⟨p, e, hp⟩ := h.2 j b hb
 exact ⟨p, e, s _ _ hp⟩⟩
theorem TupsAt.upd {H : Hp} {bs : List Addr} {ps : List (Nat × Nat)} {q : Addr} {ys : List V} {o : HO} (h : TupsAt H bs ps) (hq : H q = some (.lst ys)) : TupsAt (upd H q o) bs ps := ⟨h.1, fun j b hb => by
 obtain ⟨p, e, hp⟩ := h.2 j b hb
 exact ⟨p, e, tup_upd hp hq⟩⟩
theorem TupsAt.append {H : Hp} {bs cs : List Addr} {ps qs : List (Nat × Nat)} (h : TupsAt H bs ps) (h' : TupsAt H cs qs) : TupsAt H (bs ++ cs) (ps ++ qs) := by
 refine ⟨by rw [List.length_append, List.length_append, h.1, h'.1], fun j b hb => ?_⟩
 by_cases q : j < bs.length
 . rw [List.getElem?_append_left q] at hb
   obtain ⟨p, e, hp⟩ := h.2 j b hb
   exact ⟨p, by rw [List.getElem?_append_left (by rw [<- h.1]; exact q)]; exact e, hp⟩
 . rw [List.getElem?_append_right (by omega)] at hb
   obtain ⟨p, e, hp⟩ := h'.2 _ b hb
   exact ⟨p, by rw [List.getElem?_append_right (by rw [<- h.1]; omega), <- h.1]; exact e, hp⟩
theorem TupsAt.one {H : Hp} {b : Addr} {p : Nat × Nat} (h : H b = some (.tup [nv p.1, nv p.2])) : TupsAt H [b] [p] := ⟨rfl, fun j c hc => by
 cases j with
 | zero =>
   have e : b = c := by simpa using hc
   subst e; exact ⟨p, rfl, h⟩
 | succ j => simp at hc⟩
def Qk (cs : List Nat) (s i : Nat) : List (Nat × Nat) := ((List.range i).filter fun t => cs.getD s 0 != cs.getD t 0).map fun t => (s, t)
theorem pairRow_len (cs : List Nat) (s i : Nat) : (Qk cs s i).length <= i := by
 unfold Qk
 rw [List.length_map]
 exact Nat.le_trans (List.length_filter_le _ _) (by rw [List.length_range]; exact Nat.le_refl _)
theorem pairs_len (cs : List Nat) (n : Nat) : ∀ i, ((List.range i).flatMap fun s => Qk cs s n).length <= i * n
 | 0 => by simp
 | i + 1 => by
   have ih := pairs_len cs n i
   have h1 := pairRow_len cs i n
   rw [List.range_succ, List.flatMap_append, List.length_append, List.flatMap_cons, List.flatMap_nil, List.append_nil, Nat.add_mul]
   omega
theorem pairsOf_len {cs : List Nat} (h : cs.length <= 12) : (pairsOf cs.length cs).length <= 144 := by
 have h1 := pairs_len cs cs.length cs.length
 have h2 : cs.length * cs.length <= 12 * 12 := Nat.mul_le_mul h h
 exact Nat.le_trans h1 (by omega)
theorem Xk {cs : List Nat} {t : Nat} (h : t < cs.length) : cs[t]? = some (cs.getD t 0) := by rw [List.getD_eq_getElem?_getD, List.getElem?_eq_getElem h]; rfl
theorem dec_nv {a b : Nat} : decide (nv a = nv b) = decide (a = b) := by
 by_cases h : a = b
 . subst h; rw [decide_eq_true rfl, decide_eq_true rfl]
 . rw [decide_eq_false h]
   exact decide_eq_false fun z => h (by have := V.int.inj z; omega)
theorem ok_parted_pairs {f : Addr} {fd : FuncData} (F : Fun K "parted_pairs" "parted_pairs" Um f fd) (T : Txt K mg) : FnOk P w K mg base CX0 1 f fd ["classes"] spPairs := by
 refine F.ok sc_parted_pairs (fun vs H Q E h => ?_) (fun cdv A outer s H vs Q E hr h => ?_)
 . obtain ⟨_, _, rfl, _⟩ := h
   rfl
 obtain ⟨c, cs, rfl, hc, h12, k⟩ := h
 refine ⟨_, (Za (Zr (i := 1) sc_parted_pairs.nd rfl (.inl rfl) (Zx Vc))
   (Za (Xr PassesOwn.never rfl (Xe rfl T.nrange (pa1 (Zv (Yl K) rfl T.nlen PySem.boot_len (pa1 (pv 0))))) (Zp (i := 2) sc_parted_pairs.nd rfl (.inr rfl)) (Zc (Yt (Uw PySem.F.plainAttrs_list PySem.F.slot_list_extend PySem.F.type_list_extend mt_extend (pv 1) (pa1 (Yu rfl sc_parted_pairs.nd (Xe rfl T.nrange (pa1 (Zv (Yl K) rfl T.nlen PySem.boot_len (pa1 (pv 0))))) (own := [("t", 3)]) (Ya (by rfl)) (fun _ _ _ _ _ => Zp (i := 3) sc_parted_pairs.nd rfl (.inl rfl)) (fun _ _ _ _ _ => pts_one (Zq op_ne (Zm (Zd K) (pv 0) (pv 2) (fun _ _ => rfl)) (Zm (Zd K) (pv 0) (pv 3) (fun _ _ => rfl)) (Zt _))) (fun _ _ _ _ _ => (pe_tup (pa2 (pv 2) (pv 3))))))))))
   (Zc (Zg (pv 1))))), ?_⟩
 have hz : (cs.map nv).length = cs.length := List.length_map _
 have en : (((cs.map nv).length : Nat) : Int).toNat = cs.length := by rw [hz]; exact Int.toNat_natCast _
 refine ⟨Nat.zero_le _, fun r hr0 => ?_⟩
 have s1 : Same H (upd H r (.lst [])) := Same.new hr0
 refine ⟨_, rfl, c, _, rfl, .inl (SqL.of (hc.same s1)), _, rfl, by omega, by omega, ?_⟩
 rw [en]
 refine Ud (fun i σ H' => ∃ (v2 v3 : Option V) (bs : List Addr), σ = [some (.ref c), some (.ref r), v2, v3] /\ Same H H' /\ H' r = some (.lst (bs.map V.ref)) /\ TupsAt H' bs ((List.range i).flatMap fun s => Qk cs s cs.length)) ?_ ?_ ?_
 . exact ⟨none, none, [], rfl, s1, Zb, rfl, fun j b hb => by simp at hb⟩
 . rintro i σ H2 hi ⟨v2, v3, bs, rfl, s2, hr2, hbs⟩
   have z : (0 : Int) + (i : Int) = (i : Int) := Int.zero_add _
   rw [z]
   refine ⟨_, rfl, .inl ⟨rfl, _, SqL.of hr2⟩, _, rfl, c, _, rfl, .inl (SqL.of (hc.same s2)), _, rfl, by omega, by omega, fun D hD => ?_⟩
   rw [en]
   refine lcR hD (fun j acc H3 => ∃ es : List Addr, acc = es.map V.ref /\ TupsAt H3 es (Qk cs i j)) ⟨[], rfl, rfl, fun j b hb => by simp at hb⟩ ?_ ?_
   . intro j H3 acc hj s3 hd hl' hg
     obtain ⟨es, rfl, hes⟩ := hg
     have z2 : (0 : Int) + (j : Int) = (j : Int) := Int.zero_add _
     rw [z2]
     have hc3 := (hc.same s2).same s3
     have epr : Qk cs i (j + 1) = Qk cs i j ++ if cs.getD i 0 != cs.getD j 0 then [(i, j)] else [] := by
       unfold Qk
       rw [Yi, List.filter_append, List.map_append]
       congr 1
       cases qq : (cs.getD i 0 != cs.getD j 0) with
       | true => rw [filt_pos (p := fun t => cs.getD i 0 != cs.getD t 0) qq]; rfl
       | false => rw [filt_neg (p := fun t => cs.getD i 0 != cs.getD t 0) qq]; rfl
     refine ⟨rfl, _, rfl, _, rfl, c, _, _, _, rfl, rfl, SqL.of hc3, Zs (Zh (Xk hi)), _, rfl, _, rfl, c, _, _, _, rfl, rfl, SqL.of hc3, Zs (Zh (Xk hj)), rfl, _, rfl, ?_⟩
     rw [dec_nv]
     by_cases q : cs.getD i 0 = cs.getD j 0
     . refine ifF (by rw [decide_eq_true q]; rfl) (LcOk.skip s3 hd hl' (Same.refl _) ⟨es, rfl, ?_⟩)
       rw [epr, if_neg (by rw [q]; simp), List.append_nil]; exact hes
     . refine ifT (by rw [decide_eq_false q]; rfl) ⟨_, rfl, _, rfl, le2, fun p hp => ?_⟩
       refine LcOk.push hD s3 hd hl' (Same.new hp) (Zn (m := 100) (by omega)) ⟨es ++ [p], by rw [List.map_append]; rfl, ?_⟩
       rw [epr, if_pos (by simpa using q)]
       refine TupsAt.upd ((hes.same (Same.new hp)).append (TupsAt.one (p := (i, j)) Zb)) (Same.new hp _ _ hd)
   . intro H3 acc s3 hd hl' hg
     obtain ⟨es, rfl, hes⟩ := hg
     have hr3 := s3 _ _ hr2
     have b1 := hbs.1
     have b2 := pairs_len cs cs.length i
     have b3 := hes.1
     have b4 := pairRow_len cs i cs.length
     have b5 : i * cs.length <= 12 * 12 := Nat.mul_le_mul (by omega) h12
     refine ⟨r, D, _, _, rfl, rfl, hr3, hd, ?_, ?_⟩
     . have : sizeLine = 16777216 := sizeLine_eq
       rw [List.length_map, List.length_map]; omega
     . refine ⟨_, _, bs ++ es, rfl, (s2.trans s3).put hr0, ?_, ?_⟩
       . rw [Zb, List.map_append]
       . rw [List.range_succ, List.flatMap_append, List.flatMap_cons, List.flatMap_nil, List.append_nil]
         exact TupsAt.upd ((hbs.same s3).append hes) hr3
 . rintro σ H2 ⟨v2, v3, bs, rfl, s2, hr2, hbs⟩
   exact ⟨_, rfl, k H2 r s2 hr0 ⟨bs, hr2, hbs.1, hbs.2⟩⟩
def spMarks : Sp := fun vs H Q _ => ∃ (a b m : Nat), vs = [nv a, nv b] /\ (List.range 8).find? (fun m => a.testBit m != b.testBit m) = some m /\ ∀ (H' : Hp) (p : Addr), Same H H' -> NL H' p (if a.testBit m = true then [1, m] else [2, 1, m]) -> Q (.ref p) H'
theorem ok_told_by_marks {f : Addr} {fd : FuncData} (F : Fun K "told_by_marks" "told_by_marks" Vv f fd) (T : Txt K mg) (Dhas_mark : Def P w K mg base "has_mark" 1 ["marks", "mark"] spHasMark) : FnOk P w K mg base CX0 2 f fd ["here", "there"] spMarks := by
 refine F.ok sc_told_by_marks (fun vs H Q E h => ?_) (fun cdv A outer s H vs Q E hr h => ?_)
 . obtain ⟨_, _, _, rfl, _⟩ := h
   rfl
 obtain ⟨a, b, m, rfl, hm, k⟩ := h
 refine ⟨_, (Za (Zr (i := 2) sc_told_by_marks.nd rfl (.inl rfl) (Zv (cr_minK K rfl) rfl T.nmin bootMin (pa1 (Yu rfl sc_told_by_marks.nd (Xe rfl T.nrange (pa1 (Zy T.gMARKS_IN_ALL))) (own := [("m", 3)]) (Ya (by rfl)) (fun _ _ _ _ _ => Zp (i := 3) sc_told_by_marks.nd rfl (.inl rfl)) (fun _ _ _ _ _ => pts_one (Zq op_ne (Zk Dhas_mark hr.m (pa2 (pv 0) (pv 3))) (Zk Dhas_mark hr.m (pa2 (pv 1) (pv 3))) (Zt _))) (fun _ _ _ _ _ => (pv 3))))))
   (Zc (Zg (Vr (Yw (Zk Dhas_mark hr.m (pa2 (pv 0) (pv 2)))) (Zx (pa2 (Zy T.gMARKED) (pv 2))) (Zx (pa3 (Zy T.gNOT) (Zy T.gMARKED) (pv 2))))))), ?_⟩
 obtain ⟨m8, m1, m2⟩ := WM.Xt hm
 refine ⟨_, rfl, by omega, by omega, fun D hD => ?_⟩
 have en : ((8 : Int)).toNat = 8 := rfl
 rw [en]
 refine lcR hD (fun i acc _ => acc = ((List.range i).filter fun m => a.testBit m != b.testBit m).map nv) rfl ?_ ?_
 . intro i H2 acc hi s1 hd hl' hg
   have z : (0 : Int) + (i : Int) = (i : Int) := Int.zero_add _
   rw [z]
   refine ⟨rfl, _, rfl, _, rfl, a, i, rfl, hi, _, rfl, _, rfl, b, i, rfl, hi, rfl, _, rfl, ?_⟩
   have eb : (!decide (V.bl (a.testBit i) = V.bl (b.testBit i))) = (a.testBit i != b.testBit i) := by rw [dec_bl]; rfl
   rw [eb]
   cases e : (a.testBit i != b.testBit i) with
   | true =>
     refine ifT rfl ⟨_, rfl, LcOk.push hD s1 hd hl' (Same.refl _) (Zn (m := 100) (by omega)) ?_⟩
     rw [hg, Yi, List.filter_append, List.map_append, filt_pos (p := fun m => a.testBit m != b.testBit m) e]; rfl
   | false =>
     refine ifF rfl (LcOk.skip s1 hd hl' (Same.refl _) ?_)
     rw [hg, Yi, List.filter_append, filt_neg (p := fun m => a.testBit m != b.testBit m) e, List.append_nil]
 . intro H2 acc s1 hd hl' hg
   have mm : m ∈ (List.range 8).filter fun m => a.testBit m != b.testBit m := List.mem_filter.mpr ⟨List.mem_range.mpr m8, m1⟩
   refine ⟨D, ((List.range 8).filter fun m => a.testBit m != b.testBit m).map fun n : Nat => (n : Int), rfl, SqL.of (by rw [hd, hg, List.map_map]; rfl), ?_, fun x hx hle => ?_⟩
   . rw [List.length_map]
     exact List.length_pos_of_mem mm
   . obtain ⟨u, hu, rfl⟩ := List.mem_map.mp hx
     obtain ⟨u1, u2⟩ := List.mem_filter.mp hu
     have e1 := hle (m : Int) (List.mem_map.mpr ⟨m, mm, rfl⟩)
     have e3 : u = m := by
       rcases Nat.lt_trichotomy u m with q | q | q
       . have := m2 u q
         rw [this] at u2; cases u2
       . exact q
       . omega
     subst e3
     refine ⟨_, rfl, _, rfl, a, u, rfl, m8, _, rfl, ?_⟩
     cases e : a.testBit u with
     | true =>
       rw [if_pos e] at k
       exact ifT rfl ⟨_, rfl, le2, fun p hp => k _ p (s1.trans (Same.new hp)) Zb⟩
     | false =>
       rw [if_neg (by rw [e]; decide)] at k
       exact ifF rfl ⟨_, rfl, le3, fun p hp => k _ p (s1.trans (Same.new hp)) Zb⟩
def spBeyond : Sp := fun vs H Q _ => ∃ (a b c : Addr) (ss os cs : List Nat), vs = [.ref a, .ref b, .ref c] /\ NL H a ss /\ NL H b os /\ NL H c cs /\ ss.length <= 12 /\ os.length <= 12 /\ (∀ s ∈ ss, s < cs.length) /\ (∀ s ∈ os, s < cs.length) /\
 ∀ (H' : Hp) (p : Addr), Same H H' -> NL H' p (ss.filter fun u => !decide (cs.getD u 0 ∈ os.map fun v => cs.getD v 0)) -> Q (.ref p) H'
theorem ok_those_beyond {f : Addr} {fd : FuncData} (F : Fun K "those_beyond" "those_beyond" Uj f fd) (T : Txt K mg) : FnOk P w K mg base CX0 1 f fd ["states", "others", "classes"] spBeyond := by
 refine F.ok sc_those_beyond (fun vs H Q E h => ?_) (fun cdv A outer s H vs Q E hr h => ?_)
 . obtain ⟨_, _, _, _, _, _, rfl, _⟩ := h
   rfl
 obtain ⟨a, b, c, ss, os, cs, rfl, ha, hb, hc, h12, h12', hss, hos, k⟩ := h
 refine ⟨_, (Za (Zr (i := 3) sc_those_beyond.nd rfl (.inr rfl) (Yu rfl sc_those_beyond.nd (Yg K (pv 1)) (own := [("v", 4)]) (Ya (by rfl)) (fun _ _ _ _ _ => Zp (i := 4) sc_those_beyond.nd rfl (.inl rfl)) (fun _ _ _ _ _ => Yn) (fun _ _ _ _ _ => (Zm (Zd K) (pv 2) (pv 4) (fun _ _ => rfl)))) (hs := sw_cell rfl))
   (Zc (Zg (Yu rfl sc_those_beyond.nd (Yg K (pv 0)) (own := [("u", 5)]) (Ya (by rfl)) (fun _ _ _ _ _ => Zp (i := 5) sc_those_beyond.nd rfl (.inl rfl)) (fun _ _ _ _ _ => pts_one (Zq (op_notInK K) (Zm (Zd K) (pv 2) (pv 5) (fun _ _ => rfl)) (pv 3) (by with_unfolding_all rfl))) (fun _ _ _ _ _ => (pv 5)))))), ?_⟩
 refine ⟨_, rfl, b, rfl, ⟨_, SqL.of hb⟩, fun D hD => ?_⟩
 refine lcL (SqL.of hb) hD (fun i acc _ => acc = (os.take i).map fun t => nv (cs.getD t 0)) rfl ?_ ?_
 . intro i H2 acc x hx s1 hd hl' hg
   obtain ⟨t, ht, rfl⟩ := Zz hx
   have hi := Zi ht
   have htl := hos t (List.mem_of_getElem? ht)
   refine ⟨rfl, _, rfl, _, rfl, c, _, _, _, rfl, rfl, SqL.of (hc.same s1), Zs (Zh (Xk htl)), ?_⟩
   refine LcOk.push hD s1 hd hl' (Same.refl _) (Zn (m := 100) (by omega)) ?_
   rw [hg, Yc ht, List.map_append]; rfl
 . intro H2 acc s1 hd hl' hg
   rw [List.length_map, List.take_length] at hg
   have hbs : NL H2 D (os.map fun v => cs.getD v 0) := by
     show H2 D = _
     rw [hd, hg, List.map_map]; rfl
   refine ⟨_, rfl, a, rfl, ⟨_, SqL.of (ha.same s1)⟩, fun D2 hD2 => ?_⟩
   refine lcL (SqL.of (ha.same s1)) hD2 (fun i acc _ => acc = ((ss.take i).filter fun u => !decide (cs.getD u 0 ∈ os.map fun v => cs.getD v 0)).map nv) rfl ?_ ?_
   . intro i H3 acc x hx s2 hd2 hl2 hg2
     obtain ⟨t, ht, rfl⟩ := Zz hx
     have hi := Zi ht
     have htl := hss t (List.mem_of_getElem? ht)
     refine ⟨rfl, _, rfl, _, rfl, c, _, _, _, rfl, rfl, SqL.of ((hc.same s1).same s2), Zs (Zh (Xk htl)), _, rfl, D, _, rfl, .inl (SqL.of (hbs.same s2)), rfl, flat_nats _, _, rfl, ?_⟩
     show if (!inV (nv (cs.getD t 0)) ((os.map fun v => cs.getD v 0).map nv)) = true then _ else _
     rw [inV_nat]
     cases e : (!decide (cs.getD t 0 ∈ os.map fun v => cs.getD v 0)) with
     | true =>
       refine ifT rfl ⟨_, rfl, LcOk.push hD2 s2 hd2 hl2 (Same.refl _) (Zn (m := 100) (by omega)) ?_⟩
       rw [hg2, Yc ht, List.filter_append, List.map_append, filt_pos (p := fun u => !decide (cs.getD u 0 ∈ os.map fun v => cs.getD v 0)) e]; rfl
     | false =>
       refine ifF rfl (LcOk.skip s2 hd2 hl2 (Same.refl _) ?_)
       rw [hg2, Yc ht, List.filter_append, filt_neg (p := fun u => !decide (cs.getD u 0 ∈ os.map fun v => cs.getD v 0)) e, List.append_nil]
   . intro H3 acc s2 hd2 hl2 hg2
     rw [List.length_map, List.take_length] at hg2
     refine k H3 D2 (s1.trans s2) ?_
     show H3 D2 = _
     rw [hd2, hg2]
def spBehind : Sp := fun vs H Q _ => ∃ (h tl : Addr) (hd : List Nat) (us : List V) (ls : List (List Nat)), vs = [.ref h, .ref tl] /\ NL H h hd /\ hd.length <= 2 /\ H tl = some (.lst us) /\ us.length = ls.length /\ (∀ (j : Nat) (v : V), us[j]? = some v -> ∃ l, ls[j]? = some l /\ Row H v l) /\ ls ≠ [] /\ ls.length <= 12 /\
 ∀ (H' : Hp) (x : V), Same H H' -> Row H' x (hd ++ Ways.andAll ls) -> Q x H'
theorem ok_behind {f : Addr} {fd : FuncData} (F : Fun K "behind" "behind" s_behind f fd) (T : Txt K mg) : FnOk P w K mg base CX0 1 f fd ["head", "told"] spBehind := by
 refine F.ok sc_behind (fun vs H Q E h => ?_) (fun cdv A outer s H vs Q E hr h => ?_)
 . obtain ⟨_, _, _, _, _, rfl, _⟩ := h
   rfl
 obtain ⟨h, tl, hd, us, ls, rfl, hh, hd2, ht, hul, hus, hne, h12, k⟩ := h
 refine ⟨_, (Za (Zr (i := 2) sc_behind.nd rfl (.inl rfl) (pe_callTy (cr_listK K) rfl T.nlist bootList (pa1 (pv 0))))
   (Za (Xr PassesOwn.never rfl (pi_enumK K rfl T.nenumerate (pa1 (pv 1))) (Qi K (n := 2) rfl (Ys (Zp (i := 3) sc_behind.nd rfl (.inl rfl)) (Ys (Zp (i := 4) sc_behind.nd rfl (.inl rfl)) Qh))) (Za (Yf (pt_cmp (pc_isN (pv 4))) (Zc (Zg pe_non)) Zo)
   (Za (Yf (Zq op_lt (pv 3) (Xh op_sub (Zv (Yl K) rfl T.nlen PySem.boot_len (pa1 (pv 1))) Zj) (Zt _)) (Zc (Yt (Uw PySem.F.plainAttrs_list PySem.F.slot_list_append PySem.F.type_list_append Yy (pv 2) (pa1 (Zy T.gBOTH))))) Zo)
   (Zc (Yt (Uw PySem.F.plainAttrs_list PySem.F.slot_list_extend PySem.F.type_list_extend mt_extend (pv 2) (pa1 (pv 4))))))))
   (Zc (Zg (Vr (Zq op_le (Zv (Yl K) rfl T.nlen PySem.boot_len (pa1 (pv 2))) (Zy T.gLONGEST_TOLD) (Zt _)) (pv 2) pe_non))))), ?_⟩
 have hsl : sizeLine = 16777216 := sizeLine_eq
 have eall := WM.joinTo_all hne
 refine ⟨_, rfl, h, _, rfl, .inl (SqL.of hh), fun r hr0 => ?_⟩
 have s1 : Same H (upd H r (.lst (hd.map nv))) := Same.new hr0
 refine ⟨_, rfl, tl, _, rfl, SqL.of (s1 _ _ ht), ?_⟩
 refine for_enum (xs := us) (fun i σ H' => ∃ (v3 v4 : Option V), σ = [some (.ref h), some (.ref tl), some (.ref r), v3, v4] /\ Same H H' /\ NL H' r (hd ++ joinTo ls i) /\ ∀ j, j < i -> (ls.getD j []).length <= 400) ?_ ?_ ?_ ?_
 . refine ⟨none, none, rfl, s1, ?_, fun j hj => by omega⟩
   show upd H r _ r = _
   rw [Zb]
   show some (HO.lst (hd.map nv)) = some (HO.lst ((hd ++ []).map nv))
   rw [List.append_nil]
 . rintro i σ H' hi ⟨v3, v4, rfl, s2, hr2, hsh⟩
   exact SqL.of (s2 _ _ ht)
 . rintro i x Tp σ H2 hx ⟨v3, v4, rfl, s2, hr2, hsh⟩ hT
   have hi := Zi hx
   obtain ⟨l, hl, hrow⟩ := hus i x hx
   have el : ls.getD i [] = l := by rw [List.getD_eq_getElem?_getD, hl]; rfl
   have s3 : Same H2 (upd H2 Tp (.tup [.int (i : Nat), x])) := Same.new hT
   refine ⟨Tp, _, rfl, SqT.of Zb, rfl, _, _, rfl, _, _, rfl, rfl, ?_⟩
   generalize hH3 : upd H2 Tp (.tup [.int (i : Nat), x]) = H3 at s3 ⊢
   have s23 := s2.trans s3
   refine ⟨_, rfl, _, rfl, ?_⟩
   have hb := join_bound hsh
   by_cases c : l.length <= 400
   . obtain ⟨p, rfl, hp⟩ := (hrow.same s23).short c
     refine ifF (decide_eq_false fun z => nomatch z) ⟨_, rfl, _, rfl, tl, _, rfl, .inl (SqL.of (s23 _ _ ht)), _, _, rfl, rfl, _, _, rfl, rfl, _, rfl, ?_⟩
     have hr3 := hr2.same s3
     have npr : p ≠ r := fun z => by
       have hp0 := hrow.short c
       obtain ⟨p', e', hp'⟩ := hp0
       cases e'
       have hp' : H p = _ := hp'
       rw [z, hr0] at hp'; cases hp'
     have ext : ∀ (H4 : Hp) (zs : List Nat), H4 r = some (.lst ((hd ++ joinTo ls i ++ zs).map nv)) -> zs.length <= 1 -> (zs = if i < ls.length - 1 then [3] else []) -> Same H H4 -> H4 p = some (.lst (l.map nv)) ->
         rExtend (.ref r) [.ref p] H4 fun _ H5 => ∃ (v3 v4 : Option V), [some (.ref h), some (.ref tl), some (.ref r), some (V.int (i : Nat)), some (.ref p)] = [some (.ref h), some (.ref tl), some (.ref r), v3, v4] /\ Same H H5 /\ NL H5 r (hd ++ joinTo ls (i + 1)) /\ ∀ j, j < i + 1 -> (ls.getD j []).length <= 400 := fun H4 zs h4 hz ez s4 hp4 => by
       refine ⟨r, p, _, _, rfl, rfl, h4, hp4, ?_, _, _, rfl, s4.put hr0, ?_, fun j hj => ?_⟩
       . simp only [List.length_map, List.length_append]
         have : i * 401 <= 12 * 401 := Nat.mul_le_mul_right _ (by omega)
         omega
       . show upd H4 r _ r = _
         rw [Zb, WM.Vs, el, <- ez, <- List.map_append, List.append_assoc, List.append_assoc]
       . by_cases q : j < i
         . exact hsh j q
         . have e : j = i := by omega
           subst e; rw [el]; exact c
     by_cases q : i < ls.length - 1
     . refine ifT (decide_eq_true (by rw [hul]; omega)) ⟨_, rfl, .inl ⟨rfl, _, SqL.of hr3⟩, r, _, _, rfl, rfl, hr3, ?_, ?_⟩
       . simp only [List.length_map, List.length_append]
         have : i * 401 <= 12 * 401 := Nat.mul_le_mul_right _ (by omega)
         omega
       . have hrr : upd H3 r (.lst ((hd ++ joinTo ls i).map nv ++ [.int 3])) r = some (.lst ((hd ++ joinTo ls i ++ [3]).map nv)) := by
           rw [Zb, List.map_append (l₂ := [3])]; rfl
         refine ⟨_, rfl, .inl ⟨rfl, _, SqL.of hrr⟩, _, rfl, ext _ [3] hrr (by simp) (by rw [if_pos q]) (s23.put hr0) ?_⟩
         rw [Zl npr]; exact hp
     . refine ifF (decide_eq_false (by rw [hul]; omega)) ⟨_, rfl, .inl ⟨rfl, _, SqL.of hr3⟩, _, rfl, ext H3 [] (by rw [List.append_nil]; exact hr3) (by simp) (by rw [if_neg q]) s23 hp⟩
   . have ev := (hrow.same s23).long c
     subst ev
     refine ifT (decide_eq_true rfl) (k H3 .non s23 (Row.none ?_))
     have h1 : (joinTo ls (i + 1)).length <= (joinTo ls ls.length).length := WM.joinTo_len (by omega)
     rw [WM.Vs, List.length_append, List.length_append, el, eall] at h1
     rw [List.length_append]; omega
 . rintro σ H2 ⟨v3, v4, rfl, s2, hr2, hsh⟩
   rw [hul, eall] at hr2
   refine ⟨_, rfl, r, _, rfl, .inl (SqL.of hr2), _, _, rfl, rfl, _, rfl, ?_⟩
   rw [List.length_map]
   by_cases c : (hd ++ Ways.andAll ls).length <= 400
   . exact ifT (decide_eq_true (by omega)) ⟨_, rfl, k H2 (.ref r) s2 (Row.of c hr2)⟩
   . exact ifF (decide_eq_false (by omega)) (k H2 .non s2 (Row.none c))
end
def pk (s t : Nat) : List Key := [.inl (s : Int), .inl (t : Int)]
theorem pk_inj {s t u v : Nat} (h : pk s t = pk u v) : s = u /\ t = v := by
 unfold pk at h
 injection h with h1 h2
 injection h2 with h3 _
 have e1 := Sum.inl.inj h1
 have e2 := Sum.inl.inj h3
 omega
def Fnd (g : Graph) (H : Hp) (kvs : List (List Key × V)) (D : Nat -> Nat -> Option (List Nat)) : Prop := ∀ s t, s < g.size -> t < g.size -> match D s t with
 | some l => ∃ v, valV kvs (pk s t) = some v /\ Row H v l
 | none => valV kvs (pk s t) = none
theorem Fnd.same {g : Graph} {H H' : Hp} {kvs : List (List Key × V)} {D : Nat -> Nat -> Option (List Nat)} (h : Fnd g H kvs D) (s : Same H H') : Fnd g H' kvs D := fun a b ha hb => by
 have := h a b ha hb
 split at this
 . obtain ⟨v, e, r⟩ := this
   exact ⟨v, e, r.same s⟩
 . exact this
theorem Fnd.get {g : Graph} {H : Hp} {kvs : List (List Key × V)} {D : Nat -> Nat -> Option (List Nat)} (h : Fnd g H kvs D) {s t : Nat} {l : List Nat} (hs : s < g.size) (ht : t < g.size) (e : D s t = some l) : ∃ v, valV kvs (pk s t) = some v /\ Row H v l := by
 have := h s t hs ht
 rw [e] at this; exact this
theorem Fnd.no {g : Graph} {H : Hp} {kvs : List (List Key × V)} {D : Nat -> Nat -> Option (List Nat)} (h : Fnd g H kvs D) {s t : Nat} (hs : s < g.size) (ht : t < g.size) (e : D s t = none) : valV kvs (pk s t) = none := by
 have := h s t hs ht
 rw [e] at this; exact this
theorem Fnd.congr {g : Graph} {H : Hp} {kvs : List (List Key × V)} {D D' : Nat -> Nat -> Option (List Nat)} (h : Fnd g H kvs D) (e : ∀ s t, s < g.size -> t < g.size -> D s t = D' s t) : Fnd g H kvs D' := fun s t hs ht => by
 have := h s t hs ht
 rw [e s t hs ht] at this; exact this
theorem Row.upd {H : Hp} {d : Addr} {kvs : List (List Key × V)} {o : HO} {v : V} {l : List Nat} (h : Row H v l) (hd : H d = some (.dT kvs)) : Row (upd H d o) v l := by
 unfold Row at h ⊢
 split
 . rename_i c
   rw [if_pos c] at h
   obtain ⟨p, e, hp⟩ := h
   refine ⟨p, e, ?_⟩
   show L2.upd H d o p = _
   rw [Zl (Xj hp hd (by intro z; cases z))]; exact hp
 . rename_i c
   rw [if_neg c] at h; exact h
theorem Fnd.put {g : Graph} {H : Hp} {d : Addr} {kvs : List (List Key × V)} {D : Nat -> Nat -> Option (List Nat)} {s t : Nat} {v : V} {l : List Nat} {o : HO} (h : Fnd g H kvs D) (hd : H d = some (.dT kvs)) (hv : Row H v l) : Fnd g (upd H d o) (putK kvs (pk s t) v) fun a b => if a = s /\ b = t then some l else D a b := fun a b ha hb => by
 dsimp only
 by_cases q : a = s /\ b = t
 . rw [if_pos q]
   obtain ⟨rfl, rfl⟩ := q
   exact ⟨v, by rw [valV_put, if_pos rfl], hv.upd hd⟩
 . rw [if_neg q]
   have e : valV (putK kvs (pk s t) v) (pk a b) = valV kvs (pk a b) := by
     rw [valV_put, if_neg fun z => q (pk_inj z)]
   have := h a b ha hb
   split
   . rename_i m hm
     rw [hm] at this
     obtain ⟨x, e1, r⟩ := this
     exact ⟨x, by rw [e]; exact e1, r.upd hd⟩
   . rename_i hm
     rw [hm] at this
     rw [e]; exact this
theorem Qm {H : Hp} {b : Addr} {s t : Nat} (h : H b = some (.tup [nv s, nv t])) : H b = some (.tup ((pk s t).map kV)) := h
section
variable {P : Program} {w : World} {K : PySem.W.Frag} {mg : Str -> Option Value} {base : Heap}
def spToldNext : Sp := fun vs H Q _ => ∃ (o c d pr : Addr) (g : Graph) (n s t : Nat) (kvs : List (List Key × V)), vs = [.ref o, .ref c, .ref d, .ref pr] /\ WF g /\ LL H o (g.all.map g.on) /\ NL H c (g.parted n) /\ H d = some (.dT kvs) /\ H pr = some (.tup [nv s, nv t]) /\ s < g.size /\ t < g.size /\ cls g n s = cls g n t /\ cls g (n + 1) s ≠ cls g (n + 1) t /\
 (∀ u v, u < g.size -> v < g.size -> cls g n u ≠ cls g n v -> ∃ x, valV kvs (pk u v) = some x /\ Row H x (g.tells n u v)) /\ ∀ (H' : Hp) (x : V), Same H H' -> Row H' x (g.tells (n + 1) s t) -> Q x H'
theorem head_list {l : List Nat} {u : Nat} (h : l.head? = some u) : ∃ r, l = u :: r := by
 cases l with
 | nil => cases h
 | cons a r => cases h; exact ⟨r, rfl⟩
theorem ok_told_by_next {f : Addr} {fd : FuncData} (F : Fun K "told_by_next" "told_by_next" Ui f fd) (T : Txt K mg) (Dthose_beyond : Def P w K mg base "those_beyond" 1 ["states", "others", "classes"] spBeyond) (Dbehind : Def P w K mg base "behind" 1 ["head", "told"] spBehind) :
   FnOk P w K mg base CX0 2 f fd ["onward", "classes", "found", "pair"] spToldNext := by
 refine F.ok sc_told_by_next (fun vs H Q E h => ?_) (fun cdv A outer s H vs Q E hr h => ?_)
 . obtain ⟨_, _, _, _, _, _, _, _, _, rfl, _⟩ := h
   rfl
 obtain ⟨o, c, d, pr, g, n, s, t, kvs, rfl, wf, ho, hc, hd, hp, hs, ht, h0, h1, hf, k⟩ := h
 refine ⟨_, (Za (Zr (i := 4) sc_told_by_next.nd rfl (.inl rfl) (Zm (Xg K) (pv 3) Zj (fun _ _ => rfl)))
   (Za (Zr (i := 5) sc_told_by_next.nd rfl (.inl rfl) (Zm (Xg K) (pv 3) Zj (fun _ _ => rfl)))
   (Za (Zr (i := 6) sc_told_by_next.nd rfl (.inr rfl) (Zk Dthose_beyond hr.m (pa3 (Zm (Zd K) (pv 0) (pv 4) (fun _ _ => rfl)) (Zm (Zd K) (pv 0) (pv 5) (fun _ _ => rfl)) (pv 1))))
   (Za (Yf (Zq op_gt (Zv (Yl K) rfl T.nlen PySem.boot_len (pa1 (pv 6))) Zj (Zt _)) (Zc (Zg (Zk Dbehind hr.m (pa2 (Zx (pa1 (Zy T.gSOME_NEXT))) (Yu rfl sc_told_by_next.nd (Yg K (Zm (Zd K) (pv 0) (pv 5) (fun _ _ => rfl))) (own := [("v", 7)]) (Ya (by rfl)) (fun _ _ _ _ _ => Zp (i := 7) sc_told_by_next.nd rfl (.inl rfl)) (fun _ _ _ _ _ => Yn) (fun _ _ _ _ _ => (pe_dget hr.u1 (pv 2) (pe_tup (pa2 (Zm (Zd K) (pv 6) Zj (fun _ _ => rfl)) (pv 7))) (fun _ _ => rfl)))))))) Zo)
   (Za (Zr (i := 6) sc_told_by_next.nd rfl (.inr rfl) (Zk Dthose_beyond hr.m (pa3 (Zm (Zd K) (pv 0) (pv 5) (fun _ _ => rfl)) (Zm (Zd K) (pv 0) (pv 4) (fun _ _ => rfl)) (pv 1))))
   (Zc (Zg (Zk Dbehind hr.m (pa2 (Zx (pa2 (Zy T.gNOT) (Zy T.gSOME_NEXT))) (Yu rfl sc_told_by_next.nd (Yg K (Zm (Zd K) (pv 0) (pv 4) (fun _ _ => rfl))) (own := [("v", 7)]) (Ya (by rfl)) (fun _ _ _ _ _ => Zp (i := 7) sc_told_by_next.nd rfl (.inl rfl)) (fun _ _ _ _ _ => Yn) (fun _ _ _ _ _ => (pe_dget hr.u1 (pv 2) (pe_tup (pa2 (Zm (Zd K) (pv 6) Zj (fun _ _ => rfl)) (pv 7))) (fun _ _ => rfl))))))))))))), ?_⟩
 have h12 := wf.le
 have hpl := WM.Yp (g := g) n
 obtain ⟨as, ha, hn, hin⟩ := ho.at_
 obtain ⟨bs, ebs, hbs⟩ := hin s hs
 obtain ⟨bt, ebt, hbt⟩ := hin t ht
 refine ⟨_, rfl, pr, _, _, _, rfl, rfl, SqT.of hp, Yh (j := 0) rfl rfl, ?_⟩
 refine ⟨_, rfl, pr, _, _, _, rfl, rfl, SqT.of hp, Yh (j := 1) rfl rfl, ?_⟩
 have lt1 : ∀ {x : Nat}, x < g.size -> ∀ y ∈ g.on x, y < (g.parted n).length := fun {x} hx y hy => by rw [hpl]; exact wf.on_lt hx y hy
 refine ⟨_, rfl, _, rfl, o, _, _, _, rfl, rfl, SqL.of ha, Zs (Zh ebs), _, rfl, _, rfl, o, _, _, _, rfl, rfl, SqL.of ha, Zs (Zh ebt), _, rfl, bs, bt, c, g.on s, g.on t, g.parted n, rfl, hbs, hbt, hc, on_len wf hs, on_len wf ht, lt1 hs, lt1 ht, fun H1 p1 s1 hp1 => ?_⟩
 rw [show ((g.on s).filter fun u => !decide ((g.parted n).getD u 0 ∈ (g.on t).map fun v => (g.parted n).getD v 0)) = ((g.on s).filter fun u => !decide ((g.parted n).getD u 0 ∈ (g.on t).map fun v => (g.parted n).getD v 0)) from rfl] at hp1
 have eu := WM.unmatched_filter (g := g) (g.parted n) s t
 generalize hF : ((g.on s).filter fun u => !decide ((g.parted n).getD u 0 ∈ (g.on t).map fun v => (g.parted n).getD v 0)) = only at hp1 eu
 refine ⟨_, rfl, p1, _, rfl, .inl (SqL.of hp1), _, _, rfl, rfl, _, rfl, ?_⟩
 rw [List.length_map]
 cases hu : g.unmatched (g.parted n) s t with
 | some u =>
   rw [hu] at eu
   obtain ⟨r, er⟩ := head_list eu.symm
   obtain ⟨um, ud⟩ := WM.unmatched_some hu
   have hul := wf.on_lt hs u um
   subst er
   refine ifT (decide_eq_true (by simp only [List.length_cons]; omega)) ⟨le1, fun ph hph => ?_⟩
   have s2 : Same H1 (upd H1 ph (.lst [.int 5])) := Same.new hph
   have s12 := s1.trans s2
   refine ⟨_, rfl, _, rfl, o, _, _, _, rfl, rfl, SqL.of (s12 _ _ ha), Zs (Zh ebt), bt, rfl, ⟨_, SqL.of (hbt.same s12)⟩, fun D hD => ?_⟩
   refine lcL (SqL.of (hbt.same s12)) hD (fun i acc H3 => acc.length = i /\ ∀ (j : Nat) (x : V), acc[j]? = some x -> ∃ v, (g.on t)[j]? = some v /\ Row H3 x (g.tells n u v) /\ valV kvs (pk u v) = some x) ⟨rfl, fun j x hx => by simp at hx⟩ ?_ ?_
   . intro i H3 acc x hx s3 hd3 hl' hg
     obtain ⟨v, hv, rfl⟩ := Zz hx
     have hi := Zi hv
     have hvm := List.mem_of_getElem? hv
     have hvl := wf.on_lt ht v hvm
     obtain ⟨xr, ex, hx2⟩ := hf u v hul hvl (ud v hvm)
     have s13 := s12.trans s3
     have on_t := on_len wf ht
     refine ⟨rfl, _, rfl, _, rfl, p1, _, _, _, rfl, rfl, SqL.of (hp1.same (s2.trans s3)), Yh (j := 0) rfl rfl, _, rfl, le2, fun q hq => ?_⟩
     have s4 : Same H3 (upd H3 q (.tup [nv u, nv v])) := Same.new hq
     refine ⟨d, xr, rfl, ?_, ?_⟩
     . have z := DGet.t (k := pk u v) (s4 _ _ (s13 _ _ hd)) (Qm (Zb (H := H3) (a := q) (o := .tup [nv u, nv v])))
       rw [ex] at z; exact z
     . refine LcOk.push hD s3 hd3 hl' s4 (Zn (m := 100) (by omega)) ⟨by rw [List.length_append, hg.1]; rfl, fun j y hy => ?_⟩
       have keepR : ∀ (z : V) (l : List Nat) (vv : Nat), valV kvs (pk u vv) = some z -> vv < g.size -> cls g n u ≠ cls g n vv -> l = g.tells n u vv -> Row (upd (upd H3 q (.tup [nv u, nv v])) D (.lst (acc ++ [xr]))) z l := fun z l vv hz hvv hcl el => by
         obtain ⟨z2, e2, hz2⟩ := hf u vv hul hvv hcl
         rw [hz] at e2; cases e2
         rw [el]
         exact hz2.same ((s12.trans (s3.trans s4)).put (s12.free hD))
       rcases snoc_get hy with z | ⟨e1, e2⟩
       . obtain ⟨vv, h1, h2, h3⟩ := hg.2 j y z
         exact ⟨vv, h1, keepR y _ vv h3 (wf.on_lt ht vv (List.mem_of_getElem? h1)) (ud vv (List.mem_of_getElem? h1)) rfl, h3⟩
       . subst e2
         rw [e1, hg.1]
         exact ⟨v, hv, keepR y _ v ex hvl (ud v hvm) rfl, ex⟩
   . intro H3 acc s3 hd3 hl' hg
     rw [List.length_map] at hg
     have s23 := s2.trans s3
     refine ⟨ph, D, [5], acc, (g.on t).map fun v => g.tells n u v, rfl, s3 _ _ Zb, by decide, hd3, by rw [List.length_map]; exact hg.1, fun j v hv => ?_, ?_, by rw [List.length_map]; exact on_len wf ht, fun H4 x s4 hx => ?_⟩
     . obtain ⟨vv, e1, e2, _⟩ := hg.2 j v hv
       exact ⟨_, Zh e1, e2⟩
     . intro z
       have := congrArg List.length z
       rw [List.length_map] at this
       exact WM.on_ne g t (List.eq_nil_of_length_eq_zero this)
     . refine k H4 x ((s1.trans s23).trans s4) ?_
       rw [WM.tells_left h0 hu]; exact hx
 | none =>
   rw [hu] at eu
   have eo : only = [] := List.head?_eq_none_iff.mp eu.symm
   subst eo
   obtain ⟨u, hu2⟩ := WM.unmatched_one wf hs ht h0 h1 hu
   have eu2 := WM.unmatched_filter (g := g) (g.parted n) t s
   rw [hu2] at eu2
   obtain ⟨r, er⟩ := head_list eu2.symm
   obtain ⟨um, ud⟩ := WM.unmatched_some hu2
   have hul := wf.on_lt ht u um
   refine ifF (decide_eq_false (by decide)) ?_
   refine ⟨_, rfl, _, rfl, o, _, _, _, rfl, rfl, SqL.of (s1 _ _ ha), Zs (Zh ebt), _, rfl, _, rfl, o, _, _, _, rfl, rfl, SqL.of (s1 _ _ ha), Zs (Zh ebs), _, rfl, bt, bs, c, g.on t, g.on s, g.parted n, rfl, hbt.same s1, hbs.same s1, hc.same s1, on_len wf ht, on_len wf hs, lt1 ht, lt1 hs, fun H1' p2 s1' hp2 => ?_⟩
   rw [er] at hp2
   have s1 := s1.trans s1'
   refine ⟨le2, fun ph hph => ?_⟩
   have s2 : Same H1' (upd H1' ph (.lst [.int 2, .int 5])) := Same.new hph
   have s12 := s1.trans s2
   refine ⟨_, rfl, _, rfl, o, _, _, _, rfl, rfl, SqL.of (s12 _ _ ha), Zs (Zh ebs), bs, rfl, ⟨_, SqL.of (hbs.same s12)⟩, fun D hD => ?_⟩
   refine lcL (SqL.of (hbs.same s12)) hD (fun i acc H3 => acc.length = i /\ ∀ (j : Nat) (x : V), acc[j]? = some x -> ∃ v, (g.on s)[j]? = some v /\ Row H3 x (g.tells n u v) /\ valV kvs (pk u v) = some x) ⟨rfl, fun j x hx => by simp at hx⟩ ?_ ?_
   . intro i H3 acc x hx s3 hd3 hl' hg
     obtain ⟨v, hv, rfl⟩ := Zz hx
     have hi := Zi hv
     have hvm := List.mem_of_getElem? hv
     have hvl := wf.on_lt hs v hvm
     obtain ⟨xr, ex, hx2⟩ := hf u v hul hvl (ud v hvm)
     have s13 := s12.trans s3
     have on_s := on_len wf hs
     refine ⟨rfl, _, rfl, _, rfl, p2, _, _, _, rfl, rfl, SqL.of (hp2.same (s2.trans s3)), Yh (j := 0) rfl rfl, _, rfl, le2, fun q hq => ?_⟩
     have s4 : Same H3 (upd H3 q (.tup [nv u, nv v])) := Same.new hq
     refine ⟨d, xr, rfl, ?_, ?_⟩
     . have z := DGet.t (k := pk u v) (s4 _ _ (s13 _ _ hd)) (Qm (Zb (H := H3) (a := q) (o := .tup [nv u, nv v])))
       rw [ex] at z; exact z
     . refine LcOk.push hD s3 hd3 hl' s4 (Zn (m := 100) (by omega)) ⟨by rw [List.length_append, hg.1]; rfl, fun j y hy => ?_⟩
       have keepR : ∀ (z : V) (l : List Nat) (vv : Nat), valV kvs (pk u vv) = some z -> vv < g.size -> cls g n u ≠ cls g n vv -> l = g.tells n u vv -> Row (upd (upd H3 q (.tup [nv u, nv v])) D (.lst (acc ++ [xr]))) z l := fun z l vv hz hvv hcl el => by
         obtain ⟨z2, e2, hz2⟩ := hf u vv hul hvv hcl
         rw [hz] at e2; cases e2
         rw [el]
         exact hz2.same ((s12.trans (s3.trans s4)).put (s12.free hD))
       rcases snoc_get hy with z | ⟨e1, e2⟩
       . obtain ⟨vv, h1, h2, h3⟩ := hg.2 j y z
         exact ⟨vv, h1, keepR y _ vv h3 (wf.on_lt hs vv (List.mem_of_getElem? h1)) (ud vv (List.mem_of_getElem? h1)) rfl, h3⟩
       . subst e2
         rw [e1, hg.1]
         exact ⟨v, hv, keepR y _ v ex hvl (ud v hvm) rfl, ex⟩
   . intro H3 acc s3 hd3 hl' hg
     rw [List.length_map] at hg
     have s23 := s2.trans s3
     refine ⟨ph, D, [2, 5], acc, (g.on s).map fun v => g.tells n u v, rfl, s3 _ _ Zb, by decide, hd3, by rw [List.length_map]; exact hg.1, fun j v hv => ?_, ?_, by rw [List.length_map]; exact on_len wf hs, fun H4 x s4 hx => ?_⟩
     . obtain ⟨vv, e1, e2, _⟩ := hg.2 j v hv
       exact ⟨_, Zh e1, e2⟩
     . intro z
       have := congrArg List.length z
       rw [List.length_map] at this
       exact WM.on_ne g s (List.eq_nil_of_length_eq_zero this)
     . refine k H4 x ((s1.trans s23).trans s4) ?_
       rw [WM.tells_right h0 hu hu2]; exact hx
def spWhat (CG : Addr) : Sp := fun vs H Q _ => ∃ (ga : Addr) (g : Graph) (s t : Nat), vs = [.ref ga, nv s, nv t] /\ WF g /\ GraphAt CG H ga g /\ s < g.size /\ t < g.size /\ g.alike.getD s 0 ≠ g.alike.getD t 0 /\
 ∀ (H' : Hp) (x : V) (m : Nat), Same H H' -> m + 1 <= g.size -> cls g m s ≠ cls g m t -> Row H' x (g.tells m s t) -> Q x H'
def dAt (g : Graph) (n : Nat) (s t : Nat) : Option (List Nat) := if cls g n s ≠ cls g n t then some (g.tells n s t) else none
def dTo (g : Graph) (n i : Nat) (s t : Nat) : Option (List Nat) := if cls g n s ≠ cls g n t then some (g.tells n s t) else if (s, t) ∈ (pairsOf g.size (g.parted (n + 1))).take i then some (g.tells (n + 1) s t) else none
theorem dTo_zero {g : Graph} {n s t : Nat} : dAt g n s t = dTo g n 0 s t := by
 unfold dAt dTo
 split
 . rfl
 . rw [List.take_zero, if_neg (by simp)]
theorem dTo_all {g : Graph} {n s t : Nat} (hs : s < g.size) (ht : t < g.size) : dTo g n (pairsOf g.size (g.parted (n + 1))).length s t = dAt g (n + 1) s t := by
 unfold dAt dTo
 rw [List.take_length]
 by_cases q : cls g n s ≠ cls g n t
 . have q2 : cls g (n + 1) s ≠ cls g (n + 1) t := fun z => q (WM.cls_refine hs ht z)
   rw [if_pos q, if_pos q2, WM.tells_old q]
 . rw [if_neg q]
   by_cases q2 : cls g (n + 1) s ≠ cls g (n + 1) t
   . rw [if_pos q2, if_pos (WM.pairsOf_mem.mpr ⟨hs, ht, q2⟩)]
   . rw [if_neg q2, if_neg fun z => q2 (WM.pairsOf_mem.mp z).2.2]
def dZero (g : Graph) (i : Nat) (s t : Nat) : Option (List Nat) := if (s, t) ∈ (pairsOf g.size (g.parted 0)).take i then some (g.tells 0 s t) else none
theorem dZero_all {g : Graph} {s t : Nat} (hs : s < g.size) (ht : t < g.size) : dZero g (pairsOf g.size (g.parted 0)).length s t = dAt g 0 s t := by
 unfold dAt dZero
 rw [List.take_length]
 by_cases q : cls g 0 s ≠ cls g 0 t
 . rw [if_pos q, if_pos (WM.pairsOf_mem.mpr ⟨hs, ht, q⟩)]
 . rw [if_neg q, if_neg fun z => q (WM.pairsOf_mem.mp z).2.2]
theorem Xi {α : Type} {l : List α} {i : Nat} {p x : α} (h : l[i]? = some p) : x ∈ l.take (i + 1) ↔ x ∈ l.take i \/ x = p := by
 rw [Yc h, List.mem_append, List.mem_singleton]
theorem ok_what_tells {f CG : Addr} {fd : FuncData} (F : Fun K "what_tells" "what_tells" s_what_tells f fd) (T : Txt K mg) (TG : TxG K mg CG) (Dways_on : Def P w K mg base "ways_on" 1 ["graph"] (Uf CG)) (Drounds_of : Def P w K mg base "rounds_of" 3 ["graph"] (spRounds CG)) (Dparted_pairs : Def P w K mg base "parted_pairs" 1 ["classes"] spPairs)
   (Dtold_by_marks : Def P w K mg base "told_by_marks" 2 ["here", "there"] spMarks) (Dtold_by_next : Def P w K mg base "told_by_next" 2 ["onward", "classes", "found", "pair"] spToldNext) : FnOk P w K mg base CX0 4 f fd ["graph", "s", "t"] (spWhat CG) := by
 refine F.ok sc_what_tells (fun vs H Q E h => ?_) (fun cdv A outer s H vs Q E hr h => ?_)
 . obtain ⟨_, _, _, _, rfl, _⟩ := h
   rfl
 obtain ⟨ga, g, s, t, rfl, wf, hG, hs, ht, hne, k⟩ := h
 refine ⟨_, (Za (Zr (i := 3) sc_what_tells.nd rfl (.inl rfl) (Zk Dways_on hr.m (pa1 (pv 0))))
   (Za (Zr (i := 4) sc_what_tells.nd rfl (.inl rfl) (Zk Drounds_of hr.m (pa1 (pv 0))))
   (Za (Zr (i := 5) sc_what_tells.nd rfl (.inl rfl) pe_dnewT)
   (Za (Xr PassesOwn.never rfl (Yg K (Zk Dparted_pairs hr.m (pa1 (Zm (Zd K) (pv 4) Zj (fun _ _ => rfl))))) (Zp (i := 6) sc_what_tells.nd rfl (.inl rfl)) (Zc (ps_dput hr.u1 (pv 5) (pv 6) (Zk Dtold_by_marks hr.m (pa2 (Zm (Zd K) (Ye K (pv 0)) (Zm (Xg K) (pv 6) Zj (fun _ _ => rfl)) (fun _ _ => rfl)) (Zm (Zd K) (Ye K (pv 0)) (Zm (Xg K) (pv 6) Zj (fun _ _ => rfl)) (fun _ _ => rfl)))) rfl)))
   (Za (Xr PassesOwn.never rfl (pi_range2 rfl T.nrange (pa2 Zj (Zv (Yl K) rfl T.nlen PySem.boot_len (pa1 (pv 4))))) (Zp (i := 7) sc_what_tells.nd rfl (.inl rfl)) (Zc (Xr PassesOwn.never rfl (Yg K (Zk Dparted_pairs hr.m (pa1 (Zm (Zd K) (pv 4) (pv 7) (fun _ _ => rfl))))) (Zp (i := 6) sc_what_tells.nd rfl (.inl rfl)) (Zc (Yf (pt_cmp (pc_dnotin hr.u1 (pv 6) (pv 5))) (Zc (ps_dput hr.u1 (pv 5) (pv 6) (Zk Dtold_by_next hr.m (pa4 (pv 3) (Zm (Zd K) (pv 4) (Xh op_sub (pv 7) Zj) (fun _ _ => rfl)) (pv 5) (pv 6))) rfl)) Zo)))))
   (Zc (Zg (pe_dget hr.u1 (pv 5) (pe_tup (pa2 (pv 1) (pv 2))) (fun _ _ => rfl))))))))), ?_⟩
 have h12 := wf.le
 have hsl : sizeLine = 16777216 := sizeLine_eq
 have hpl : ∀ n, (g.parted n).length = g.size := fun n => WM.Yp n
 refine ⟨_, rfl, ga, g, rfl, wf, hG, fun H1 o s1 ho => ?_⟩
 refine ⟨_, rfl, ga, g, rfl, wf, hG.same s1, fun H2 r m s2 nr hm hpm hr2 => ?_⟩
 obtain ⟨as, hr3, hal, has⟩ := hr2
 rw [List.length_map, List.length_range] at hal
 have rat : ∀ n, n < m + 1 -> ∃ b, as[n]? = some b /\ NL H2 b (g.parted n) := fun n hn => by
   obtain ⟨b, hb⟩ : ∃ b, as[n]? = some b := ⟨_, List.getElem?_eq_getElem (by omega)⟩
   obtain ⟨xs, hxs, hbx⟩ := has n b hb
   rw [List.getElem?_map, List.getElem?_range hn] at hxs
   cases hxs
   exact ⟨b, hb, hbx⟩
 have s02 := s1.trans s2
 intro d hd0
 have s3 : Same H2 (upd H2 d (.dT [])) := Same.new hd0
 obtain ⟨b0, eb0, hb0⟩ := rat 0 (by omega)
 refine ⟨_, rfl, r, _, _, _, rfl, rfl, SqL.of (s3 _ _ hr3), Yh (j := 0) rfl (Zh eb0), b0, g.parted 0, rfl, hb0.same s3, by rw [hpl]; exact h12, fun H3 q s4 nq hq => ?_⟩
 rw [hpl] at hq
 obtain ⟨ps, hq1, hq2, hq3⟩ := hq
 refine ⟨q, rfl, ⟨_, SqL.of hq1⟩, ?_⟩
 have s24 : Same H2 H3 := s3.trans s4
 have pl0 : (pairsOf g.size (g.parted 0)).length <= 144 := by have := pairsOf_len (cs := g.parted 0) (by rw [hpl]; exact h12); rw [hpl] at this; exact this
 have qd : q ≠ d := fun z => by rw [z, Zb] at nq; cases nq
 refine for_list (xs := ps.map V.ref) (fun i σ H' => ∃ (v6 v7 : Option V) (kvs : List (List Key × V)), σ = [some (.ref ga), some (nv s), some (nv t), some (.ref o), some (.ref r), some (.ref d), v6, v7] /\ (∀ b u, H3 b = some u -> b ≠ d -> H' b = some u) /\ Same H2 H' /\ H' d = some (.dT kvs) /\ kvs.length <= i /\ Fnd g H' kvs (dZero g i)) ?_ ?_ ?_ ?_
 . refine ⟨none, none, [], rfl, fun b u hb _ => hb, s24, s4 _ _ Zb, Nat.le_refl _, fun a b ha hb => ?_⟩
   have e : dZero g 0 a b = none := by unfold dZero; rw [List.take_zero, if_neg (by simp)]
   rw [e]; rfl
 . rintro i σ H' hi ⟨v6, v7, kvs, rfl, kp, _⟩
   exact SqL.of (kp _ _ hq1 qd)
 . rintro i x σ H4 hx ⟨v6, v7, kvs, rfl, kp, s5, hd4, hkl, hF⟩
   obtain ⟨b, hb, rfl⟩ := Zz hx
   have hi := Zi hb
   obtain ⟨⟨a, c⟩, hp, hbt⟩ := hq3 i b hb
   have hbd : b ≠ d := fun z => by
     have := s4 _ _ (Zb (H := H2) (a := d) (o := .dT []))
     rw [z, this] at hbt; cases hbt
   have hbt4 := kp _ _ hbt hbd
   obtain ⟨hal', hcl', hac⟩ := WM.pairsOf_mem.mp (List.mem_of_getElem? hp)
   have hmk := fun z => hac ((WM.zero_marks hal' hcl').mpr z)
   obtain ⟨dg, am, at', hg, hmm, hnx⟩ := (hG.same s02).same s5
   have mget : ∀ {y : Nat}, y < g.size -> (g.marks.map nv)[y]? = some (nv (g.mark y)) := fun {y} hy => by
     have : g.marks[y]? = some (g.mark y) := by
       unfold Graph.mark
       exact Xk hy
     exact Zh this
   have mlt : ∀ {y : Nat}, y < g.size -> g.mark y < 256 := fun {y} hy => wf.marks _ (by
     unfold Graph.mark
     exact List.mem_of_getElem? (Xk hy))
   obtain ⟨mm, hm1, hm2, hm3, hm4⟩ := WM.marks_differ (mlt hal') (mlt hcl') hmk
   refine ⟨_, rfl, ga, CG, dg, _, _, rfl, hg, TG.cl, TG.nM, Xc _ _, _, rfl, b, _, _, _, rfl, rfl, SqT.of hbt4, Yh (j := 0) rfl rfl, am, _, _, _, rfl, rfl, SqL.of hmm, Zs (mget hal'), ?_⟩
   refine ⟨_, rfl, ga, CG, dg, _, _, rfl, hg, TG.cl, TG.nM, Xc _ _, _, rfl, b, _, _, _, rfl, rfl, SqT.of hbt4, Yh (j := 1) rfl rfl, am, _, _, _, rfl, rfl, SqL.of hmm, Zs (mget hcl'), ?_⟩
   refine ⟨g.mark a, g.mark c, mm, rfl, hm1, fun H5 p s6 hp5 => ?_⟩
   have etell : g.tells 0 a c = if (g.mark a).testBit mm = true then [1, mm] else [2, 1, mm] := by
     show g.markTells a c = _
     unfold Graph.markTells
     rw [hm1]
   rw [<- etell] at hp5
   have hrow : Row H5 (.ref p) (g.tells 0 a c) := Row.of (by rw [etell]; split <;> simp) hp5
   have hd5 := s6 _ _ hd4
   refine ⟨_, rfl, _, rfl, d, _, rfl, DPut.t (k := pk a c) hd5 (Qm (s6 _ _ hbt4)) (by omega), ?_⟩
   have hlp := Ql kvs (pk a c) (.ref p)
   refine ⟨_, _, putK kvs (pk a c) (.ref p), rfl, fun b' u hb' ne => by rw [Zl ne]; exact s6 _ _ (kp b' u hb' ne), (s5.trans s6).put hd0, Zb, by omega, ?_⟩
   refine Fnd.congr ((hF.same s6).put (s := a) (t := c) hd5 hrow) fun a' c' _ _ => ?_
   unfold dZero
   by_cases q' : a' = a /\ c' = c
   . obtain ⟨rfl, rfl⟩ := q'
     rw [if_pos ⟨rfl, rfl⟩, if_pos ((Xi hp).mpr (.inr rfl))]
   . rw [if_neg q']
     by_cases q2 : (a', c') ∈ (pairsOf g.size (g.parted 0)).take i
     . rw [if_pos q2, if_pos ((Xi hp).mpr (.inl q2))]
     . rw [if_neg q2, if_neg fun z => ((Xi hp).mp z).elim q2 fun e => q' ⟨congrArg Prod.fst e, congrArg Prod.snd e⟩]
 . rintro σ H4 ⟨v6, v7, kvs, rfl, kp, s5, hd4, hkl, hF⟩
   rw [List.length_map, hq2] at hkl hF
   have hF0 : Fnd g H4 kvs (dAt g 0) := hF.congr fun a c ha hc => dZero_all ha hc
   have hz : (as.map V.ref).length = m + 1 := by rw [List.length_map]; exact hal
   refine ⟨_, rfl, r, _, rfl, .inl (SqL.of (s5 _ _ hr3)), _, _, rfl, ⟨by omega, by omega, by omega, by omega⟩, ?_⟩
   have en : ((((as.map V.ref).length : Nat) : Int) - 1).toNat = m := by rw [hz]; omega
   rw [en]
   refine Ud (fun i σ H' => ∃ (v6 v7 : Option V) (kvs : List (List Key × V)), σ = [some (.ref ga), some (nv s), some (nv t), some (.ref o), some (.ref r), some (.ref d), v6, v7] /\ Same H2 H' /\ H' d = some (.dT kvs) /\ kvs.length <= 144 + i * 144 /\ Fnd g H' kvs (dAt g i)) ?_ ?_ ?_
   . exact ⟨v6, v7, kvs, rfl, s5, hd4, by omega, hF0⟩
   . rintro i σ H5 hi ⟨v6, v7, kvs, rfl, s6, hd5, hkl, hF⟩
     have z : (1 : Int) + (i : Int) = ((i + 1 : Nat) : Int) := by omega
     rw [z]
     obtain ⟨b1, eb1, hb1⟩ := rat (i + 1) (by omega)
     obtain ⟨b2, eb2, hb2⟩ := rat i (by omega)
     refine ⟨_, rfl, _, rfl, r, _, _, _, rfl, rfl, SqL.of (s6 _ _ hr3), Zs (Zh eb1), b1, g.parted (i + 1), rfl, hb1.same s6, by rw [hpl]; exact h12, fun H6 q6 s7 nq6 hq6 => ?_⟩
     rw [hpl] at hq6
     obtain ⟨ps6, hq61, hq62, hq63⟩ := hq6
     refine ⟨q6, rfl, ⟨_, SqL.of hq61⟩, ?_⟩
     have pl6 : (pairsOf g.size (g.parted (i + 1))).length <= 144 := by have := pairsOf_len (cs := g.parted (i + 1)) (by rw [hpl]; exact h12); rw [hpl] at this; exact this
     have hd6 := s7 _ _ hd5
     have qd6 : q6 ≠ d := fun z => by rw [z, hd5] at nq6; cases nq6
     have ib : i * 144 <= 12 * 144 := Nat.mul_le_mul_right _ (by omega)
     refine for_list (xs := ps6.map V.ref) (fun j σ H' => ∃ (v6 : Option V) (kvs' : List (List Key × V)), σ = [some (.ref ga), some (nv s), some (nv t), some (.ref o), some (.ref r), some (.ref d), v6, some (nv (i + 1))] /\ (∀ b u, H6 b = some u -> b ≠ d -> H' b = some u) /\ Same H2 H' /\ H' d = some (.dT kvs') /\ kvs'.length <= 144 + i * 144 + j /\ Fnd g H' kvs' (dTo g i j)) ?_ ?_ ?_ ?_
     . exact ⟨v6, kvs, rfl, fun b u hb _ => hb, s6.trans s7, hd6, by omega, (hF.same s7).congr fun a c _ _ => dTo_zero⟩
     . rintro j σ H' hj ⟨v6, kvs', rfl, kp, _⟩
       exact SqL.of (kp _ _ hq61 qd6)
     . rintro j x σ H7 hx ⟨v6, kvs', rfl, kp7, s8, hd7, hkl7, hF7⟩
       obtain ⟨b, hb, rfl⟩ := Zz hx
       have hj := Zi hb
       obtain ⟨⟨a, c⟩, hp, hbt⟩ := hq63 j b hb
       have hbd : b ≠ d := fun z => by rw [z, hd6] at hbt; cases hbt
       have hbt7 := kp7 _ _ hbt hbd
       obtain ⟨hal', hcl', hac⟩ := WM.pairsOf_mem.mp (List.mem_of_getElem? hp)
       have hac : cls g (i + 1) a ≠ cls g (i + 1) c := hac
       by_cases q : cls g i a ≠ cls g i c
       . -- it was found before
         obtain ⟨v, ev, _⟩ := hF7.get hal' hcl' (show dTo g i j a c = some (g.tells i a c) by unfold dTo; rw [if_pos q])
         refine ⟨_, rfl, _, rfl, d, some v, rfl, ?_, _, rfl, ?_⟩
         . have zz := DGet.t (k := pk a c) hd7 (Qm hbt7)
           rw [ev] at zz; exact zz
         . refine ifF rfl ⟨_, kvs', rfl, kp7, s8, hd7, by omega, hF7.congr fun a' c' _ _ => ?_⟩
           unfold dTo
           by_cases q3 : cls g i a' ≠ cls g i c'
           . rw [if_pos q3, if_pos q3]
           . rw [if_neg q3, if_neg q3]
             by_cases q2 : (a', c') ∈ (pairsOf g.size (g.parted (i + 1))).take j
             . rw [if_pos q2, if_pos ((Xi hp).mpr (.inl q2))]
             . rw [if_neg q2, if_neg fun z => ((Xi hp).mp z).elim q2 fun e => by
                 have e1 : a' = a := congrArg Prod.fst e
                 have e2 : c' = c := congrArg Prod.snd e
                 subst e1; subst e2
                 exact q3 q]
       . by_cases q4 : (a, c) ∈ (pairsOf g.size (g.parted (i + 1))).take j
         . obtain ⟨v, ev, _⟩ := hF7.get hal' hcl' (show dTo g i j a c = some (g.tells (i + 1) a c) by unfold dTo; rw [if_neg q, if_pos q4])
           refine ⟨_, rfl, _, rfl, d, some v, rfl, ?_, _, rfl, ?_⟩
           . have zz := DGet.t (k := pk a c) hd7 (Qm hbt7)
             rw [ev] at zz; exact zz
           . refine ifF rfl ⟨_, kvs', rfl, kp7, s8, hd7, by omega, hF7.congr fun a' c' _ _ => ?_⟩
             unfold dTo
             by_cases q3 : cls g i a' ≠ cls g i c'
             . rw [if_pos q3, if_pos q3]
             . rw [if_neg q3, if_neg q3]
               by_cases q2 : (a', c') ∈ (pairsOf g.size (g.parted (i + 1))).take j
               . rw [if_pos q2, if_pos ((Xi hp).mpr (.inl q2))]
               . rw [if_neg q2, if_neg fun z => ((Xi hp).mp z).elim q2 fun e => q2 (by rw [e]; exact q4)]
         . have ev := hF7.no hal' hcl' (show dTo g i j a c = none by unfold dTo; rw [if_neg q, if_neg q4])
           refine ⟨_, rfl, _, rfl, d, none, rfl, ?_, _, rfl, ?_⟩
           . have zz := DGet.t (k := pk a c) hd7 (Qm hbt7)
             rw [ev] at zz; exact zz
           . have q' : cls g i a = cls g i c := Classical.byContradiction fun z => q z
             have zi : ((i + 1 : Nat) : Int) - 1 = (i : Int) := by omega
             refine ifT rfl ⟨_, rfl, _, rfl, _, rfl, _, _, rfl, rfl, ?_⟩
             refine ⟨r, _, _, _, rfl, rfl, SqL.of (s8 _ _ hr3), (by rw [zi]; exact Zs (Zh eb2)), _, rfl, _, rfl, o, b2, d, b, g, i, a, c, kvs', rfl, wf, (ho.same s2).same s8, hb2.same s8, hd7, hbt7, hal', hcl', q', hac, fun u v hu hv huv => ?_, fun H8 x s9 hx8 => ?_⟩
             . exact hF7.get hu hv (show dTo g i j u v = some (g.tells i u v) by unfold dTo; rw [if_pos huv])
             . have hd8 := s9 _ _ hd7
               refine ⟨_, rfl, _, rfl, d, _, rfl, DPut.t (k := pk a c) hd8 (Qm (s9 _ _ hbt7)) (by omega), ?_⟩
               have hlp := Ql kvs' (pk a c) x
               refine ⟨_, putK kvs' (pk a c) x, rfl, fun b' u hb' ne => by rw [Zl ne]; exact s9 _ _ (kp7 b' u hb' ne), (s8.trans s9).put hd0, Zb, by omega, ?_⟩
               refine Fnd.congr ((hF7.same s9).put (s := a) (t := c) hd8 hx8) fun a' c' _ _ => ?_
               by_cases q5 : a' = a /\ c' = c
               . obtain ⟨rfl, rfl⟩ := q5
                 rw [if_pos ⟨rfl, rfl⟩]
                 unfold dTo
                 rw [if_neg q, if_pos ((Xi hp).mpr (.inr rfl))]
               . rw [if_neg q5]
                 unfold dTo
                 by_cases q3 : cls g i a' ≠ cls g i c'
                 . rw [if_pos q3, if_pos q3]
                 . rw [if_neg q3, if_neg q3]
                   by_cases q2 : (a', c') ∈ (pairsOf g.size (g.parted (i + 1))).take j
                   . rw [if_pos q2, if_pos ((Xi hp).mpr (.inl q2))]
                   . rw [if_neg q2, if_neg fun z => ((Xi hp).mp z).elim q2 fun e => q5 ⟨congrArg Prod.fst e, congrArg Prod.snd e⟩]
     . rintro σ H7 ⟨v6, kvs', rfl, kp7, s8, hd7, hkl7, hF7⟩
       rw [List.length_map, hq62] at hkl7 hF7
       refine ⟨v6, _, kvs', rfl, s8, hd7, ?_, hF7.congr fun a c ha hc => dTo_all ha hc⟩
       rw [Nat.add_mul]; omega
   . rintro σ H5 ⟨v6, v7, kvs, rfl, s6, hd5, hkl, hF⟩
     have hcl : cls g m s ≠ cls g m t := by rw [WM.alike_cls wf hpm s, WM.alike_cls wf hpm t]; exact hne
     obtain ⟨v, ev, hrow⟩ := hF.get hs ht (show dAt g m s t = some (g.tells m s t) by unfold dAt; rw [if_pos hcl])
     refine ⟨_, rfl, _, rfl, _, rfl, le2, fun q hq => ⟨d, v, rfl, ?_, ?_⟩⟩
     . have zz := DGet.t (k := pk s t) (Same.new hq _ _ hd5) (Qm (Zb (H := H5) (a := q) (o := .tup [nv s, nv t])))
       rw [ev] at zz; exact zz
     . exact k _ v m ((s02.trans s6).trans (Same.new hq)) hm hcl (hrow.same (Same.new hq))
end
section
variable {P : Program} {w : World} {K : PySem.W.Frag} {mg : Str -> Option Value} {base : Heap}
structure Fit (g : Graph) : Prop where
 le : g.marks.length <= 12
 len : g.next.length = g.marks.length
 few : ∀ xs ∈ g.next, xs.length <= 12
theorem fit_wf {g : Graph} (wf : WF g) : Fit g := ⟨wf.le, wf.len, fun xs hx => by
 have := Qb (wf.srt xs hx) (wf.lt xs hx)
 have := wf.le
 omega⟩
def endsTo (g : Graph) (i : Nat) : List Nat := (List.range i).flatMap fun s => (g.next.getD s []).flatMap fun t => [s, t]
def endsRow (s : Nat) (l : List Nat) : List Nat := l.flatMap fun t => [s, t]
theorem endsRow_len (s : Nat) : ∀ l : List Nat, (endsRow s l).length = 2 * l.length
 | [] => rfl
 | t :: l => by
   have := endsRow_len s l
   unfold endsRow at this ⊢
   rw [List.flatMap_cons, List.length_append, this]
   simp only [List.length_cons, List.length_nil]
   omega
theorem endsTo_succ (g : Graph) (i : Nat) : endsTo g (i + 1) = endsTo g i ++ endsRow i (g.next.getD i []) := by
 unfold endsTo endsRow
 rw [List.range_succ, List.flatMap_append, List.flatMap_cons, List.flatMap_nil, List.append_nil]
theorem endsTo_len {g : Graph} (ft : Fit g) : ∀ i, i <= g.next.length -> (endsTo g i).length <= 24 * i
 | 0, _ => by simp [endsTo]
 | i + 1, h => by
   have ih := endsTo_len ft i (by omega)
   have hm : g.next.getD i [] ∈ g.next := by
     rw [List.getD_eq_getElem?_getD, List.getElem?_eq_getElem (show i < g.next.length by omega)]
     exact List.getElem_mem _
   have := ft.few _ hm
   rw [endsTo_succ, List.length_append, endsRow_len]; omega
def spEnds (CG : Addr) : Sp := fun vs H Q _ => ∃ (ga : Addr) (g : Graph), vs = [.ref ga] /\ Fit g /\ GraphAt CG H ga g /\ ∀ (H' : Hp) (p : Addr), Same H H' -> NL H' p (Ways.edgesOf g) -> (Ways.edgesOf g).length <= 300 -> Q (.ref p) H'
theorem ok_ends_of {f CG : Addr} {fd : FuncData} (F : Fun K "ends_of" "ends_of" s_ends_of f fd) (T : Txt K mg) (TG : TxG K mg CG) : FnOk P w K mg base CX0 1 f fd ["graph"] (spEnds CG) := by
 refine F.ok sc_ends_of (fun vs H Q E h => ?_) (fun cdv A outer s H vs Q E hr h => ?_)
 . obtain ⟨_, _, rfl, _⟩ := h
   rfl
 obtain ⟨ga, g, rfl, ft, ⟨dg, m, t, hg, hm, as, ht, hal, has⟩, k⟩ := h
 refine ⟨_, (Za (Zr (i := 1) sc_ends_of.nd rfl (.inl rfl) (Zx Vc))
   (Za (Xr PassesOwn.never rfl (pi_enumK K rfl T.nenumerate (pa1 (Ye K (pv 0)))) (Qi K (n := 2) rfl (Ys (Zp (i := 2) sc_ends_of.nd rfl (.inl rfl)) (Ys (Zp (i := 3) sc_ends_of.nd rfl (.inl rfl)) Qh))) (Zc (Xr PassesOwn.never rfl (Yg K (pv 3)) (Zp (i := 4) sc_ends_of.nd rfl (.inl rfl)) (Zc (Yt (Uw PySem.F.plainAttrs_list PySem.F.slot_list_extend PySem.F.type_list_extend mt_extend (pv 1) (pa1 (Zx (pa2 (pv 2) (pv 4))))))))))
   (Zc (Zg (pv 1))))), ?_⟩
 have hsl : sizeLine = 16777216 := sizeLine_eq
 have h12 := ft.le
 have hl := ft.len
 have ee : Ways.edgesOf g = endsTo g g.next.length := by
   unfold Ways.edgesOf endsTo Graph.all Graph.size
   rw [hl]
 have hlen := endsTo_len ft g.next.length (Nat.le_refl _)
 refine ⟨Nat.zero_le _, fun r hr0 => ?_⟩
 have s1 : Same H (upd H r (.lst [])) := Same.new hr0
 refine ⟨_, rfl, ga, CG, dg, _, _, rfl, s1 _ _ hg, TG.cl, TG.nT, Xs _ _, t, _, rfl, SqL.of (s1 _ _ ht), ?_⟩
 refine for_enum (xs := as.map V.ref) (fun i σ H' => ∃ (v2 v3 v4 : Option V), σ = [some (.ref ga), some (.ref r), v2, v3, v4] /\ Same H H' /\ NL H' r (endsTo g i)) ?_ ?_ ?_ ?_
 . exact ⟨none, none, none, rfl, s1, Zb⟩
 . rintro i σ H' hi ⟨v2, v3, v4, rfl, s2, hr2⟩
   exact SqL.of (s2 _ _ ht)
 . rintro i x Tp σ H2 hx ⟨v2, v3, v4, rfl, s2, hr2⟩ hT
   obtain ⟨b, hb, rfl⟩ := Zz hx
   have hi := Zi hb
   obtain ⟨xs, hxs, hbx⟩ := has i b hb
   have exs : g.next.getD i [] = xs := by rw [List.getD_eq_getElem?_getD, hxs]; rfl
   have s3 : Same H2 (upd H2 Tp (.tup [.int (i : Nat), .ref b])) := Same.new hT
   refine ⟨Tp, _, rfl, SqT.of Zb, rfl, _, _, rfl, _, _, rfl, rfl, ?_⟩
   generalize hH3 : upd H2 Tp (.tup [.int (i : Nat), .ref b]) = H3 at s3 ⊢
   have s23 := s2.trans s3
   have hbl := endsTo_len ft i (by omega)
   have hfx := ft.few xs (List.mem_of_getElem? hxs)
   refine ⟨_, rfl, b, rfl, ⟨_, SqL.of (hbx.same s23)⟩, ?_⟩
   refine for_list (xs := xs.map nv) (fun j σ H' => ∃ v4 : Option V, σ = [some (.ref ga), some (.ref r), some (nv i), some (.ref b), v4] /\ Same H H' /\ NL H' r (endsTo g i ++ endsRow i (xs.take j))) ?_ ?_ ?_ ?_
   . refine ⟨_, rfl, s23, ?_⟩
     rw [List.take_zero]
     show H3 r = some (.lst ((endsTo g i ++ []).map nv))
     rw [List.append_nil]; exact hr2.same s3
   . rintro j σ H' hj ⟨v4, rfl, s4, hr4⟩
     exact SqL.of (hbx.same s4)
   . rintro j y σ H4 hy ⟨v4, rfl, s4, hr4⟩
     obtain ⟨u, hu, rfl⟩ := Zz hy
     have hj := Zi hu
     refine ⟨_, rfl, .inl ⟨rfl, _, SqL.of hr4⟩, _, rfl, _, rfl, le2, fun q hq => ?_⟩
     have hel := endsRow_len i (xs.take j)
     rw [List.length_take] at hel
     refine ⟨r, q, _, _, rfl, rfl, Same.new hq _ _ hr4, Zb, ?_, ?_⟩
     . simp only [List.length_map, List.length_append, List.length_cons, List.length_nil]
       omega
     . refine ⟨_, rfl, (s4.trans (Same.new hq)).put hr0, ?_⟩
       show upd _ r _ r = _
       rw [Zb, Yc hu]
       unfold endsRow
       rw [List.flatMap_append, List.flatMap_cons, List.flatMap_nil, List.append_nil, <- List.append_assoc, List.map_append (l₂ := [i, u])]; rfl
   . rintro σ H4 ⟨v4, rfl, s4, hr4⟩
     rw [List.length_map, List.take_length] at hr4
     refine ⟨_, _, v4, rfl, s4, ?_⟩
     rw [endsTo_succ, exs]; exact hr4
 . rintro σ H2 ⟨v2, v3, v4, rfl, s2, hr2⟩
   rw [List.length_map, hal, <- ee] at hr2
   rw [<- ee] at hlen
   exact ⟨_, rfl, k H2 r s2 hr2 (by omega)⟩
def spTold (CG : Addr) : Sp := fun vs H Q _ => ∃ (ga : Addr) (g : Graph), vs = [.ref ga] /\ Fit g /\ GraphAt CG H ga g /\ ∀ (H' : Hp) (p : Addr), Same H H' -> H p = none -> AL H' p (sh (Ways.tellAll g)) -> Q (.ref p) H'
theorem sh_tell (g : Graph) : sh (Ways.tellAll g) = (g.marks.length : Int) :: (g.marks.length : Int) :: (g.marks.map fun n : Nat => (n : Int)) ++ ((Ways.edgesOf g).length : Int) :: (Ways.edgesOf g).map fun n : Nat => (n : Int) := by
 show ((g.size : Nat) : Int) :: ([g.marks, Ways.edgesOf g].flatMap _) = _
 rw [List.flatMap_cons, List.flatMap_cons, List.flatMap_nil, List.append_nil]; rfl
theorem ok_told_graph {f CG : Addr} {fd : FuncData} (F : Fun K "told_graph" "told_graph" s_told_graph f fd) (T : Txt K mg) (TG : TxG K mg CG) (Dwith_length : Def P w K mg base "with_length" 1 ["row"] spWithLen) (Dends_of : Def P w K mg base "ends_of" 1 ["graph"] (spEnds CG)) : FnOk P w K mg base CX0 2 f fd ["graph"] (spTold CG) := by
 refine F.ok sc_told_graph (fun vs H Q E h => ?_) (fun cdv A outer s H vs Q E hr h => ?_)
 . obtain ⟨_, _, rfl, _⟩ := h
   rfl
 obtain ⟨ga, g, rfl, ft, hG, k⟩ := h
 refine ⟨_, (Zc (Zg (Xh op_cat (Xh op_cat (Zx (pa1 (Zv (Yl K) rfl T.nlen PySem.boot_len (pa1 (Ye K (pv 0)))))) (Zk Dwith_length hr.m (pa1 (Ye K (pv 0))))) (Zk Dwith_length hr.m (pa1 (Zk Dends_of hr.m (pa1 (pv 0)))))))), ?_⟩
 have hsl : sizeLine = 16777216 := sizeLine_eq
 have h12 := ft.le
 obtain ⟨dg, m, t, hg, hm, hn⟩ := id hG
 have lm : (g.marks.map nv).length = g.marks.length := List.length_map _
 refine ⟨_, rfl, ga, CG, dg, _, _, rfl, hg, TG.cl, TG.nM, Xc _ _, m, _, rfl, .inl (SqL.of hm), le1, fun p1 hp1 => ?_⟩
 have s1 := Same.new (o := .lst [.int ((g.marks.map nv).length : Int)]) hp1
 refine ⟨_, rfl, ga, CG, dg, _, _, rfl, s1 _ _ hg, TG.cl, TG.nM, Xc _ _, m, _, rfl, s1 _ _ hm, by omega, fun H2 p2 s2 hp2 => ?_⟩
 refine ⟨p1, p2, _, _, rfl, rfl, s2 _ _ Zb, hp2, ?_, fun p3 hp3 => ?_⟩
 . simp; omega
 have s13 := (s1.trans s2).trans (Same.new (o := .lst ([.int ((g.marks.map nv).length : Int)] ++ .int ((g.marks.map nv).length : Int) :: g.marks.map nv)) hp3)
 refine ⟨_, rfl, ga, g, rfl, ft, hG.same s13, fun H4 pe s4 hpe hle => ?_⟩
 refine ⟨pe, _, rfl, hpe, by rw [List.length_map]; omega, fun H5 p5 s5 hp5 => ?_⟩
 have le : ((Ways.edgesOf g).map nv).length = (Ways.edgesOf g).length := List.length_map _
 refine ⟨p3, p5, _, _, rfl, rfl, s5 _ _ (s4 _ _ Zb), hp5, ?_, fun p6 hp6 => ?_⟩
 . simp; omega
 . refine k _ p6 (((s13.trans s4).trans s5).trans (Same.new hp6)) (((s13.trans s4).trans s5).free hp6) ?_
   show upd _ p6 _ p6 = _
   rw [Zb, sh_tell, lm, le, Vn, Vn]
   simp
def spFew (CG : Addr) : Sp := fun vs H Q _ => ∃ (ga pl : Addr) (s : Nat) (g : Graph) (R : List (Nat × Nat)) (x : Form), vs = [.ref ga, nv s, .ref pl] /\ WF g /\ GraphAt CG H ga g /\ s < g.size /\ PL H pl R /\ R.length <= 64 /\ WM.Vx R x /\
 ∀ H' : Hp, Same H H' -> Q (.int (stepsTo g (g.holds .yes) (g.holds x) g.size s)) H'
theorem ok_fewest_steps {f CG : Addr} {fd : FuncData} (F : Fun K "fewest_steps" "fewest_steps" Uo f fd) (T : Txt K mg) (Dways_on : Def P w K mg base "ways_on" 1 ["graph"] (Uf CG)) (Dsteps_to : Def P w K mg base "steps_to" 2 ["onward", "before", "goal"] spSteps) (Deverywhere : Def P w K mg base "everywhere" 1 ["states"] Xx)
   (Dwhere_each_holds : Def P w K mg base "where_each_holds" 6 ["graph", "parts"] (spEach CG)) : FnOk P w K mg base CX0 7 f fd ["graph", "s", "parts"] (spFew CG) := by
 refine F.ok sc_fewest_steps (fun vs H Q E h => ?_) (fun cdv A outer s H vs Q E hr h => ?_)
 . obtain ⟨_, _, _, _, _, _, rfl, _⟩ := h
   rfl
 obtain ⟨ga, pl, s, g, R, x, rfl, wf, hG, hs, hP, h64, htl, k⟩ := h
 refine ⟨_, (Za (Zr (i := 3) sc_fewest_steps.nd rfl (.inl rfl) (Zk Dways_on hr.m (pa1 (pv 0))))
   (Zc (Zg (Zm (Zd K) (Zk Dsteps_to hr.m (pa3 (pv 3) (Zk Deverywhere hr.m (pa1 (pv 3))) (Zm (Zd K) (Zk Dwhere_each_holds hr.m (pa2 (pv 0) (pv 2))) Zj (fun _ _ => rfl)))) (pv 1) (fun _ _ => rfl))))), ?_⟩
 have h12 := wf.le
 refine ⟨_, rfl, ga, g, rfl, wf, hG, fun H1 o s1 ho => ?_⟩
 obtain ⟨as, ha, hn, hin⟩ := ho.at_
 have fld : (as.map V.ref).length = g.size := by rw [List.length_map]; exact hn
 refine ⟨_, rfl, _, rfl, o, _, rfl, ha, by omega, fun H2 pe s2 hpe => ?_⟩
 rw [map_yes fld] at hpe
 refine ⟨_, rfl, _, rfl, ga, pl, g, R, 1, rfl, wf, (hG.same s1).same s2, (hP.same s1).same s2, h64, htl.ok, htl.fit 0, fun H3 bl s3 hbl => ?_⟩
 rw [htl.run g []] at hbl
 obtain ⟨xs, hx, hxl, hxs⟩ := hbl
 obtain ⟨x0, hx0, hb0⟩ := BB.at_ (H := H3) (a := bl) hxl hxs (j := 0) (by simp)
 have hb0 : BL H3 x0 (g.holds x) := hb0
 refine ⟨bl, _, _, _, rfl, rfl, SqL.of hx, Yh (j := 0) rfl (Zh hx0), o, pe, x0, g, g.holds .yes, g.holds x, rfl, wf, (ho.same s2).same s3, hpe.same s3, hb0, WM.Yj g .yes, WM.Yj g x, fun H4 q s4 hq => ?_⟩
 refine ⟨_, rfl, q, _, _, _, rfl, rfl, SqL.of hq, Zs (Zh (Xv hs)), k H4 (((s1.trans s2).trans s3).trans s4)⟩
def spFar (CG : Addr) : Sp := fun vs H Q _ => ∃ (ga fa : Addr) (g : Graph) (a : Nat) (l : List Nat), vs = [.ref ga, nv a, .ref fa] /\ WF g /\ GraphAt CG H ga g /\ NL H fa l /\
 ∀ (H' : Hp) (p : Addr), Same H H' -> H p = none -> AL H' p (sh (Ways.step (some g) (.far a l)).2) -> Q (.ref p) H'
theorem ok_answer_far {f CG : Addr} {fd : FuncData} (F : Fun K "answer_far" "answer_far" s_answer_far f fd) (T : Txt K mg) (Dhas_state : Def P w K mg base "has_state" 1 ["graph", "s"] (Ug CG)) (Dparts_of : Def P w K mg base "parts_of" 2 ["numbers"] spPartsOf) (Dfewest_steps : Def P w K mg base "fewest_steps" 7 ["graph", "s", "parts"] (spFew CG)) :
   FnOk P w K mg base CX0 8 f fd ["graph", "s", "formula"] (spFar CG) := by
 refine F.ok sc_answer_far (fun vs H Q E h => ?_) (fun cdv A outer s H vs Q E hr h => ?_)
 . obtain ⟨_, _, _, _, _, rfl, _⟩ := h
   rfl
 obtain ⟨ga, fa, g, a, l, rfl, wf, hG, hl, k⟩ := h
 refine ⟨_, (Za (Yf (Vl (Yw (Zk Dhas_state hr.m (pa2 (pv 0) (pv 1))))) (Zc (Zg (Zx (pa1 (Zy T.gNO_STATE))))) Zo)
   (Za (Zr (i := 3) sc_answer_far.nd rfl (.inl rfl) (Zk Dparts_of hr.m (pa1 (pv 2))))
   (Za (Yf (pt_cmp (pc_isN (pv 3))) (Zc (Zg (Zx (pa1 (Zy T.gWRONG))))) Zo)
   (Za (Zr (i := 4) sc_answer_far.nd rfl (.inl rfl) (Zk Dfewest_steps hr.m (pa3 (pv 0) (pv 1) (pv 3))))
   (Zc (Zg (Vr (Zq Yr (pv 4) (Zy T.gNOT_REACHED) (Zt _)) (Zx (pa1 (Zy T.gNOT_SO))) (Zx (pa1 (pv 4)))))))))), ?_⟩
 have est : (Ways.step (some g) (.far a l)).2 = if g.size <= a then Ways.says (-4) else Ways.ofForm l fun x => match g.far (g.holds .yes) (g.holds x) a with | none => Ways.says (-5) | some n => Ways.says (n : Nat) := by
   show (if g.size <= a then _ else _ : Ways.State × Ways.Answer).2 = _
   by_cases q : g.size <= a
   . rw [if_pos q, if_pos q]
   . rw [if_neg q, if_neg q]; rfl
 rw [est] at k
 have out : ∀ (H1 : Hp) (x : Int), Same H H1 -> (∀ (H' : Hp) (p : Addr), Same H H' -> H p = none -> AL H' p (sh (Ways.says x)) -> Q (.ref p) H') -> ∀ p, H1 p = none -> Q (.ref p) (upd H1 p (.lst [.int x])) := fun H1 x s1 kk p hp => kk _ p (s1.trans (Same.new hp)) (s1.free hp) Zb
 refine ⟨_, rfl, _, rfl, ga, g, a, rfl, hG, _, rfl, ?_⟩
 by_cases q1 : a < g.size
 . rw [if_neg (by omega)] at k
   refine ifF (by rw [decide_eq_true q1]; rfl) ⟨_, rfl, fa, l, rfl, hl, fun hN H1 s1 => ?_, fun R h64 hR r64 H1 pl s1 hP => ?_⟩
   . rw [ofForm_none hN] at k
     exact ⟨_, rfl, _, rfl, ifT (by decide) ⟨le1, out H1 (-1) s1 k⟩⟩
   . obtain ⟨x, ht, ex⟩ := ofForm_some (f := fun x => match g.far (g.holds .yes) (g.holds x) a with | none => Ways.says (-5) | some n => Ways.says (n : Nat)) h64 hR
     rw [ex] at k
     refine ⟨_, rfl, _, rfl, ifF (decide_eq_false (fun z => nomatch z)) ⟨_, rfl, _, rfl, _, rfl, ga, pl, a, g, R, x, rfl, wf, hG.same s1, q1, hP, r64, ht, fun H2 s2 => ?_⟩⟩
     refine ⟨_, rfl, rfl, _, rfl, ?_⟩
     rw [dec_int']
     cases qf : g.far (g.holds .yes) (g.holds x) a with
     | none =>
       rw [qf] at k
       have e := WM.far_none.mp qf
       rw [e]
       exact ifT rfl ⟨le1, out H2 (-5) (s1.trans s2) k⟩
     | some n =>
       rw [qf] at k
       have e := WM.far_nat.mp qf
       rw [e]
       exact ifF (decide_eq_false (by omega)) ⟨_, rfl, le1, out H2 (n : Int) (s1.trans s2) k⟩
 . rw [if_pos (by omega)] at k
   exact ifT (by rw [decide_eq_false q1]; rfl) ⟨le1, out H (-4) (Same.refl _) k⟩
def spAlike (CG : Addr) : Sp := fun vs H Q _ => ∃ (ga : Addr) (g : Graph), vs = [.ref ga] /\ WF g /\ GraphAt CG H ga g /\ ∀ (H' : Hp) (p : Addr), Same H H' -> H p = none -> AL H' p (sh ⟨(g.classes.length : Nat), [g.alike]⟩) -> Q (.ref p) H'
theorem ok_answer_alike {f CG : Addr} {fd : FuncData} (F : Fun K "answer_alike" "answer_alike" Uv f fd) (T : Txt K mg) (Dclasses_of : Def P w K mg base "classes_of" 4 ["graph"] (spClasses CG)) (Dwith_length : Def P w K mg base "with_length" 1 ["row"] spWithLen) : FnOk P w K mg base CX0 5 f fd ["graph"] (spAlike CG) := by
 refine F.ok sc_answer_alike (fun vs H Q E h => ?_) (fun cdv A outer s H vs Q E hr h => ?_)
 . obtain ⟨_, _, rfl, _⟩ := h
   rfl
 obtain ⟨ga, g, rfl, wf, hG, k⟩ := h
 refine ⟨_, (Za (Zr (i := 1) sc_answer_alike.nd rfl (.inl rfl) (Zk Dclasses_of hr.m (pa1 (pv 0))))
   (Zc (Zg (Xh op_cat (Zx (pa1 (Zv (cr_lenW w) rfl T.nlen PySem.boot_len (pa1 (pe_callTy (cr_setW w K rfl) rfl T.nset bootSet (pa1 (pv 1))))))) (Zk Dwith_length hr.m (pa1 (pv 1))))))), ?_⟩
 have hsl : sizeLine = 16777216 := sizeLine_eq
 have h12 := wf.le
 have hlen := WM.Uc (g := g)
 have hlt : ∀ x ∈ g.alike, x < g.size := fun x hx => parted_lt (n := g.size) hx
 refine ⟨_, rfl, ga, g, rfl, wf, hG, fun H1 c s1 hc => ?_⟩
 have hc2 : H1 c = some (.lst ((g.alike.map fun n : Nat => (n : Int)).map V.int)) := by rw [hc, Vn]
 refine ⟨_, rfl, c, _, rfl, SqL.of hc2, by rw [List.length_map]; omega, fun p hp => ?_⟩
 refine ⟨p, _, rfl, Zb, le1, fun p1 hp1 => ?_⟩
 rw [met_count hlt, WM.classes_rising]
 have s2 := same_setO (u := .lst [.int ((g.classes.length : Nat) : Int)]) hp hp1
 have lm : (g.alike.map nv).length = g.alike.length := List.length_map _
 refine ⟨_, rfl, c, _, rfl, s2 _ _ hc, by omega, fun H3 p2 s3 hp2 => ?_⟩
 refine ⟨p1, p2, _, _, rfl, rfl, s3 _ _ Zb, hp2, ?_, fun p3 hp3 => ?_⟩
 . simp; omega
 . refine k _ p3 (((s1.trans s2).trans s3).trans (Same.new hp3)) (((s1.trans s2).trans s3).free hp3) ?_
   show upd _ p3 _ p3 = _
   rw [Zb, lm, Vn]
   show some (HO.lst ([V.int ((g.classes.length : Nat) : Int)] ++ V.int ((g.alike.length : Nat) : Int) :: (g.alike.map fun n : Nat => (n : Int)).map V.int)) = some (HO.lst ((((g.classes.length : Nat) : Int) :: ([g.alike].flatMap _)).map V.int))
   rw [List.flatMap_cons, List.flatMap_nil, List.append_nil]; rfl
def spTells (CG : Addr) : Sp := fun vs H Q _ => ∃ (ga : Addr) (g : Graph) (a b : Nat), vs = [.ref ga, nv a, nv b] /\ WF g /\ GraphAt CG H ga g /\ ∀ (H' : Hp) (p : Addr), Same H H' -> H p = none -> AL H' p (sh (Ways.step (some g) (.tells a b)).2) -> Q (.ref p) H'
theorem ok_answer_tells {f CG : Addr} {fd : FuncData} (F : Fun K "answer_tells" "answer_tells" Ur f fd) (T : Txt K mg) (Dhas_states : Def P w K mg base "has_states" 2 ["graph", "s", "t"] (Qc CG)) (Dclasses_of : Def P w K mg base "classes_of" 4 ["graph"] (spClasses CG)) (Dwhat_tells : Def P w K mg base "what_tells" 4 ["graph", "s", "t"] (spWhat CG))
   (Dcounted : Def P w K mg base "counted" 2 ["row"] spCounted) : FnOk P w K mg base CX0 5 f fd ["graph", "s", "t"] (spTells CG) := by
 refine F.ok sc_answer_tells (fun vs H Q E h => ?_) (fun cdv A outer s H vs Q E hr h => ?_)
 . obtain ⟨_, _, _, _, rfl, _⟩ := h
   rfl
 obtain ⟨ga, g, a, b, rfl, wf, hG, k⟩ := h
 refine ⟨_, (Za (Yf (Vl (Yw (Zk Dhas_states hr.m (pa3 (pv 0) (pv 1) (pv 2))))) (Zc (Zg (Zx (pa1 (Zy T.gNO_STATE))))) Zo)
   (Za (Zr (i := 3) sc_answer_tells.nd rfl (.inl rfl) (Zk Dclasses_of hr.m (pa1 (pv 0))))
   (Za (Yf (Zq Yr (Zm (Zd K) (pv 3) (pv 1) (fun _ _ => rfl)) (Zm (Zd K) (pv 3) (pv 2) (fun _ _ => rfl)) (Zt _)) (Zc (Zg (Zx (pa1 (Zy T.gNOT_SO))))) Zo)
   (Za (Zr (i := 4) sc_answer_tells.nd rfl (.inl rfl) (Zk Dwhat_tells hr.m (pa3 (pv 0) (pv 1) (pv 2))))
   (Zc (Zg (Vr (pt_cmp (pc_isN (pv 4))) (Zx (pa1 (Zy T.gTOO_LONG))) (Zk Dcounted hr.m (pa1 (pv 4)))))))))), ?_⟩
 have h12 := wf.le
 have hlen := WM.Uc (g := g)
 have est : (Ways.step (some g) (.tells a b)).2 = if g.size <= a \/ g.size <= b then Ways.says (-4) else match g.partedIn a b with | none => Ways.says (-5) | some n => if Ways.TOLD < ((g.lengths n).getD a []).getD b 0 then Ways.says (-6) else Ways.lists (g.tells n a b) := by
   show (if g.size <= a then _ else if g.size <= b then _ else _ : Ways.State × Ways.Answer).2 = _
   by_cases q : g.size <= a
   . rw [if_pos q, if_pos (.inl q)]
   . by_cases q2 : g.size <= b
     . rw [if_neg q, if_pos q2, if_pos (.inr q2)]
     . rw [if_neg q, if_neg q2, if_neg (by rintro (z | z) <;> omega)]; rfl
 rw [est] at k
 have out : ∀ (H1 : Hp) (x : Int), Same H H1 -> (∀ (H' : Hp) (p : Addr), Same H H' -> H p = none -> AL H' p (sh (Ways.says x)) -> Q (.ref p) H') -> ∀ p, H1 p = none -> Q (.ref p) (upd H1 p (.lst [.int x])) := fun H1 x s1 kk p hp => kk _ p (s1.trans (Same.new hp)) (s1.free hp) Zb
 refine ⟨_, rfl, _, rfl, _, rfl, ga, g, a, b, rfl, hG, _, rfl, ?_⟩
 by_cases q : a < g.size /\ b < g.size
 . obtain ⟨q1, q2⟩ := q
   rw [if_neg (by rintro (z | z) <;> omega)] at k
   refine ifF (by rw [decide_eq_true (And.intro q1 q2)]; rfl) ⟨_, rfl, ga, g, rfl, wf, hG, fun H1 c s1 hc => ?_⟩
   refine ⟨_, rfl, _, rfl, c, _, _, _, rfl, rfl, SqL.of hc, Zs (Zh (Xk (by omega))), _, rfl, _, rfl, c, _, _, _, rfl, rfl, SqL.of hc, Zs (Zh (Xk (by omega))), rfl, _, rfl, ?_⟩
   rw [dec_nv]
   by_cases q3 : g.alike.getD a 0 = g.alike.getD b 0
   . have en : g.partedIn a b = none := by
       cases e : g.partedIn a b with
       | none => rfl
       | some n =>
         obtain ⟨h1, h2, _⟩ := WM.partedIn_some e
         exact absurd (WM.cls_refines q1 q2 h1 q3) h2
     rw [en] at k
     exact ifT (decide_eq_true q3) ⟨le1, out H1 (-5) s1 k⟩
   . refine ifF (decide_eq_false q3) ⟨_, rfl, _, rfl, _, rfl, ga, g, a, b, rfl, wf, hG.same s1, q1, q2, q3, fun H2 x m s2 hm hcl hrow => ?_⟩
     obtain ⟨n, en⟩ : ∃ n, g.partedIn a b = some n := by
       cases e : g.partedIn a b with
       | some n => exact ⟨n, rfl⟩
       | none => exact absurd (WM.partedIn_none e m (by omega)) hcl
     obtain ⟨h1, h2, h3⟩ := WM.partedIn_some en
     have hnm : n <= m := by
       rcases Nat.lt_or_ge m n with z | z
       . exact absurd (h3 m z) hcl
       . exact z
     have et : g.tells m a b = g.tells n a b := by
       have := WM.tells_past q1 q2 h2 (m - n)
       rw [show n + (m - n) = m by omega] at this; exact this
     have el : ((g.lengths n).getD a []).getD b 0 = (g.tells n a b).length := WM.lengths_eq wf n a b q1 q2
     rw [en] at k
     have k : ∀ (H' : Hp) (p : Addr), Same H H' -> H p = none -> AL H' p (sh (if Ways.TOLD < ((g.lengths n).getD a []).getD b 0 then Ways.says (-6) else Ways.lists (g.tells n a b))) -> Q (.ref p) H' := k
     rw [el] at k
     rw [et] at hrow
     refine ⟨_, rfl, _, rfl, ?_⟩
     by_cases c4 : (g.tells n a b).length <= 400
     . obtain ⟨p, rfl, hp⟩ := hrow.short c4
       rw [if_neg (show ¬ Ways.TOLD < (g.tells n a b).length from Nat.not_lt.mpr c4), sh_lists] at k
       have hnl : ((g.tells n a b).map nv).length = (g.tells n a b).length := List.length_map _
       refine ifF (decide_eq_false fun z => nomatch z) ⟨_, rfl, p, _, rfl, hp, by omega, fun H3 p3 s3 np3 hp3 => ?_⟩
       refine k H3 p3 ((s1.trans s2).trans s3) ((s1.trans s2).free np3) ?_
       show H3 p3 = _
       rw [hp3, hnl, Vn]; rfl
     . have ev := hrow.long c4
       subst ev
       rw [if_pos (show Ways.TOLD < (g.tells n a b).length from Nat.lt_of_not_le c4)] at k
       exact ifT (decide_eq_true rfl) ⟨le1, out H2 (-6) (s1.trans s2) k⟩
 . rw [if_pos (by omega)] at k
   exact ifT (by rw [decide_eq_false q]; rfl) ⟨le1, out H (-4) (Same.refl _) k⟩
def spSmall (CG : Addr) : Sp := fun vs H Q _ => ∃ (ga : Addr) (g : Graph), vs = [.ref ga] /\ WF g /\ GraphAt CG H ga g /\ ∀ (H' : Hp) (p : Addr), Same H H' -> GraphAt CG H' p g.small -> Q (.ref p) H'
theorem fit_small {g : Graph} (wf : WF g) : Fit g.small := by
 have h12 := wf.le
 have hc := WM.classes_le (g := g)
 refine ⟨?_, ?_, fun xs hx => ?_⟩
 . show (g.classes.map g.mark).length <= 12
   rw [List.length_map]; omega
 . show (g.classes.map _).length = (g.classes.map g.mark).length
   rw [List.length_map, List.length_map]
 . obtain ⟨s, _, rfl⟩ := List.mem_map.mp hx
   unfold Ways.rising
   exact Nat.le_trans (List.length_filter_le _ _) (by rw [List.length_range]; omega)
theorem ok_graph_of_classes {f CG fI : Addr} {fd fdI : FuncData} (F : Fun K "graph_of_classes" "graph_of_classes" Xq f fd) (T : Txt K mg) (TG : TxG K mg CG) (MGraph : Mk K CG fI) (FI : FnOk P w K mg base CX0 1 fI fdI ["self", "marks", "targets"] (spGInit CG)) (bGraph : Binds K fdI ["self", "marks", "targets"] [])
   (Dways_on : Def P w K mg base "ways_on" 1 ["graph"] (Uf CG)) (Dclasses_of : Def P w K mg base "classes_of" 4 ["graph"] (spClasses CG)) (Dclasses_among : Def P w K mg base "classes_among" 1 ["states", "classes"] spAmong) : FnOk P w K mg base CX0 5 f fd ["graph"] (spSmall CG) := by
 refine F.ok sc_graph_of_classes (fun vs H Q E h => ?_) (fun cdv A outer s H vs Q E hr h => ?_)
 . obtain ⟨_, _, rfl, _⟩ := h
   rfl
 obtain ⟨ga, g, rfl, wf, hG, k⟩ := h
 refine ⟨_, (Za (Zr (i := 1) sc_graph_of_classes.nd rfl (.inl rfl) (Zk Dways_on hr.m (pa1 (pv 0))))
   (Za (Zr (i := 2) sc_graph_of_classes.nd rfl (.inl rfl) (Zk Dclasses_of hr.m (pa1 (pv 0))))
   (Za (Zr (i := 3) sc_graph_of_classes.nd rfl (.inr rfl) (Zv (cr_sortedW w rfl) rfl T.nsorted bootSorted (pa1 (pe_callTy (cr_setW w K rfl) rfl T.nset bootSet (pa1 (pv 2))))))
   (Za (Zr (i := 4) sc_graph_of_classes.nd rfl (.inl rfl) (Zx Vc))
   (Za (Xr PassesOwn.never rfl (Yg K (pv 3)) (Zp (i := 5) sc_graph_of_classes.nd rfl (.inl rfl)) (Zc (Yt (Uw PySem.F.plainAttrs_list PySem.F.slot_list_append PySem.F.type_list_append Yy (pv 4) (pa1 (Yu rfl sc_graph_of_classes.nd (Yg K (Zk Dclasses_among hr.m (pa2 (Zm (Zd K) (pv 1) (pv 5) (fun _ _ => rfl)) (pv 2)))) (own := [("least", 6)]) (Ya (by rfl)) (fun _ _ _ _ _ => Zp (i := 6) sc_graph_of_classes.nd rfl (.inl rfl)) (fun _ _ _ _ _ => Yn) (fun _ _ _ _ _ => (pe_bmK K PySem.F.plainAttrs_list PySem.F.slot_list_index PySem.F.type_list_index (mt_indexE K hr.u65) (pv 3) (pa1 (pv 6))))))))))
   (Zc (Zg (pe_make MGraph FI hr.m rfl TG.at_ bGraph .nil pass0 (pa2 (Yu rfl sc_graph_of_classes.nd (Yg K (pv 3)) (own := [("s", 5)]) (Ya (by rfl)) (fun _ _ _ _ _ => Zp (i := 5) sc_graph_of_classes.nd rfl (.inl rfl)) (fun _ _ _ _ _ => Yn) (fun _ _ _ _ _ => (Zm (Zd K) (Ye K (pv 0)) (pv 5) (fun _ _ => rfl)))) (pv 4)))))))))), ?_⟩
 have h12 := wf.le
 have hlen := WM.Uc (g := g)
 have hlt : ∀ x ∈ g.alike, x < g.size := fun x hx => parted_lt (n := g.size) hx
 have hcl := WM.classes_le (g := g)
 refine ⟨_, rfl, ga, g, rfl, wf, hG, fun H1 o s1 ho => ?_⟩
 refine ⟨_, rfl, ga, g, rfl, wf, hG.same s1, fun H2 c s2 hc => ?_⟩
 have hc2 : H2 c = some (.lst ((g.alike.map fun n : Nat => (n : Int)).map V.int)) := by rw [hc, Vn]
 refine ⟨_, rfl, c, _, rfl, SqL.of hc2, by rw [List.length_map]; omega, fun p hp => ?_⟩
 refine ⟨p, _, rfl, Zb, ?_, fun ns' l hpm hso hl0 => ?_⟩
 . have := met_len (g.alike.map fun n : Nat => (n : Int))
   rw [List.length_map] at this; omega
 have e := sorted_met hlt hpm hso
 rw [WM.classes_rising] at e
 subst e
 have s3 := same_setO (u := .lst ((g.classes.map fun n : Nat => (n : Int)).map V.int)) hp hl0
 generalize hH3 : upd (upd H2 p (SetO w p (met (g.alike.map fun n : Nat => (n : Int))))) l (.lst ((g.classes.map fun n : Nat => (n : Int)).map V.int)) = H3 at s3 ⊢
 have hl3 : NL H3 l g.classes := by
   show H3 l = _
   rw [<- hH3, Zb, Vn]
 refine ⟨Nat.zero_le _, fun t ht0 => ?_⟩
 have s4 : Same H3 (upd H3 t (.lst [])) := Same.new ht0
 have s03 := (s1.trans s2).trans s3
 obtain ⟨as, ha, hn, hin⟩ := ho.at_
 refine ⟨_, rfl, l, rfl, ⟨_, SqL.of (hl3.same s4)⟩, ?_⟩
 refine for_list (xs := g.classes.map nv) (fun i σ H' => ∃ (v5 v6 : Option V) (bs : List Addr), σ = [some (.ref ga), some (.ref o), some (.ref c), some (.ref l), some (.ref t), v5, v6] /\ Same H3 H' /\ H' t = some (.lst (bs.map V.ref)) /\ bs.length = i /\ ∀ (j : Nat) (b : Addr), bs[j]? = some b -> NL H' b ((g.goes g.alike (g.classes.getD j 0)).map fun c => g.classes.idxOf c) /\ b ≠ t) ?_ ?_ ?_ ?_
 . exact ⟨none, none, [], rfl, s4, Zb, rfl, fun j b hb => by simp at hb⟩
 . rintro i σ H' hi ⟨v5, v6, bs, rfl, s5, _⟩
   exact SqL.of (hl3.same s5)
 . rintro i x σ H4 hx ⟨v5, v6, bs, rfl, s5, ht4, hbl, hbs⟩
   obtain ⟨s', hs', rfl⟩ := Zz hx
   have hi := Zi hs'
   have hsm := WM.classes_mem.mp (List.mem_of_getElem? hs')
   have es : g.classes.getD i 0 = s' := by rw [List.getD_eq_getElem?_getD, hs']; rfl
   obtain ⟨b, hb, hbx⟩ := hin s' hsm.1
   have s25 : Same H2 H4 := s3.trans s5
   have s15 : Same H1 H4 := s2.trans s25
   refine ⟨_, rfl, .inl ⟨rfl, _, SqL.of ht4⟩, _, rfl, _, rfl, o, _, _, _, rfl, rfl, SqL.of (s15 _ _ ha), Zs (Zh hb), _, rfl, b, c, g.on s', g.alike, rfl, hbx.same s15, hc.same s25, on_len wf hsm.1, fun y hy => by rw [hlen]; exact wf.on_lt hsm.1 y hy, fun y hy => by rw [hlen]; exact hlt y hy, fun H5 q s6 nq hq => ?_⟩
   rw [hlen] at hq
   have hq : NL H5 q (g.goes g.alike s') := hq
   refine ⟨q, rfl, ⟨_, SqL.of hq⟩, fun D hD => ?_⟩
   have hin2 : ∀ x ∈ g.goes g.alike s', x ∈ g.classes := fun x hx => by
     obtain ⟨y, hy, e⟩ := (WM.goes_mem (n := g.size) wf hsm.1).mp hx
     have hyl := wf.on_lt hsm.1 y hy
     rw [<- e]
     exact WM.classes_mem.mpr ⟨WM.cls_lt hyl, WM.cls_idem hyl⟩
   have hgl : (g.goes g.alike s').length <= 12 := by
     unfold Graph.goes Ways.rising
     exact Nat.le_trans (List.length_filter_le _ _) (by rw [List.length_range]; omega)
   refine lcL (SqL.of hq) hD (fun j acc _ => acc = ((g.goes g.alike s').take j).map fun x => nv (g.classes.idxOf x)) rfl ?_ ?_
   . intro j H6 acc y hy s7 hd6 hl6 hg6
     obtain ⟨u, hu, rfl⟩ := Zz hy
     have hj := Zi hu
     have hl6' := (hl3.same (s5.trans s6)).same s7
     refine ⟨rfl, _, rfl, .inl ⟨rfl, _, SqL.of hl6'⟩, _, rfl, .inl ⟨l, _, nv u, g.classes.idxOf u, nv u, rfl, rfl, SqL.of hl6', rfl, flat_nats _, Zh (WM.idxOf_nat (hin2 u (List.mem_of_getElem? hu))), ?_, fun jj z hjj hz => ?_, ?_⟩⟩
     . show ((u : Int) == (u : Int)) = true
       simp
     . obtain ⟨y, hy2, rfl⟩ := Zz hz
       have := Qo hjj hy2
       show ((y : Int) == (u : Int)) = false
       rw [beq_eq_false_iff_ne]; omega
     . refine LcOk.push hD s7 hd6 hl6 (Same.refl _) (Zn (m := 100) (by omega)) ?_
       rw [hg6, Yc hu, List.map_append]; rfl
   . intro H6 acc s7 hd6 hl6 hg6
     rw [List.length_map, List.take_length] at hg6
     have s47 := s6.trans s7
     have ht6 := s47 _ _ ht4
     have Dt : D ≠ t := fun z => by rw [z, s6 _ _ ht4] at hD; cases hD
     refine ⟨t, _, _, rfl, rfl, ht6, by rw [List.length_map]; exact Zn (m := 100) (by omega), ?_⟩
     refine ⟨_, _, bs ++ [D], rfl, (s5.trans s47).put ht0, ?_, by rw [List.length_append, hbl]; rfl, fun j b' hb' => ?_⟩
     . rw [Zb, List.map_append]; rfl
     . rcases snoc_get hb' with z | ⟨e1, e2⟩
       . obtain ⟨h1, h2⟩ := hbs j b' z
         exact ⟨by show upd H6 t _ b' = _; rw [Zl h2]; exact h1.same s47, h2⟩
       . subst e2
         rw [e1, hbl, es]
         refine ⟨?_, Dt⟩
         show upd H6 t _ b' = _
         rw [Zl Dt, hd6, hg6, List.map_map]; rfl
 . rintro σ H4 ⟨v5, v6, bs, rfl, s5, ht4, hbl, hbs⟩
   rw [List.length_map] at hbl
   have s04 := s03.trans s5
   obtain ⟨dg, am, at', hg, hmm, hnx⟩ := hG.same s04
   refine ⟨_, rfl, l, rfl, ⟨_, SqL.of (hl3.same s5)⟩, fun D hD => ?_⟩
   refine lcL (SqL.of (hl3.same s5)) hD (fun j acc _ => acc = (g.classes.take j).map fun x => nv (g.mark x)) rfl ?_ ?_
   . intro j H6 acc y hy s7 hd6 hl6 hg6
     obtain ⟨u, hu, rfl⟩ := Zz hy
     have hj := Zi hu
     have hul := (WM.classes_mem.mp (List.mem_of_getElem? hu)).1
     have hmu : g.marks[u]? = some (g.mark u) := by
       unfold Graph.mark
       exact Xk hul
     refine ⟨rfl, _, rfl, ga, CG, dg, _, _, rfl, s7 _ _ hg, TG.cl, TG.nM, Xc _ _, _, rfl, am, _, _, _, rfl, rfl, SqL.of (s7 _ _ hmm), Zs (Zh hmu), ?_⟩
     refine LcOk.push hD s7 hd6 hl6 (Same.refl _) (Zn (m := 100) (by omega)) ?_
     rw [hg6, Yc hu, List.map_append]; rfl
   . intro H6 acc s7 hd6 hl6 hg6
     rw [List.length_map, List.take_length] at hg6
     refine ⟨_, rfl, ?_⟩
     intro x dx nx ndx nex
     refine ⟨x, dx, D, t, rfl, Zb, fun H7 hx7 k7 => ?_⟩
     have s8 : Same H6 H7 := Same.made nx ndx k7
     refine ⟨rfl, k H7 x ((s04.trans s7).trans s8) ?_⟩
     rw [WM.small_eq wf]
     refine ⟨dx, D, t, hx7, ?_, bs, (s7.trans s8) _ _ ht4, ?_, fun j b hb => ?_⟩
     . show H7 D = _
       rw [s8 _ _ hd6, hg6, List.map_map]; rfl
     . show bs.length = (g.classes.map _).length
       rw [List.length_map]; exact hbl
     . have hj := Zi hb
       have hcj : g.classes[j]? = some (g.classes.getD j 0) := Xk (by omega)
       exact ⟨_, Zh hcj, ((hbs j b hb).1.same s7).same s8⟩
end
def df (v : V) : List (Str × V) := putF "graph" v []
theorem Yx (v : V) : (df v).lookup ("graph" : Str) = some v := by
 unfold df
 rw [Ym, if_pos rfl]
theorem df_put (v u : V) : putF "graph" u (df v) = df u := by
 show (if ("graph" : Str) = "graph" then [(("graph" : Str), u)] else _) = ([("graph", u)] : List (Str × V))
 rw [if_pos rfl]
def DeskAt (CG CD : Addr) (H : Hp) (d : Addr) (st : Ways.State) (ow : List Addr) : Prop := ∃ dd, match st with
 | none => H d = some (.ins CD dd (df .non)) /\ ow = [d]
 | some g => ∃ ga m t as, H d = some (.ins CD dd (df (.ref ga))) /\ WF g /\ Own CG H ga m t as g /\ ow = d :: m :: t :: as
structure TxD (K : PySem.W.Frag) (mg : Str -> Option Value) (CD : Addr) : Prop where
 cl : Cls K CD
 nG : NoAttr K CD "graph"
 at_ : mg "Desk" = some (.ref CD)
theorem DeskAt.same {CG CD : Addr} {H H' : Hp} {d : Addr} {st : Ways.State} {ow : List Addr} (h : DeskAt CG CD H d st ow) (s : Same H H') : DeskAt CG CD H' d st ow := by
 obtain ⟨dd, h⟩ := h
 refine ⟨dd, ?_⟩
 cases st with
 | none => exact ⟨s _ _ h.1, h.2⟩
 | some g =>
   obtain ⟨ga, m, t, as, h1, h2, h3, h4⟩ := h
   exact ⟨ga, m, t, as, s _ _ h1, h2, h3.same s, h4⟩
theorem DeskAt.owns {CG CD : Addr} {H : Hp} {d : Addr} {st : Ways.State} {ow : List Addr} (h : DeskAt CG CD H d st ow) : ∀ b ∈ ow, (∃ dd v, H b = some (.ins CD dd (df v))) \/ ∃ xs, H b = some (.lst xs) := by
 obtain ⟨dd, h⟩ := h
 intro b hb
 cases st with
 | none =>
   obtain ⟨h1, rfl⟩ := h
   have e : b = d := by simpa using hb
   subst e
   exact .inl ⟨_, _, h1⟩
 | some g =>
   obtain ⟨ga, m, t, as, h1, _, o, rfl⟩ := h
   obtain ⟨dg, o1, o2, o3, _, o5⟩ := o.ex
   have e : b = d \/ b = m \/ b = t \/ b ∈ as := by simpa using hb
   rcases e with e | e | e | e
   . subst e; exact .inl ⟨_, _, h1⟩
   . subst e; exact .inr ⟨_, o2⟩
   . subst e; exact .inr ⟨_, o3⟩
   . obtain ⟨j, hj⟩ := List.getElem?_of_mem e
     obtain ⟨_, _, xs, _, z⟩ := o5 j b hj
     exact .inr ⟨_, z⟩
def Done (CG CD : Addr) (H : Hp) (d : Addr) (ow : List Addr) (st' : Ways.State) (zs : List Int) (Q : VK) : Prop :=
 ∀ (H' : Hp) (p : Addr) (ow' : List Addr), (∀ b o, H b = some o -> b ∉ ow -> H' b = some o) -> DeskAt CG CD H' d st' ow' -> (∀ b ∈ ow', b ∈ ow \/ H b = none) -> H p = none -> AL H' p zs -> Q (.ref p) H'
theorem Done.pure {CG CD : Addr} {H : Hp} {d : Addr} {ow : List Addr} {st : Ways.State} {zs : List Int} {Q : VK} (k : Done CG CD H d ow st zs Q) (hD : DeskAt CG CD H d st ow) {H' : Hp} {p : Addr} (s : Same H H') (hn : H p = none) (hp : AL H' p zs) : Q (.ref p) H' :=
 k H' p ow (fun b o hb _ => s _ _ hb) (hD.same s) (fun b hb => .inl hb) hn hp
theorem graph_step {st : Ways.State} {m e : List Nat} : Ways.step st (.graph m e) = match Ways.graphIn m e with | none => (st, Ways.says (-1)) | some g => (some g, Ways.says ((g.size : Nat) : Int)) := rfl
section
variable {P : Program} {w : World} {K : PySem.W.Frag} {mg : Str -> Option Value} {base : Heap}
def spDInit (CD : Addr) : Sp := fun vs H Q _ => ∃ (x dx : Addr), vs = [.ref x] /\ H x = some (.ins CD dx []) /\ ∀ H' : Hp, H' x = some (.ins CD dx (df .non)) -> (∀ b o, H b = some o -> b ≠ x -> H' b = some o) -> Q .non H'
theorem ok_Desk_init {f CD : Addr} {fd : FuncData} (F : Fun K "__init__" "Desk.__init__" s_Desk_init f fd) (TD : TxD K mg CD) : FnOk P w K mg base CX0 1 f fd ["self"] (spDInit CD) := by
 refine F.ok sc_Desk_init (fun vs H Q E h => ?_) (fun cdv A outer s H vs Q E hr h => ?_)
 . obtain ⟨_, _, rfl, _⟩ := h
   rfl
 obtain ⟨x, dx, rfl, hx, k⟩ := h
 refine ⟨_, (Zc (ps_fld (pv 0) pe_non rfl)), ?_⟩
 refine ⟨_, rfl, x, CD, dx, [], rfl, hx, TD.cl, TD.nG, (by show 0 < 1000; decide), ?_⟩
 exact k _ Zb fun b o hb ne => by rw [Zl ne]; exact hb
def spGraph (CG CD : Addr) : Sp := fun vs H Q _ => ∃ (d a b : Addr) (st : Ways.State) (ow : List Addr) (m e : List Nat), vs = [.ref d, .ref a, .ref b] /\ DeskAt CG CD H d st ow /\ NL H a m /\ NL H b e /\ m.length <= 16000 /\ e.length <= 16000 /\
 Done CG CD H d ow (Ways.step st (.graph m e)).1 (sh (Ways.step st (.graph m e)).2) Q
theorem ok_answer_graph {f CG CD : Addr} {fd : FuncData} (F : Fun K "answer_graph" "answer_graph" Uu f fd) (T : Txt K mg) (TD : TxD K mg CD) (Dis_graph : Def P w K mg base "is_graph" 2 ["marks", "ends"] spIsGraph) (Dgraph_of : Def P w K mg base "graph_of" 3 ["marks", "ends"] (spGraphOf CG)) :
   FnOk P w K mg base CX0 4 f fd ["desk", "marks", "ends"] (spGraph CG CD) := by
 refine F.ok sc_answer_graph (fun vs H Q E h => ?_) (fun cdv A outer s H vs Q E hr h => ?_)
 . obtain ⟨_, _, _, _, _, _, _, rfl, _⟩ := h
   rfl
 obtain ⟨d, a, b, st, ow, m, e, rfl, hD, ha, hb, ml, el, k⟩ := h
 refine ⟨_, (Za (Yf (Vl (Yw (Zk Dis_graph hr.m (pa2 (pv 1) (pv 2))))) (Zc (Zg (Zx (pa1 (Zy T.gWRONG))))) Zo)
   (Za (ps_fld (pv 0) (Zk Dgraph_of hr.m (pa2 (pv 1) (pv 2))) rfl)
   (Zc (Zg (Zx (pa1 (Zv (Yl K) rfl T.nlen PySem.boot_len (pa1 (pv 1))))))))), ?_⟩
 have hsp := WM.graphIn_spec m e
 refine ⟨_, rfl, _, rfl, a, b, m, e, rfl, ha, hb, ml, el, fun H1 s1 => ⟨_, rfl, ?_⟩⟩
 cases q : okGraph m e with
 | false =>
   rw [q] at hsp
   have hsp : Ways.graphIn m e = none := hsp
   rw [graph_step, hsp] at k
   exact ifT rfl ⟨le1, fun p hp => k.pure hD (s1.trans (Same.new hp)) (s1.free hp) Zb⟩
 | true =>
   rw [q] at hsp
   obtain ⟨ps, he, hps, hg⟩ := hsp
   have wfg := (WM.wf_graph hg).1
   rw [graph_step, hg] at k
   refine ifF rfl ⟨_, rfl, _, rfl, a, b, m, e, _, rfl, ha.same s1, hb.same s1, el, q, hg, fun H2 ga am at' as s2 nga nam nat nas own => ?_⟩
   have hdw : d ∈ ow /\ ∃ dd v, H d = some (.ins CD dd (df v)) := by
     obtain ⟨dd, h⟩ := hD
     cases st with
     | none => exact ⟨by rw [h.2]; simp, dd, _, h.1⟩
     | some g =>
       obtain ⟨g1, m1, t1, as1, h1, h2, h3, h4⟩ := h
       exact ⟨by rw [h4]; simp, dd, _, h1⟩
   obtain ⟨hdo, dd, v, hd⟩ := hdw
   have s12 := s1.trans s2
   have hd2 := s12 _ _ hd
   refine ⟨_, rfl, d, CD, dd, _, rfl, hd2, TD.cl, TD.nG, (by show 1 < 1000; decide), ?_⟩
   have hH2 : ∀ b' o, H2 b' = some o -> b' ≠ d -> upd H2 d (.ins CD dd (putF "graph" (.ref ga) (df v))) b' = some o := fun b' o h ne => by rw [Zl ne]; exact h
   have had : a ≠ d := Xj ha hd (by intro z; cases z)
   refine ⟨_, rfl, a, _, rfl, .inl (SqL.of (hH2 _ _ ((ha.same s1).same s2) had)), le1, fun p hp => ?_⟩
   obtain ⟨dg, o1, o2, o3, o4, o5⟩ := id own.ex
   have neD : ∀ b' (xs : List V), H2 b' = some (.lst xs) -> b' ≠ d := fun b' xs h => Xj h hd2 (by intro z; cases z)
   have neG : ga ≠ d := fun z => by rw [z] at nga; rw [s1 _ _ hd] at nga; cases nga
   have own3 : Own CG (upd H2 d (.ins CD dd (putF "graph" (.ref ga) (df v)))) ga am at' as ⟨m, WM.tgt m.length ps⟩ := by
     refine ⟨own.mt, dg, hH2 _ _ o1 neG, hH2 _ _ o2 (neD _ _ o2), hH2 _ _ o3 (neD _ _ o3), o4, fun j b' hb' => ?_⟩
     obtain ⟨z1, z2, xs, z3, z4⟩ := o5 j b' hb'
     exact ⟨z1, z2, xs, z3, hH2 _ _ z4 (neD _ _ z4)⟩
   refine k _ p (d :: am :: at' :: as) (fun b' o hb' nb => Same.new hp _ _ (hH2 _ _ (s12 _ _ hb') fun z => nb (z ▸ hdo))) ⟨dd, ga, am, at', as, ?_, wfg, own3.same (Same.new hp), rfl⟩ ?_ ?_ ?_
   . refine Same.new hp _ _ ?_
     rw [Zb, df_put]
   . intro b' hb'
     have e' : b' = d \/ b' = am \/ b' = at' \/ b' ∈ as := by simpa using hb'
     rcases e' with z | z | z | z
     . exact .inl (z ▸ hdo)
     . exact .inr (by rw [z]; exact s1.free nam)
     . exact .inr (by rw [z]; exact s1.free nat)
     . exact .inr (s1.free (nas b' z))
   . refine s12.free ?_
     by_cases e : p = d
     . subst e; rw [Zb] at hp; cases hp
     . rw [Zl e] at hp; exact hp
   . show upd _ p _ p = _
     rw [Zb, List.length_map]; rfl
def rf (c : Addr) (i : Nat) : List (Str × V) := putF "at" (nv i) (putF "numbers" (.ref c) [])
theorem rf_numbers (c : Addr) (i : Nat) : (rf c i).lookup ("numbers" : Str) = some (.ref c) := by
 unfold rf
 rw [Ym, if_neg (by decide), Ym, if_pos rfl]
theorem rf_at (c : Addr) (i : Nat) : (rf c i).lookup ("at" : Str) = some (nv i) := by
 unfold rf
 rw [Ym, if_pos rfl]
theorem rf_no (c : Addr) (i : Nat) {m : Str} (h1 : ¬ m = "at") (h2 : ¬ m = "numbers") : (rf c i).lookup m = none := by
 unfold rf
 rw [Ym, if_neg h1, Ym, if_neg h2]; rfl
theorem rf_put (c : Addr) (i j : Nat) : putF "at" (nv j) (rf c i) = rf c j := by
 show (if ("numbers" : Str) = "at" then _ else (("numbers" : Str), V.ref c) :: (if ("at" : Str) = "at" then [(("at" : Str), nv j)] else _)) = (("numbers" : Str), V.ref c) :: [(("at" : Str), nv j)]
 rw [if_neg (by decide), if_pos rfl]
def RdAt (CR : Addr) (H : Hp) (r c : Addr) (i : Nat) : Prop := ∃ dr, H r = some (.ins CR dr (rf c i))
structure TxR (K : PySem.W.Frag) (mg : Str -> Option Value) (CR : Addr) : Prop where
 cl : Cls K CR
 nN : NoAttr K CR "numbers"
 nA : NoAttr K CR "at"
 at_ : mg "Reader" = some (.ref CR)
def spRInit (CR : Addr) : Sp := fun vs H Q _ => ∃ (x dx c : Addr), vs = [.ref x, .ref c] /\ H x = some (.ins CR dx []) /\ ∀ H' : Hp, RdAt CR H' x c 0 -> (∀ b o, H b = some o -> b ≠ x -> H' b = some o) -> Q .non H'
theorem ok_Reader_init {f CR : Addr} {fd : FuncData} (F : Fun K "__init__" "Reader.__init__" s_Reader_init f fd) (TR : TxR K mg CR) : FnOk P w K mg base CX0 1 f fd ["self", "numbers"] (spRInit CR) := by
 refine F.ok sc_Reader_init (fun vs H Q E h => ?_) (fun cdv A outer s H vs Q E hr h => ?_)
 . obtain ⟨_, _, _, rfl, _⟩ := h
   rfl
 obtain ⟨x, dx, c, rfl, hx, k⟩ := h
 refine ⟨_, (Za (ps_fld (pv 0) (pv 1) rfl)
   (Zc (ps_fld (pv 0) Zj rfl))), ?_⟩
 refine ⟨_, rfl, _, rfl, x, CR, dx, [], rfl, hx, TR.cl, TR.nN, (by show 0 < 1000; decide), _, rfl, x, CR, dx, _, rfl, Zb, TR.cl, TR.nA, (by show 1 < 1000; decide), ?_⟩
 exact k _ ⟨dx, Zb⟩ fun b o hb ne => by rw [Zl ne, Zl ne]; exact hb
def spIsDone (CR : Addr) (K : PySem.W.Frag) : Sp := fun vs H Q _ => ∃ (r c : Addr) (i : Nat) (l : List Int), vs = [.ref r] /\ RdAt CR H r c i /\ SqL K H c (l.map V.int) /\ Q (.bl (decide (l.length <= i))) H
theorem ok_Reader_is_done {f CR : Addr} {fd : FuncData} (F : Fun K "is_done" "Reader.is_done" Vk f fd) (T : Txt K mg) (TR : TxR K mg CR) : FnOk P w K mg base CX0 1 f fd ["self"] (spIsDone CR K) := by
 refine F.ok sc_Reader_is_done (fun vs H Q E h => ?_) (fun cdv A outer s H vs Q E hr h => ?_)
 . obtain ⟨_, _, _, _, rfl, _⟩ := h
   rfl
 obtain ⟨r, c, i, l, rfl, ⟨dr, hr'⟩, hc, k⟩ := h
 refine ⟨_, (Zc (Zg (Ua op_ge (Ye K (pv 0)) (Zv (Yl K) rfl T.nlen PySem.boot_len (pa1 (Ye K (pv 0)))) (Zt _)))), ?_⟩
 refine ⟨_, rfl, r, CR, dr, _, _, rfl, hr', TR.cl, TR.nA, rf_at _ _, _, rfl, r, CR, dr, _, _, rfl, hr', TR.cl, TR.nN, rf_numbers _ _, c, _, rfl, .inl hc, _, _, rfl, rfl, ?_⟩
 have e : decide ((((l.map V.int).length : Nat) : Int) <= (i : Int)) = decide (l.length <= i) := by
   rw [List.length_map]
   by_cases q : l.length <= i
   . rw [decide_eq_true q]; exact decide_eq_true (by omega)
   . rw [decide_eq_false q]; exact decide_eq_false (by omega)
 show Q (.bl (decide ((((l.map V.int).length : Nat) : Int) <= (i : Int)))) H
 rw [e]; exact k
theorem cut_take (xs : List V) {i n : Nat} (h : i <= xs.length) : cutV xs (some (i : Int)) (some ((i + n : Nat) : Int)) = (xs.drop i).take n := by
 unfold cutV
 rw [HT.sIx_nat, HT.sIx_nat, Nat.min_eq_left h]
 by_cases q : i + n <= xs.length
 . rw [Nat.min_eq_left q, Nat.add_sub_cancel_left]
 . rw [Nat.min_eq_right (by omega), List.take_of_length_le (by rw [List.length_drop]; exact Nat.le_refl _), List.take_of_length_le (by rw [List.length_drop]; omega)]
def spTake (CR : Addr) (K : PySem.W.Frag) : Sp := fun vs H Q _ => ∃ (r c : Addr) (i n : Nat) (l : List Int), vs = [.ref r, nv n] /\ RdAt CR H r c i /\ SqL K H c (l.map V.int) /\ i <= l.length /\
 ∀ (H' : Hp) (p : Addr), (∀ b o, H b = some o -> b ≠ r -> H' b = some o) -> RdAt CR H' r c (i + n) -> AL H' p ((l.drop i).take n) -> H p = none -> Q (.ref p) H'
theorem ok_Reader_take {f CR : Addr} {fd : FuncData} (F : Fun K "take" "Reader.take" s_Reader_take f fd) (T : Txt K mg) (TR : TxR K mg CR) : FnOk P w K mg base CX0 1 f fd ["self", "many"] (spTake CR K) := by
 refine F.ok sc_Reader_take (fun vs H Q E h => ?_) (fun cdv A outer s H vs Q E hr h => ?_)
 . obtain ⟨_, _, _, _, _, rfl, _⟩ := h
   rfl
 obtain ⟨r, c, i, n, l, rfl, ⟨dr, hr'⟩, hc, hi, k⟩ := h
 refine ⟨_, (Za (Zr (i := 2) sc_Reader_take.nd rfl (.inl rfl) (pe_slice (sl_listK K) (Ye K (pv 0)) (po_some (Ye K (pv 0))) (po_some (Xh op_add (Ye K (pv 0)) (pv 1)))))
   (Za (ps_fldaug (pv 0) (pv 1) ip_add)
   (Zc (Zg (pv 2))))), ?_⟩
 refine ⟨_, rfl, r, CR, dr, _, _, rfl, hr', TR.cl, TR.nN, rf_numbers _ _, _, rfl, r, CR, dr, _, _, rfl, hr', TR.cl, TR.nA, rf_at _ _, _, rfl, _, rfl, r, CR, dr, _, _, rfl, hr', TR.cl, TR.nA, rf_at _ _, _, rfl, _, _, rfl, rfl, _, rfl, c, _, rfl, hc, fun p hp => ?_⟩
 have er : r ≠ p := Yb hr' hp
 refine ⟨_, rfl, r, CR, dr, _, _, rfl, (by rw [Zl er]; exact hr'), TR.cl, TR.nA, rf_at _ _, _, rfl, _, _, rfl, rfl, dr, _, (by rw [Zl er]; exact hr'), (by show 2 < 1000; decide), ?_⟩
 refine ⟨_, rfl, k _ p (fun b o hb ne => ?_) ⟨dr, ?_⟩ ?_ hp⟩
 . rw [Zl ne]; exact Same.new hp _ _ hb
 . rw [Zb]
   have e : V.int ((i : Int) + (n : Int)) = nv (i + n) := by unfold nv; rw [Int.natCast_add]
   show some (HO.ins CR dr (putF "at" (V.int ((i : Int) + (n : Int))) (rf c i))) = _
   rw [e, rf_put]
 . show upd _ r _ p = _
   rw [Zl (Ne.symm er), Zb]
   have e : ((i : Int) + (n : Int)) = ((i + n : Nat) : Int) := by omega
   show some (HO.lst (cutV (l.map V.int) (some (i : Int)) (some ((i : Int) + (n : Int))))) = _
   rw [e, cut_take _ (by rw [List.length_map]; exact hi), List.map_take, List.map_drop]
end
theorem whole_id (c : List (List Int)) : PyWrways.whole c = c := by
 unfold PyWrways.whole
 split <;> rfl
theorem calls_whole (l : List Int) : PyWrways.calls l = PyFlat.calls PyWrways.shape l.length l := by
 unfold PyWrways.calls
 cases PyFlat.calls PyWrways.shape l.length l with
 | none => rfl
 | some cs =>
   show some (cs.map PyWrways.whole) = some cs
   have e : cs.map PyWrways.whole = cs := (List.map_congr_left fun c _ => whole_id c).trans (List.map_id' cs)
   rw [e]
theorem calls_cons {sh : Int -> Option (Nat × Nat)} {f : Nat} {p : Int} {r : List Int} {cs : List (List (List Int))} (h : PyFlat.calls sh f (p :: r) = some cs) :
   ∃ f' c t cs', PyFlat.call sh (p :: r) = some (c, t) /\ PyFlat.calls sh f' t = some cs' /\ cs = c :: cs' := by
 cases f with
 | zero => cases h
 | succ f =>
   have h : (match PyFlat.call sh (p :: r) with | none => none | some (c, t) => match PyFlat.calls sh f t with | none => none | some cs => some (c :: cs)) = some cs := h
   cases e : PyFlat.call sh (p :: r) with
   | none => rw [e] at h; cases h
   | some x =>
     obtain ⟨c, t⟩ := x
     rw [e] at h
     have h : (match PyFlat.calls sh f t with | none => none | some cs => some (c :: cs)) = some cs := h
     cases e2 : PyFlat.calls sh f t with
     | none => rw [e2] at h; cases h
     | some cs' =>
       rw [e2] at h
       cases h
       exact ⟨f, c, t, cs', rfl, e2, rfl⟩
theorem calls_nil {sh : Int -> Option (Nat × Nat)} {f : Nat} {cs : List (List (List Int))} (h : PyFlat.calls sh f [] = some cs) : cs = [] := by
 cases f <;> (cases h; rfl)
theorem row_some {r x s : List Int} (h : PyFlat.row r = some (x, s)) : ∃ (n : Nat) (r' : List Int), r = (n : Int) :: r' /\ n <= r'.length /\ x = r'.take n /\ s = r'.drop n := by
 cases r with
 | nil => cases h
 | cons z r =>
   have h : (if 0 <= z /\ z.toNat <= r.length then some (r.take z.toNat, r.drop z.toNat) else none) = some (x, s) := h
   by_cases q : 0 <= z /\ z.toNat <= r.length
   . rw [if_pos q] at h
     cases h
     exact ⟨z.toNat, r, by rw [Int.toNat_of_nonneg q.1], q.2, rfl, rfl⟩
   . rw [if_neg q] at h; cases h
theorem rows_succ {k : Nat} {r t : List Int} {xs : List (List Int)} (h : PyFlat.rows (k + 1) r = some (xs, t)) : ∃ x s ys, PyFlat.row r = some (x, s) /\ PyFlat.rows k s = some (ys, t) /\ xs = x :: ys := by
 have h : (match PyFlat.row r with | none => none | some (x, s) => match PyFlat.rows k s with | none => none | some (xs, t) => some (x :: xs, t)) = some (xs, t) := h
 cases e : PyFlat.row r with
 | none => rw [e] at h; cases h
 | some y =>
   obtain ⟨x, s⟩ := y
   rw [e] at h
   have h : (match PyFlat.rows k s with | none => none | some (xs, t) => some (x :: xs, t)) = some (xs, t) := h
   cases e2 : PyFlat.rows k s with
   | none => rw [e2] at h; cases h
   | some z =>
     obtain ⟨ys, t'⟩ := z
     rw [e2] at h
     cases h
     exact ⟨x, s, ys, rfl, e2, rfl⟩
theorem call_some {sh : Int -> Option (Nat × Nat)} {p : Int} {r t : List Int} {c : List (List Int)} (h : PyFlat.call sh (p :: r) = some (c, t)) : ∃ n k xs, sh p = some (n, k) /\ n <= r.length /\ PyFlat.rows k (r.drop n) = some (xs, t) /\ c = (p :: r.take n) :: xs := by
 have h : (match sh p with | none => none | some (n, k) => if r.length < n then none else match PyFlat.rows k (r.drop n) with | none => none | some (xs, t) => some ((p :: r.take n) :: xs, t)) = some (c, t) := h
 cases e : sh p with
 | none => rw [e] at h; cases h
 | some x =>
   obtain ⟨n, k⟩ := x
   rw [e] at h
   have h : (if r.length < n then none else match PyFlat.rows k (r.drop n) with | none => none | some (xs, t) => some ((p :: r.take n) :: xs, t)) = some (c, t) := h
   by_cases q : r.length < n
   . rw [if_pos q] at h; cases h
   . rw [if_neg q] at h
     cases e2 : PyFlat.rows k (r.drop n) with
     | none => rw [e2] at h; cases h
     | some z =>
       obtain ⟨xs, t'⟩ := z
       rw [e2] at h
       cases h
       exact ⟨n, k, xs, rfl, by omega, e2, rfl⟩
def Fz (H H' : Hp) : Prop := ∀ b o u, H b = some (.frz o u) -> H' b = some (.frz o u)
def CallsAt (K : PySem.W.Frag) (H : Hp) (c : Addr) (l : List Int) : Prop := ∀ H', Fz H H' -> SqL K H' c (l.map V.int)
section
variable {P : Program} {w : World} {K : PySem.W.Frag} {mg : Str -> Option Value} {base : Heap}
def spTakeRow (CR : Addr) (K : PySem.W.Frag) : Sp := fun vs H Q _ => ∃ (r c : Addr) (i n : Nat) (l r' : List Int), vs = [.ref r] /\ RdAt CR H r c i /\ (∀ H' : Hp, (∀ b o, H b = some o -> b ≠ r -> H' b = some o) -> SqL K H' c (l.map V.int)) /\ l.drop i = (n : Int) :: r' /\ n <= r'.length /\
 ∀ (H' : Hp) (p : Addr), (∀ b o, H b = some o -> b ≠ r -> H' b = some o) -> RdAt CR H' r c (i + 1 + n) -> AL H' p (r'.take n) -> H p = none -> Q (.ref p) H'
theorem drop_lt {l r' : List Int} {i : Nat} {z : Int} (h : l.drop i = z :: r') : i < l.length /\ l.drop (i + 1) = r' := by
 have hi : i < l.length := by
   by_cases q : i < l.length
   . exact q
   . rw [List.drop_eq_nil_of_le (by omega)] at h; cases h
 rw [List.drop_eq_getElem_cons hi] at h
 exact ⟨hi, (List.cons.inj h).2⟩
theorem ok_Reader_take_row {f CR : Addr} {fd : FuncData} (F : Fun K "take_row" "Reader.take_row" Va f fd) (T : Txt K mg) (TR : TxR K mg CR) (Mtake : MethD P w K mg base CR "take" 1 ["self", "many"] (spTake CR K)) : FnOk P w K mg base CX0 2 f fd ["self"] (spTakeRow CR K) := by
 refine F.ok sc_Reader_take_row (fun vs H Q E h => ?_) (fun cdv A outer s H vs Q E hr h => ?_)
 . obtain ⟨_, _, _, _, _, _, rfl, _⟩ := h
   rfl
 obtain ⟨r, c, i, n, l, r', rfl, hR, hc, hd, hn, k⟩ := h
 refine ⟨_, (Za (Zr (i := 1) sc_Reader_take_row.nd rfl (.inl rfl) (pe_mth Mtake hr.m (pv 0) (pa1 Zj)))
   (Zc (Zg (pe_mth Mtake hr.m (pv 0) (pa1 (Zm (Zd K) (pv 1) Zj (fun _ _ => rfl))))))), ?_⟩
 obtain ⟨hi, hd1⟩ := drop_lt hd
 obtain ⟨dr, hr1⟩ := id hR
 refine ⟨_, rfl, r, dr, _, rfl, hr1, rf_no _ _ (by decide) (by decide), r, c, i, 1, l, rfl, hR, hc H (fun _ _ h _ => h), by omega, fun H1 p1 k1 hR1 hp1 np1 => ?_⟩
 have ep : AL H1 p1 [(n : Int)] := by
   have e : (l.drop i).take 1 = [(n : Int)] := by rw [hd]; rfl
   rw [e] at hp1; exact hp1
 obtain ⟨dr1, hr2⟩ := id hR1
 refine ⟨_, rfl, r, dr1, _, rfl, hr2, rf_no _ _ (by decide) (by decide), _, rfl, p1, _, _, _, rfl, rfl, SqL.of ep, Yh (j := 0) rfl rfl, r, c, i + 1, n, l, rfl, hR1, hc H1 k1, by omega, fun H2 p2 k2 hR2 hp2 np2 => ?_⟩
 rw [hd1] at hp2
 refine k H2 p2 (fun b o hb ne => k2 b o (k1 b o hb ne) ne) hR2 hp2 ?_
 cases q : H p2 with
 | none => rfl
 | some o =>
   by_cases e : p2 = r
   . subst e; rw [hr2] at np2; cases np2
   . rw [k1 _ _ q e] at np2; cases np2
def spNext (CG CD CR : Addr) (K : PySem.W.Frag) : Sp := fun vs H Q _ => ∃ (r d c : Addr) (i : Nat) (l t : List Int) (st : Ways.State) (ow : List Addr) (cc : List (List Int)), vs = [.ref r, .ref d] /\ RdAt CR H r c i /\ CallsAt K H c l /\ DeskAt CG CD H d st ow /\ l.length <= 16000 /\
 PyFlat.call PyWrways.shape (l.drop i) = some (cc, t) /\ WaysNeutral.asked1 cc = true /\
 ∀ (H' : Hp) (p : Addr) (ow' : List Addr) (j : Nat), (∀ b o, H b = some o -> b ∉ ow -> b ≠ r -> H' b = some o) -> i < j -> j <= l.length -> t = l.drop j -> RdAt CR H' r c j -> DeskAt CG CD H' d (WaysNeutral.step st cc).1 ow' -> (∀ b ∈ ow', b ∈ ow \/ H b = none) -> AL H' p (WaysNeutral.step st cc).2 -> H p = none -> (WaysNeutral.step st cc).2.length <= 1000 -> Q (.ref p) H'
def spAns (K : PySem.W.Frag) : Sp := fun vs H Q _ => ∃ (c : Addr) (l : List Int), vs = [.ref c] /\ CallsAt K H c l /\ l.length <= 16000 /\ PyWrways.answers_asked l = true /\ ∀ (H' : Hp) (p : Addr), AL H' p (PyWrways.answers l) -> Q (.ref p) H'
theorem Fz.step {CG CD CR : Addr} {H H' : Hp} {d r c : Addr} {st : Ways.State} {ow : List Addr} {i : Nat} (hD : DeskAt CG CD H d st ow) (hR : RdAt CR H r c i) (k : ∀ b o, H b = some o -> b ∉ ow -> b ≠ r -> H' b = some o) : Fz H H' := by
 intro b o u hb
 obtain ⟨dr, hr⟩ := hR
 refine k _ _ hb (fun hm => ?_) (Xj hb hr (by intro z; cases z))
 rcases hD.owns b hm with ⟨dd, v, z⟩ | ⟨xs, z⟩ <;> (rw [hb] at z; cases z)
theorem Fz.trans {H H1 H2 : Hp} (a : Fz H H1) (b : Fz H1 H2) : Fz H H2 := fun x o u h => b x o u (a x o u h)
theorem CallsAt.step {K : PySem.W.Frag} {H H1 : Hp} {c : Addr} {l : List Int} (h : CallsAt K H c l) (f : Fz H H1) : CallsAt K H1 c l := fun H2 f2 => h H2 (f.trans f2)
theorem Same.fz {H H' : Hp} (s : Same H H') : Fz H H' := fun b o u h => s b _ h
theorem told_cons (a : List Int) (l : List (List Int)) : PyFlat.told (a :: l) = ((a.length : Int) :: a) ++ PyFlat.told l := by
 unfold PyFlat.told
 rw [List.flatMap_cons]
theorem ok_answers {f CG CD CR fR fD : Addr} {fd fdR fdD : FuncData} (F : Fun K "answers" "answers" s_answers f fd) (T : Txt K mg) (TR : TxR K mg CR) (TD : TxD K mg CD) (MReader : Mk K CR fR) (FR : FnOk P w K mg base CX0 1 fR fdR ["self", "numbers"] (spRInit CR)) (bReader : Binds K fdR ["self", "numbers"] [])
   (MDesk : Mk K CD fD) (FD : FnOk P w K mg base CX0 1 fD fdD ["self"] (spDInit CD)) (bDesk : Binds K fdD ["self"] []) (Mis_done : MethD P w K mg base CR "is_done" 1 ["self"] (spIsDone CR K)) {kn : Nat} (Danswer_next : Def P w K mg base "answer_next" (kn + 2) ["reader", "desk"] (spNext CG CD CR K)) :
   FnOk P w K mg base CX0 (kn + 3) f fd ["calls"] (spAns K) := by
 refine F.ok sc_answers (fun vs H Q E h => ?_) (fun cdv A outer s H vs Q E hr h => ?_)
 . obtain ⟨_, _, rfl, _⟩ := h
   rfl
 obtain ⟨c, l, rfl, hc, hl, hask, k⟩ := h
 refine ⟨_, (Za (Zr (i := 1) sc_answers.nd rfl (.inl rfl) (pe_make MReader FR (hr.mono (by omega)) rfl TR.at_ bReader .nil pass0 (pa1 (pv 0))))
   (Za (Zr (i := 2) sc_answers.nd rfl (.inl rfl) (pe_make0 MDesk FD (hr.mono (by omega)) rfl TD.at_ bDesk .nil pass0 ))
   (Za (Zr (i := 3) sc_answers.nd rfl (.inl rfl) (Zx Vc))
   (Za (ps_while PassesOwn.never (Vl (Yw (pe_mth0 Mis_done (hr.mono (by omega)) (pv 1)))) (Za (Zr (i := 4) sc_answers.nd rfl (.inl rfl) (Zk Danswer_next (hr.mono (by omega)) (pa2 (pv 1) (pv 2))))
   (Za (Yt (Uw PySem.F.plainAttrs_list PySem.F.slot_list_append PySem.F.type_list_append Yy (pv 3) (pa1 (Zv (Yl K) rfl T.nlen PySem.boot_len (pa1 (pv 4))))))
   (Zc (Yt (Uw PySem.F.plainAttrs_list PySem.F.slot_list_extend PySem.F.type_list_extend mt_extend (pv 3) (pa1 (pv 4))))))))
   (Zc (Zg (pv 3))))))), ?_⟩
 refine ⟨_, rfl, fun x dx nx ndx nex => ?_⟩
 refine ⟨x, dx, c, rfl, Zb, fun H1 hR1 k1 => ⟨rfl, ?_⟩⟩
 have s1 : Same H H1 := Same.made nx ndx k1
 intro y dy ny ndy ney
 refine ⟨y, dy, rfl, Zb, fun H2 hd2 k2 => ⟨rfl, ?_⟩⟩
 have s2 : Same H1 H2 := Same.made ny ndy k2
 refine ⟨Nat.zero_le _, fun an han => ?_⟩
 have s3 : Same H2 (upd H2 an (.lst [])) := Same.new han
 have hD3 : DeskAt CG CD (upd H2 an (.lst [])) y none [y] := ⟨dy, s3 _ _ hd2, rfl⟩
 obtain ⟨dr, hr1⟩ := hR1
 have hR3 : RdAt CR (upd H2 an (.lst [])) x c 0 := ⟨dr, s3 _ _ (s2 _ _ hr1)⟩
 have asked : ∃ cs, PyFlat.calls PyWrways.shape l.length l = some cs /\ cs.length <= 60 /\ (∀ cc ∈ cs, WaysNeutral.asked1 cc = true) /\ PyWrways.answers l = PyFlat.told (PyFlat.played WaysNeutral.step WaysNeutral.start cs) := by
   unfold PyWrways.answers_asked at hask
   unfold PyWrways.answers
   rw [calls_whole] at hask ⊢
   cases e : PyFlat.calls PyWrways.shape l.length l with
   | none => rw [e] at hask; cases hask
   | some cs =>
     rw [e] at hask
     have hask : (PyFlat.atMost 60 cs && WaysNeutral.asked cs) = true := hask
     rw [Bool.and_eq_true] at hask
     obtain ⟨a1, a2⟩ := hask
     unfold WaysNeutral.asked at a2
     rw [Bool.and_eq_true] at a2
     exact ⟨cs, rfl, of_decide_eq_true a1, fun cc hcc => List.all_eq_true.mp a2.1 cc hcc, rfl⟩
 obtain ⟨cs0, hcs, h60, hall, htot⟩ := asked
 rw [htot] at k
 refine ⟨fun m σ H' => ∃ (i : Nat) (cs : List (List (List Int))) (st : Ways.State) (ow : List Addr) (out : List Int) (fu : Nat) (v4 : Option V), m = cs.length /\ σ = [some (.ref c), some (.ref x), some (.ref y), some (.ref an), v4] /\ Fz H H' /\ RdAt CR H' x c i /\ DeskAt CG CD H' y st ow /\ an ∉ ow /\ AL H' an out /\ i <= l.length /\
     PyFlat.calls PyWrways.shape fu (l.drop i) = some cs /\ (∀ cc ∈ cs, WaysNeutral.asked1 cc = true) /\ cs.length <= 60 /\ out.length <= 1001 * (60 - cs.length) /\ out ++ PyFlat.told (PyFlat.played WaysNeutral.step st cs) = PyFlat.told (PyFlat.played WaysNeutral.step WaysNeutral.start cs0),
   ⟨_, 0, cs0, none, [y], [], l.length, none, rfl, rfl, Same.fz ((s1.trans s2).trans s3), hR3, hD3, ?_, Zb, Nat.zero_le _, by rw [List.drop_zero]; exact hcs, hall, h60, Nat.zero_le _, rfl⟩, ?_⟩
 . intro z
   have z : an = y := by simpa using z
   rw [z, hd2] at han; cases han
 rintro m σ H' ⟨i, cs, st, ow, out, fu, v4, rfl, rfl, fz, hR, hD, hao, han', hi, hcs', hall', h60', hol, htot'⟩
 have hc' := hc H' fz
 obtain ⟨dr', hr'⟩ := id hR
 refine ⟨_, rfl, x, dr', _, rfl, hr', rf_no _ _ (by decide) (by decide), x, c, i, l, rfl, hR, hc', _, rfl, ?_⟩
 by_cases q : l.length <= i
 . refine ifF (by rw [decide_eq_true q]; rfl) ⟨_, rfl, k H' an ?_⟩
   rw [List.drop_eq_nil_of_le q] at hcs'
   have e := calls_nil hcs'
   subst e
   have e2 : out = PyFlat.told (PyFlat.played WaysNeutral.step WaysNeutral.start cs0) := by
     rw [<- htot']
     show out = out ++ []
     rw [List.append_nil]
   rw [<- e2]; exact han'
 . obtain ⟨z, hz⟩ : ∃ z, l[i]? = some z := ⟨_, List.getElem?_eq_getElem (by omega)⟩
   have ed : l.drop i = z :: l.drop (i + 1) := by
     have hlt := Zi hz
     rw [List.drop_eq_getElem_cons hlt]
     rw [List.getElem?_eq_getElem hlt] at hz
     rw [Option.some.inj hz]
   rw [ed] at hcs'
   obtain ⟨fu', cc, t, cs', hcall, hcs2, rfl⟩ := calls_cons hcs'
   rw [<- ed] at hcall
   rw [List.length_cons] at h60' hol
   refine ifT (by rw [decide_eq_false q]; rfl) ⟨fun σ' H'' => ∃ (i : Nat) (st : Ways.State) (ow : List Addr) (out : List Int) (v4 : Option V), σ' = [some (.ref c), some (.ref x), some (.ref y), some (.ref an), v4] /\ Fz H H'' /\ RdAt CR H'' x c i /\ DeskAt CG CD H'' y st ow /\ an ∉ ow /\ AL H'' an out /\ i <= l.length /\
     PyFlat.calls PyWrways.shape fu' (l.drop i) = some cs' /\ out.length <= 1001 * (60 - cs'.length) /\ out ++ PyFlat.told (PyFlat.played WaysNeutral.step st cs') = PyFlat.told (PyFlat.played WaysNeutral.step WaysNeutral.start cs0), ?_, ?_⟩
   . rintro σ' H'' ⟨i2, st2, ow2, out2, v42, h1, h2, h3, h4, h5, h6, h7, h8, h9, h10⟩
     exact ⟨_, by rw [List.length_cons]; exact Nat.lt_succ_self _, i2, cs', st2, ow2, out2, fu', v42, rfl, h1, h2, h3, h4, h5, h6, h7, h8, fun cc hcc => hall' cc (List.mem_cons_of_mem _ hcc), by omega, h9, h10⟩
   . refine ⟨_, rfl, _, rfl, x, y, c, i, l, t, st, ow, cc, rfl, hR, hc.step fz, hD, hl, hcall, hall' cc (by simp), fun H3 p ow' j k3 hij hj ht hR3 hD3 hw hp np hpl => ?_⟩
     have anx : an ≠ x := Xj han' hr' (by intro z; cases z)
     have han3 := k3 an _ han' hao anx
     have apn : an ≠ p := Yb han' np
     generalize hzs : (WaysNeutral.step st cc).2 = zs at hp hpl
     have hzl : (zs.map V.int).length = zs.length := List.length_map _
     have hsz : sizeLine = 16777216 := sizeLine_eq
     refine ⟨_, rfl, .inl ⟨rfl, _, SqL.of han3⟩, _, rfl, p, _, rfl, .inl (SqL.of hp), an, _, _, rfl, rfl, han3, by rw [List.length_map]; omega, ?_⟩
     have hp4 : upd H3 an (.lst (out.map V.int ++ [.int ((zs.map V.int).length : Int)])) p = some (.lst (zs.map V.int)) := by rw [Zl (Ne.symm apn)]; exact hp
     refine ⟨_, rfl, .inl ⟨rfl, _, SqL.of Zb⟩, _, rfl, an, p, _, _, rfl, rfl, Zb, hp4, by rw [List.length_append, List.length_map, List.length_map, List.length_singleton]; omega, ?_⟩
     rw [upd_upd, hzl]
     have hao3 : an ∉ ow' := fun z => by
       rcases hw an z with z | z
       . exact hao z
       . rw [han'] at z; cases z
     have keep : ∀ b o, H3 b = some o -> b ≠ an -> upd H3 an (.lst (out.map V.int ++ [.int (zs.length : Int)] ++ zs.map V.int)) b = some o := fun b o h ne => by rw [Zl ne]; exact h
     have fz3 : Fz H' H3 := Fz.step hD hR k3
     refine ⟨j, (WaysNeutral.step st cc).1, ow', out ++ ((zs.length : Int) :: zs), some (.ref p), rfl, ?_, ?_, ?_, hao3, ?_, hj, by rw [<- ht]; exact hcs2, ?_, ?_⟩
     . intro b o u hb
       refine keep _ _ (fz3 _ _ _ (fz _ _ _ hb)) fun z => ?_
       have := fz3 _ _ _ (fz _ _ _ hb)
       rw [z, han3] at this; cases this
     . obtain ⟨d3, h3⟩ := hR3
       exact ⟨d3, keep _ _ h3 (Ne.symm anx)⟩
     . obtain ⟨dd, h⟩ := hD3
       refine ⟨dd, ?_⟩
       cases e : (WaysNeutral.step st cc).1 with
       | none =>
         rw [e] at h
         exact ⟨keep _ _ h.1 (Xj h.1 han3 (by intro z; cases z)), h.2⟩
       | some g =>
         rw [e] at h
         obtain ⟨ga, m, tt, as, h1, h2, h3, h4⟩ := h
         obtain ⟨dg, o1, o2, o3, o4, o5⟩ := id h3.ex
         have nam : m ≠ an := fun z => hao3 (by rw [h4, <- z]; simp)
         have nat : tt ≠ an := fun z => hao3 (by rw [h4, <- z]; simp)
         refine ⟨ga, m, tt, as, keep _ _ h1 (Xj h1 han3 (by intro z; cases z)), h2, ⟨h3.mt, dg, keep _ _ o1 (Xj o1 han3 (by intro z; cases z)), keep _ _ o2 nam, keep _ _ o3 nat, o4, fun jj b hb => ?_⟩, h4⟩
         obtain ⟨z1, z2, xs, z3, z4⟩ := o5 jj b hb
         exact ⟨z1, z2, xs, z3, keep _ _ z4 fun z => hao3 (by rw [h4, <- z]; simp [List.mem_of_getElem? hb])⟩
     . show upd H3 an _ an = _
       rw [Zb, List.map_append, List.append_assoc]; rfl
     . rw [List.length_append, List.length_cons]; omega
     . rw [<- htot']
       show _ = out ++ PyFlat.told ((WaysNeutral.step st cc).2 :: PyFlat.played WaysNeutral.step (WaysNeutral.step st cc).1 cs')
       rw [told_cons, hzs, List.append_assoc]
end
def RowsAt (H : Hp) (rl : Addr) (rows : List (List Int)) : Prop := ∃ as : List Addr, H rl = some (.lst (as.map V.ref)) /\ as.length = rows.length /\ ∀ (j : Nat) (b : Addr), as[j]? = some b -> ∃ r, rows[j]? = some r /\ AL H b r
def formsN : List (Nat × Nat) := [(0, 2), (2, 0), (2, 0), (2, 0), (0, 1), (1, 1), (1, 1), (0, 0), (0, 0), (2, 0), (0, 0)]
theorem shape_get {p : Int} {n k : Nat} (h : PyWrways.shape p = some (n, k)) : ∃ j : Nat, p = (j : Int) /\ formsN[j]? = some (n, k) := by
 unfold PyWrways.shape at h
 by_cases q0 : p = 0
 . rw [if_pos q0] at h; cases h; exact ⟨0, q0, rfl⟩
 rw [if_neg q0] at h
 by_cases q1 : p = 1
 . rw [if_pos q1] at h; cases h; exact ⟨1, q1, rfl⟩
 rw [if_neg q1] at h
 by_cases q2 : p = 2
 . rw [if_pos q2] at h; cases h; exact ⟨2, q2, rfl⟩
 rw [if_neg q2] at h
 by_cases q3 : p = 3
 . rw [if_pos q3] at h; cases h; exact ⟨3, q3, rfl⟩
 rw [if_neg q3] at h
 by_cases q4 : p = 4
 . rw [if_pos q4] at h; cases h; exact ⟨4, q4, rfl⟩
 rw [if_neg q4] at h
 by_cases q5 : p = 5
 . rw [if_pos q5] at h; cases h; exact ⟨5, q5, rfl⟩
 rw [if_neg q5] at h
 by_cases q6 : p = 6
 . rw [if_pos q6] at h; cases h; exact ⟨6, q6, rfl⟩
 rw [if_neg q6] at h
 by_cases q7 : p = 7
 . rw [if_pos q7] at h; cases h; exact ⟨7, q7, rfl⟩
 rw [if_neg q7] at h
 by_cases q8 : p = 8
 . rw [if_pos q8] at h; cases h; exact ⟨8, q8, rfl⟩
 rw [if_neg q8] at h
 by_cases q9 : p = 9
 . rw [if_pos q9] at h; cases h; exact ⟨9, q9, rfl⟩
 rw [if_neg q9] at h
 by_cases q10 : p = 10
 . rw [if_pos q10] at h; cases h; exact ⟨10, q10, rfl⟩
 rw [if_neg q10] at h
 cases h
structure TxF (K : PySem.W.Frag) (mg : Str -> Option Value) (aF : Addr) : Prop where
 at_ : mg "FORMS" = some (.ref aF)
 tF : ∃ fs : List Addr, (∀ H, SqT K H aF (fs.map V.ref)) /\ ∀ (j : Nat) (p : Nat × Nat), formsN[j]? = some p -> ∃ f, fs[j]? = some f /\ ∀ H, SqT K H f [nv p.1, nv p.2]
theorem round_len (g : Graph) (a : Ways.Set) : ∀ (n : Nat) (l : List Nat) (s : Nat), (g.round a n l s).length <= l.length + n
 | 0, l, s => Nat.le_refl _
 | n + 1, l, s => by
   show (if l.contains s = true then l ++ [s] else match (g.on s).find? (Ways.has a) with | some t => g.round a n (l ++ [s]) t | none => l ++ [s]).length <= _
   split
   . simp
   . split
     . have := round_len g a n (l ++ [s]) (by assumption)
       simp at this
       omega
     . simp
theorem wayTo_len (g : Graph) (a b : Ways.Set) : ∀ (n s : Nat), (g.wayTo a b n s).length <= n + 1
 | 0, s => Nat.le_refl _
 | n + 1, s => by
   show (if Ways.has b s = true then [s] else match (g.on s).find? fun t => Ways.has (g.gain a b n) t with | some t => s :: g.wayTo a b n t | none => [s]).length <= _
   split
   . simp
   . split
     . rename_i t _
       have := wayTo_len g a b n t
       rw [List.length_cons]; omega
     . simp
theorem far_le {g : Graph} {a b : Ways.Set} {s n : Nat} (h : g.far a b s = some n) : n <= g.size := by
 have := (WM.Xt h).1
 omega
theorem shows_len {g : Graph} {s : Nat} {f : Form} {l : List Nat} (h12 : g.size <= 12) (h : g.shows s f = some l) : l.length <= 13 := by
 cases f with
 | next f =>
   have h : (match (g.on s).find? (Ways.has (g.holds f)) with | some t => some [s, t] | none => none) = some l := h
   split at h
   . cases h; simp
   . cases h
 | always f =>
   have h : (if Ways.has (g.holds (.always f)) s = true then some (g.round (g.holds (.always f)) (g.size + 1) [] s) else none) = some l := h
   split at h
   . cases h
     have := round_len g (g.holds (.always f)) (g.size + 1) [] s
     simp at this
     omega
   . cases h
 | until_ f h' =>
   have h : (match g.far (g.holds f) (g.holds h') s with | some n => some (g.wayTo (g.holds f) (g.holds h') n s) | none => none) = some l := h
   split at h
   . rename_i n e
     cases h
     have h1 := wayTo_len g (g.holds f) (g.holds h') n s
     have h2 := far_le e
     omega
   . cases h
 | yes => cases h
 | mark m => cases h
 | not_ f => cases h
 | and_ f h' => cases h
 | allUntil f h' => cases h
theorem flat_len {α : Type} {f : α -> List Nat} {k : Nat} : ∀ {l : List α}, (∀ x ∈ l, (f x).length <= k) -> (l.flatMap f).length <= l.length * k
 | [], _ => by simp
 | x :: l, h => by
   have ih := flat_len (l := l) fun y hy => h y (List.mem_cons_of_mem _ hy)
   have := h x (by simp)
   rw [List.flatMap_cons, List.length_append, List.length_cons, Nat.add_mul, Nat.one_mul]
   omega
theorem edges_len {g : Graph} (h12 : g.size <= 12) (hn : ∀ s, s < g.size -> (g.next.getD s []).length <= 12) : (Ways.edgesOf g).length <= 288 := by
 have h1 : (Ways.edgesOf g).length <= g.all.length * 24 := by
   refine flat_len fun s hs => ?_
   have hs : s < g.size := List.mem_range.mp hs
   have h2 : ((g.next.getD s []).flatMap fun t => [s, t]).length <= (g.next.getD s []).length * 2 := flat_len fun t _ => by simp
   have := hn s hs
   omega
 have h2 : g.all.length = g.size := by simp [Graph.all]
 rw [h2] at h1
 have : g.size * 24 <= 12 * 24 := Nat.mul_le_mul_right _ h12
 omega
theorem rising_len (l : List Nat) (n : Nat) : (Ways.rising l n).length <= n := by
 unfold Ways.rising
 have := List.length_filter_le l.contains (List.range n)
 rw [List.length_range] at this
 exact this
theorem sh_len_lists {l : List Nat} : (sh (Ways.lists l)).length = l.length + 2 := by rw [sh_lists]; simp
theorem sh_len_tell {g : Graph} : (sh (Ways.tellAll g)).length = 3 + g.size + (Ways.edgesOf g).length := by
 unfold sh Ways.tellAll WaysNeutral.shown
 simp only [List.flatMap_cons, List.flatMap_nil, List.append_nil, List.length_cons, List.length_append, List.length_map]
 have : g.marks.length = g.size := rfl
 omega
theorem form_len {l : List Nat} {f : Form -> Ways.Answer} (h : ∀ x, (sh (f x)).length <= 1000) : (sh (Ways.ofForm l f)).length <= 1000 := by
 unfold Ways.ofForm
 split
 . show 1 <= 1000; omega
 . split
   . show 1 <= 1000; omega
   . exact h _
theorem ofTwo_len {s : Ways.State} {a b : Nat} {f : Graph -> Ways.State × Ways.Answer} (h : ∀ g, s = some g -> a < g.size -> b < g.size -> (sh (f g).2).length <= 1000) : (sh (Ways.ofTwo s a b f).2).length <= 1000 := by
 cases s with
 | none => show 1 <= 1000; omega
 | some g =>
   show (sh (if g.size <= a then _ else if g.size <= b then _ else _ : Ways.State × Ways.Answer).2).length <= 1000
   split
   . show 1 <= 1000; omega
   . split
     . show 1 <= 1000; omega
     . exact h g rfl (by omega) (by omega)
theorem ofState_len {s : Ways.State} {a : Nat} {f : Graph -> Ways.State × Ways.Answer} (h : ∀ g, s = some g -> a < g.size -> (sh (f g).2).length <= 1000) : (sh (Ways.ofState s a f).2).length <= 1000 := by
 cases s with
 | none => show 1 <= 1000; omega
 | some g =>
   show (sh (if g.size <= a then _ else _ : Ways.State × Ways.Answer).2).length <= 1000
   split
   . show 1 <= 1000; omega
   . exact h g rfl (by omega)
theorem step_len {st : Ways.State} (hw : ∀ g, st = some g -> WF g) (c : Ways.Call) : (sh (Ways.step st c).2).length <= 1000 := by
 cases c with
 | graph m e =>
   rw [graph_step]
   split <;> (show 1 <= 1000; omega)
 | edge a b =>
   refine ofTwo_len fun g _ _ _ => ?_
   split <;> (show 1 <= 1000; omega)
 | cut a b =>
   refine ofTwo_len fun g _ _ _ => ?_
   split <;> (show 1 <= 1000; omega)
 | mark a m =>
   refine ofState_len fun g _ _ => ?_
   split <;> (show 1 <= 1000; omega)
 | holds f =>
   cases st with
   | none => show 1 <= 1000; omega
   | some g =>
     refine form_len fun x => ?_
     rw [sh_len_lists]
     have := states_len g (g.holds x)
     have := (hw g rfl).le
     omega
 | shows a f =>
   refine ofState_len fun g e _ => form_len fun x => ?_
   split
   . show 1 <= 1000; omega
   . split
     . show 1 <= 1000; omega
     . rename_i l hl
       rw [sh_len_lists]
       have := shows_len (hw g e).le hl
       omega
 | far a f =>
   refine ofState_len fun g e _ => form_len fun x => ?_
   split <;> (show 1 <= 1000; omega)
 | alike =>
   cases st with
   | none => show 1 <= 1000; omega
   | some g =>
     show (sh ⟨_, [g.alike]⟩).length <= 1000
     unfold sh WaysNeutral.shown
     simp only [List.flatMap_cons, List.flatMap_nil, List.append_nil, List.length_cons, List.length_map]
     have h1 : g.alike.length = g.size := WM.Yp _
     have := (hw g rfl).le
     omega
 | small =>
   cases st with
   | none => show 1 <= 1000; omega
   | some g =>
     show (sh (Ways.tellAll g.small)).length <= 1000
     rw [sh_len_tell]
     have hc : g.classes.length <= g.size := by
       show (g.all.filter _).length <= _
       have := List.length_filter_le (fun s => g.alike.getD s 0 == s) g.all
       have e : g.all.length = g.size := by simp [Graph.all]
       omega
     have hs : g.small.size = g.classes.length := by
       show (g.classes.map g.mark).length = _
       rw [List.length_map]
     have h12 := (hw g rfl).le
     have := edges_len (g := g.small) (by omega) (fun s hs' => by
       show ((g.classes.map _).getD s []).length <= 12
       rw [List.getD_eq_getElem?_getD, List.getElem?_map]
       cases e : g.classes[s]? with
       | none => simp
       | some x =>
         show (Ways.rising _ _).length <= 12
         have := rising_len ((g.on x).map fun t => g.classes.idxOf (g.alike.getD t 0)) g.classes.length
         omega)
     omega
 | tells a b =>
   refine ofTwo_len fun g e ha hb => ?_
   split
   . show 1 <= 1000; omega
   . rename_i n _
     split
     . show 1 <= 1000; omega
     . rename_i hn
       rw [sh_len_lists]
       have e1 := WM.lengths_eq (hw g e) n a b ha hb
       unfold WM.lenOf at e1
       have : Ways.TOLD = 400 := rfl
       omega
 | told =>
   cases st with
   | none => show 1 <= 1000; omega
   | some g =>
     show (sh (Ways.tellAll g)).length <= 1000
     rw [sh_len_tell]
     have wf := hw g rfl
     have h12 := wf.le
     have := edges_len h12 (fun s hs => by
       have := Qb (wf.srt _ (wf.next_mem hs)) (wf.lt _ (wf.next_mem hs))
       omega)
     omega
theorem flat_step_len {st : Ways.State} (hw : ∀ g, st = some g -> WF g) (c : List (List Int)) : (WaysNeutral.step st c).2.length <= 1000 := by
 unfold WaysNeutral.step
 split
 . exact step_len hw _
 . show 0 <= 1000; omega
theorem DeskAt.wf {CG CD : Addr} {H : Hp} {d : Addr} {st : Ways.State} {ow : List Addr} (h : DeskAt CG CD H d st ow) : ∀ g, st = some g -> WF g := by
 rintro g rfl
 obtain ⟨dd, ga, m, t, as, h1, h2, h3, h4⟩ := h
 exact h2
theorem df_rf (v : V) (c : Addr) (i : Nat) : df v ≠ rf c i := by
 intro z
 have : (df v).lookup ("at" : Str) = (rf c i).lookup ("at" : Str) := by rw [z]
 rw [rf_at] at this
 unfold df at this
 rw [Ym, if_neg (by decide)] at this
 cases this
theorem gf_rf (m t : Addr) (c : Addr) (i : Nat) : gf m t ≠ rf c i := by
 intro z
 have : (gf m t).lookup ("at" : Str) = (rf c i).lookup ("at" : Str) := by rw [z]
 rw [rf_at] at this
 unfold gf at this
 rw [Ym, if_neg (by decide), Ym, if_neg (by decide)] at this
 cases this
theorem DeskAt.off {CG CD CR : Addr} {H H' : Hp} {d r c : Addr} {i : Nat} {st : Ways.State} {ow : List Addr} (h : DeskAt CG CD H d st ow) (hR : RdAt CR H r c i) (k : ∀ b o, H b = some o -> b ≠ r -> H' b = some o) : DeskAt CG CD H' d st ow := by
 obtain ⟨dr, hr⟩ := hR
 obtain ⟨dd, h⟩ := h
 refine ⟨dd, ?_⟩
 have nD : ∀ (b C dx : Addr) (v : V), H b = some (.ins C dx (df v)) -> b ≠ r := fun b C dx v hb => Xj hb hr fun z => df_rf v c i (HO.ins.inj z).2.2
 have nL : ∀ (b : Addr) (xs : List V), H b = some (.lst xs) -> b ≠ r := fun b xs hb => Xj hb hr fun z => nomatch z
 cases st with
 | none => exact ⟨k _ _ h.1 (nD _ _ _ _ h.1), h.2⟩
 | some g =>
   obtain ⟨ga, m, t, as, h1, h2, h3, h4⟩ := h
   obtain ⟨dg, o1, o2, o3, o4, o5⟩ := h3.ex
   refine ⟨ga, m, t, as, k _ _ h1 (nD _ _ _ _ h1), h2, ⟨h3.mt, dg, k _ _ o1 (Xj o1 hr fun z => gf_rf m t c i (HO.ins.inj z).2.2), k _ _ o2 (nL _ _ o2), k _ _ o3 (nL _ _ o3), o4, fun j b hb => ?_⟩, h4⟩
   obtain ⟨z1, z2, xs, z3, z4⟩ := o5 j b hb
   exact ⟨z1, z2, xs, z3, k _ _ z4 (nL _ _ z4)⟩
theorem DeskAt.not {CG CD CR : Addr} {H : Hp} {d r c : Addr} {i : Nat} {st : Ways.State} {ow : List Addr} (h : DeskAt CG CD H d st ow) (hR : RdAt CR H r c i) : r ∉ ow := by
 obtain ⟨dr, hr⟩ := hR
 intro hm
 rcases h.owns r hm with ⟨dd, v, z⟩ | ⟨xs, z⟩
 . rw [hr] at z
   exact df_rf v c i (HO.ins.inj (Option.some.inj z)).2.2.symm
 . rw [hr] at z; cases z
def spCall (CG CD : Addr) : Sp := fun vs H Q _ => ∃ (d nl rl : Addr) (j : Nat) (st : Ways.State) (ow : List Addr) (ns : List Int) (rows : List (List Int)), vs = [.ref d, nv j, .ref nl, .ref rl] /\ DeskAt CG CD H d st ow /\ AL H nl ns /\ RowsAt H rl rows /\ formsN[j]? = some (ns.length, rows.length) /\
 WaysNeutral.asked1 (((j : Int) :: ns) :: rows) = true /\ (∀ r ∈ rows, r.length <= 16000) /\ Done CG CD H d ow (WaysNeutral.step st (((j : Int) :: ns) :: rows)).1 (WaysNeutral.step st (((j : Int) :: ns) :: rows)).2 Q
section
variable {P : Program} {w : World} {K : PySem.W.Frag} {mg : Str -> Option Value} {base : Heap}
theorem ok_answer_next {f CG CD CR aF : Addr} {fd : FuncData} (F : Fun K "answer_next" "answer_next" Qv f fd) (T : Txt K mg) (TF : TxF K mg aF) (TR : TxR K mg CR) (Mtake : MethD P w K mg base CR "take" 1 ["self", "many"] (spTake CR K)) (Mtake_row : MethD P w K mg base CR "take_row" 2 ["self"] (spTakeRow CR K))
   {kn : Nat} (Danswer_call : Def P w K mg base "answer_call" (kn + 2) ["desk", "call", "numbers", "rows"] (spCall CG CD)) :
   FnOk P w K mg base CX0 (kn + 3) f fd ["reader", "desk"] (spNext CG CD CR K) := by
 refine F.ok sc_answer_next (fun vs H Q E h => ?_) (fun cdv A outer s H vs Q E hr h => ?_)
 . obtain ⟨_, _, _, _, _, _, _, _, _, rfl, _⟩ := h
   rfl
 obtain ⟨r, d, c, i, l, t, st, ow, cc, rfl, hR, hc, hD, hl, hcall, hask, k⟩ := h
 refine ⟨_, (Za (Zr (i := 2) sc_answer_next.nd rfl (.inl rfl) (Zm (Zd K) (pe_mth Mtake (hr.mono (by omega)) (pv 0) (pa1 Zj)) Zj (fun _ _ => rfl)))
   (Za (Zr (i := 3) sc_answer_next.nd rfl (.inl rfl) (Zm (Xg K) (pe_gr TF.at_) (pv 2) (fun _ _ => rfl)))
   (Za (Zr (i := 4) sc_answer_next.nd rfl (.inl rfl) (pe_mth Mtake (hr.mono (by omega)) (pv 0) (pa1 (Zm (Xg K) (pv 3) Zj (fun _ _ => rfl)))))
   (Za (Zr (i := 5) sc_answer_next.nd rfl (.inl rfl) (Zx Vc))
   (Za (Xr PassesOwn.never rfl (Xe rfl T.nrange (pa1 (Zm (Xg K) (pv 3) Zj (fun _ _ => rfl)))) (Zp (i := 6) sc_answer_next.nd rfl (.inl rfl)) (Zc (Yt (Uw PySem.F.plainAttrs_list PySem.F.slot_list_append PySem.F.type_list_append Yy (pv 5) (pa1 (pe_mth0 Mtake_row (hr.mono (by omega)) (pv 0)))))))
   (Zc (Zg (Zk Danswer_call (hr.mono (by omega)) (pa4 (pv 1) (pv 2) (pv 4) (pv 5)))))))))), ?_⟩
 obtain ⟨fs, hfs, hft⟩ := TF.tF
 obtain ⟨dr, hr0⟩ := id hR
 obtain ⟨p, r0, hd0⟩ : ∃ p r0, l.drop i = p :: r0 := by
   cases e : l.drop i with
   | nil => rw [e] at hcall; cases hcall
   | cons p r0 => exact ⟨p, r0, rfl⟩
 rw [hd0] at hcall
 obtain ⟨n, kk, xs, hsh, hn, hrows, rfl⟩ := call_some hcall
 obtain ⟨j, rfl, hj⟩ := shape_get hsh
 obtain ⟨ff, hff, hftup⟩ := hft j _ hj
 obtain ⟨hi, hd1⟩ := drop_lt hd0
 -- what is kept by what changes the reader alone
 have fzr : ∀ {H1 H2 : Hp} {i' : Nat}, RdAt CR H1 r c i' -> (∀ b o, H1 b = some o -> b ≠ r -> H2 b = some o) -> Fz H1 H2 := fun {H1 H2 i'} ⟨d', h'⟩ kq b o u hb => kq _ _ hb (Xj hb h' (by intro z; cases z))
 refine ⟨_, rfl, r, dr, _, rfl, hr0, rf_no _ _ (by decide) (by decide), r, c, i, 1, l, rfl, hR, hc H (fun _ _ _ h => h), by omega, fun H1 p1 k1 hR1 hp1 np1 => ?_⟩
 have ep : AL H1 p1 [(j : Int)] := by
   have e : (l.drop i).take 1 = [(j : Int)] := by rw [hd0]; rfl
   rw [e] at hp1; exact hp1
 refine ⟨p1, _, _, _, rfl, rfl, SqL.of ep, Yh (j := 0) rfl rfl, ?_⟩
 refine ⟨_, rfl, aF, _, _, _, rfl, rfl, hfs _, Zs (Zh hff), ?_⟩
 obtain ⟨dr1, hr1⟩ := id hR1
 have f1 := fzr hR k1
 refine ⟨_, rfl, r, dr1, _, rfl, hr1, rf_no _ _ (by decide) (by decide), _, rfl, ff, _, _, _, rfl, rfl, hftup _, Yh (j := 0) rfl rfl, r, c, i + 1, n, l, rfl, hR1, hc H1 f1, by omega, fun H2 nl k2 hR2 hnl nnl => ?_⟩
 rw [hd1] at hnl
 have f2 := f1.trans (fzr hR1 k2)
 refine ⟨Nat.zero_le _, fun rl hrl => ?_⟩
 have s3 : Same H2 (upd H2 rl (.lst [])) := Same.new hrl
 have rlr : rl ≠ r := fun z => by
   obtain ⟨d2, h2⟩ := hR2
   rw [z, h2] at hrl; cases hrl
 refine ⟨_, rfl, ff, _, _, _, rfl, rfl, hftup _, Yh (j := 1) rfl rfl, _, rfl, ?_, ?_, ?_⟩
 . have : kk <= 2 := by
     match j, hj with
     | 0, hj => cases hj; decide
     | 1, hj => cases hj; decide
     | 2, hj => cases hj; decide
     | 3, hj => cases hj; decide
     | 4, hj => cases hj; decide
     | 5, hj => cases hj; decide
     | 6, hj => cases hj; decide
     | 7, hj => cases hj; decide
     | 8, hj => cases hj; decide
     | 9, hj => cases hj; decide
     | 10, hj => cases hj; decide
   omega
 . have : kk <= 2 := by
     match j, hj with
     | 0, hj => cases hj; decide
     | 1, hj => cases hj; decide
     | 2, hj => cases hj; decide
     | 3, hj => cases hj; decide
     | 4, hj => cases hj; decide
     | 5, hj => cases hj; decide
     | 6, hj => cases hj; decide
     | 7, hj => cases hj; decide
     | 8, hj => cases hj; decide
     | 9, hj => cases hj; decide
     | 10, hj => cases hj; decide
   omega
 have ek : ((kk : Nat) : Int).toNat = kk := Int.toNat_natCast _
 show ∃ W : Nat -> Nat -> L2.St -> Hp -> Prop, _
 rw [ek]
 have hxl : xs.length = kk := by
   have : ∀ (q : Nat) (a : List Int) (ys : List (List Int)) (b : List Int), PyFlat.rows q a = some (ys, b) -> ys.length = q := by
     intro q
     induction q with
     | zero => intro a ys b h; cases h; rfl
     | succ q ih =>
       intro a ys b h
       obtain ⟨x, s', zs, _, h2, rfl⟩ := rows_succ h
       rw [List.length_cons, ih _ _ _ h2]
   exact this _ _ _ _ hrows
 refine Ud (lo := 0) (n := kk) (fun q σ H' => ∃ (v6 : Option V) (i' : Nat) (done left : List (List Int)) (as : List Addr), σ = [some (.ref r), some (.ref d), some (nv j), some (.ref ff), some (.ref nl), some (.ref rl), v6] /\ (∀ b o, H b = some o -> b ≠ r -> H' b = some o) /\ Fz H H' /\ RdAt CR H' r c i' /\ i < i' /\ i' <= l.length /\ AL H' nl (r0.take n) /\
     H' rl = some (.lst (as.map V.ref)) /\ rl ≠ r /\ H rl = none /\ as.length = q /\ done.length = q /\ (∀ (q' : Nat) (b : Addr), as[q']? = some b -> b ≠ rl /\ b ≠ r /\ ∃ x, done[q']? = some x /\ AL H' b x) /\ nl ≠ rl /\ nl ≠ r /\ PyFlat.rows (kk - q) (l.drop i') = some (left, t) /\ done ++ left = xs) ?_ ?_ ?_
 . have keepH : ∀ b o, H b = some o -> b ≠ r -> upd H2 rl (.lst []) b = some o := fun b o hb ne => s3 _ _ (k2 b o (k1 b o hb ne) ne)
   have nnr : nl ≠ r := fun z => by
     obtain ⟨d2, h2⟩ := hR1
     rw [z, h2] at nnl; cases nnl
   have nnrl : nl ≠ rl := Yb hnl hrl
   obtain ⟨d2, h2⟩ := hR2
   refine ⟨none, i + 1 + n, [], xs, [], rfl, keepH, f2.trans (Same.fz s3), ⟨d2, s3 _ _ h2⟩, by omega, ?_, s3 _ _ hnl, Zb, rlr, ?_, rfl, rfl, fun q' b hb => by simp at hb, nnrl, nnr, ?_, rfl⟩
   . have : (l.drop (i + 1)).length = l.length - (i + 1) := List.length_drop ..
     rw [hd1] at this
     omega
   . cases q : H rl with
     | none => rfl
     | some o => rw [k2 _ _ (k1 _ _ q rlr) rlr] at hrl; cases hrl
   . rw [Nat.sub_zero, <- List.drop_drop, hd1]; exact hrows
 . rintro q σ H3 hq ⟨v6, i', done, left, as, rfl, kH, fz, hR3, hii, hil, hnl3, hrl3, rlr, nrl, hal, hdl, has, nnrl, nnr, hrw, hdx⟩
   have eq1 : kk - q = (kk - (q + 1)) + 1 := by omega
   rw [eq1] at hrw
   obtain ⟨x, s', ys, hrow, hrest, rfl⟩ := rows_succ hrw
   obtain ⟨nn, r', hdr, hnr, rfl, rfl⟩ := row_some hrow
   obtain ⟨hi', hd'⟩ := drop_lt hdr
   obtain ⟨d3, h3⟩ := id hR3
   refine ⟨_, rfl, .inl ⟨rfl, _, SqL.of hrl3⟩, _, rfl, r, d3, _, rfl, h3, rf_no _ _ (by decide) (by decide), r, c, i', nn, l, r', rfl, hR3, fun H4 k4 => hc H4 (fz.trans (fzr hR3 k4)), hdr, hnr, fun H4 pr k4 hR4 hpr npr => ?_⟩
   have hrl4 := k4 _ _ hrl3 rlr
   have prl : pr ≠ rl := fun z => by rw [z, hrl3] at npr; cases npr
   have prr : pr ≠ r := fun z => by rw [z, h3] at npr; cases npr
   refine ⟨rl, _, _, rfl, rfl, hrl4, by rw [List.length_map, hal]; exact Zn (m := 100) (by
     have : kk <= 2 := by
       match j, hj with
       | 0, hj => cases hj; decide
       | 1, hj => cases hj; decide
       | 2, hj => cases hj; decide
       | 3, hj => cases hj; decide
       | 4, hj => cases hj; decide
       | 5, hj => cases hj; decide
       | 6, hj => cases hj; decide
       | 7, hj => cases hj; decide
       | 8, hj => cases hj; decide
       | 9, hj => cases hj; decide
       | 10, hj => cases hj; decide
     omega), ?_⟩
   have keep : ∀ b o, H4 b = some o -> b ≠ rl -> upd H4 rl (.lst (as.map V.ref ++ [.ref pr])) b = some o := fun b o h ne => by rw [Zl ne]; exact h
   obtain ⟨d4, h4⟩ := hR4
   refine ⟨some (.int (0 + (q : Int))), i' + 1 + nn, done ++ [r'.take nn], ys, as ++ [pr], rfl, fun b o hb ne => keep _ _ (k4 b o (kH b o hb ne) ne) (Yb hb nrl), ?_, ⟨d4, keep _ _ h4 (Ne.symm rlr)⟩, by omega, ?_, keep _ _ (k4 _ _ hnl3 nnr) nnrl, by rw [Zb, List.map_append]; rfl, rlr, nrl, by rw [List.length_append, hal]; rfl, by rw [List.length_append, hdl]; rfl, ?_, nnrl, nnr, ?_, ?_⟩
   . intro b o u hb
     have hb4 := fzr hR3 k4 _ _ _ (fz _ _ _ hb)
     refine keep _ _ hb4 fun z => ?_
     rw [z, hrl4] at hb4; cases hb4
   . have : (l.drop (i' + 1)).length = l.length - (i' + 1) := List.length_drop ..
     rw [hd'] at this
     omega
   . intro q' b hb
     by_cases qq : q' < as.length
     . rw [List.getElem?_append_left qq] at hb
       obtain ⟨z1, z2, x, z3, z4⟩ := has q' b hb
       exact ⟨z1, z2, x, by rw [List.getElem?_append_left (by omega)]; exact z3, keep _ _ (k4 _ _ z4 z2) z1⟩
     . rw [List.getElem?_append_right (by omega)] at hb
       have e0 : q' - as.length = 0 := by
         have := Zi hb
         simp at this
         omega
       rw [e0] at hb
       have e1 : pr = b := by simpa using hb
       subst e1
       exact ⟨prl, prr, r'.take nn, by rw [List.getElem?_append_right (by omega), show q' - done.length = 0 by omega]; rfl, keep _ _ hpr prl⟩
   . rw [<- List.drop_drop, hd']; exact hrest
   . rw [<- hdx, List.append_assoc]; rfl
 . rintro σ H3 ⟨v6, i', done, left, as, rfl, kH, fz, hR3, hii, hil, hnl3, hrl3, rlr, nrl, hal, hdl, has, nnrl, nnr, hrw, hdx⟩
   rw [Nat.sub_self] at hrw
   have e0 : left = [] /\ l.drop i' = t := by cases hrw; exact ⟨rfl, rfl⟩
   obtain ⟨rfl, rfl⟩ := e0
   rw [List.append_nil] at hdx
   subst hdx
   have hD3 := hD.off hR kH
   have hnlen : (r0.take n).length = n := by rw [List.length_take]; omega
   have rlen : ∀ x ∈ done, x.length <= 16000 := by
     have : ∀ (q : Nat) (a : List Int) (ys : List (List Int)) (b : List Int), a.length <= 16000 -> PyFlat.rows q a = some (ys, b) -> ∀ x ∈ ys, x.length <= 16000 := by
       intro q
       induction q with
       | zero => intro a ys b _ h x hx; cases h; cases hx
       | succ q ih =>
         intro a ys b ha h x hx
         obtain ⟨y, s', zs, h1, h2, rfl⟩ := rows_succ h
         obtain ⟨n1, r1, rfl, h3, rfl, rfl⟩ := row_some h1
         rw [List.length_cons] at ha
         rcases List.mem_cons.mp hx with z | z
         . rw [z, List.length_take]; omega
         . exact ih _ _ _ (by rw [List.length_drop]; omega) h2 x z
     refine this _ _ _ _ ?_ hrows
     rw [List.length_drop, <- hd1, List.length_drop]; omega
   refine ⟨_, rfl, _, rfl, _, rfl, _, rfl, d, nl, rl, j, st, ow, r0.take n, done, rfl, hD3, hnl3, ⟨as, hrl3, by omega, fun q' b hb => (has q' b hb).2.2⟩, by rw [hnlen, hxl]; exact hj, hask, rlen, fun H5 p ow' k5 hD5 hw np hp => ?_⟩
   have hp0 : H p = none := by
     cases q : H p with
     | none => rfl
     | some o =>
       by_cases e : p = r
       . obtain ⟨d3, h3⟩ := hR3
         rw [e, h3] at np; cases np
       . rw [kH _ _ q e] at np; cases np
   obtain ⟨d3, h3⟩ := id hR3
   refine k H5 p ow' i' (fun b o hb nb ne => k5 _ _ (kH _ _ hb ne) nb) hii hil rfl ⟨d3, k5 _ _ h3 (hD3.not hR3)⟩ hD5 (fun b hb => ?_) hp hp0 (flat_step_len hD.wf _)
   rcases hw b hb with z | z
   . exact .inl z
   . refine .inr ?_
     cases q : H b with
     | none => rfl
     | some o =>
       by_cases e : b = r
       . rw [e, h3] at z; cases z
       . rw [kH _ _ q e] at z; cases z
end
def cst (l : List Nat) : List Int := l.map fun n : Nat => (n : Int)
theorem nats_cst (l : List Nat) : WaysNeutral.nats (cst l) = l := by
 unfold WaysNeutral.nats cst
 rw [List.map_map]
 exact (List.map_congr_left fun n _ => Int.toNat_natCast n).trans (List.map_id' l)
theorem Vf (l : List Nat) : WaysNeutral.whole (cst l) = true := by
 unfold WaysNeutral.whole cst
 rw [List.all_eq_true]
 intro x hx
 obtain ⟨n, _, rfl⟩ := List.mem_map.mp hx
 exact decide_eq_true (Int.natCast_nonneg n)
theorem Uy {z : Int} {b : Nat} (h : WaysNeutral.natural z b = true) : ∃ n : Nat, z = (n : Int) := by
 unfold WaysNeutral.natural at h
 rw [Bool.and_eq_true] at h
 have := of_decide_eq_true h.1
 exact ⟨z.toNat, by omega⟩
theorem cst_of {l : List Int} {b : Nat} (h : l.all (fun z => WaysNeutral.natural z b) = true) : ∃ m, l = cst m := by
 refine ⟨l.map Int.toNat, ?_⟩
 unfold cst
 rw [List.map_map]
 have : ∀ x ∈ l, x = ((fun n : Nat => (n : Int)) ∘ Int.toNat) x := fun x hx => by
   obtain ⟨n, rfl⟩ := Uy (List.all_eq_true.mp h x hx)
   rfl
 exact (List.map_id' l).symm.trans (List.map_congr_left this)
theorem AL.nl {H : Hp} {a : Addr} {m : List Nat} (h : AL H a (cst m)) : NL H a m := by
 show H a = _
 rw [Vn]; exact h
inductive Asked : Nat -> List Int -> List (List Int) -> Ways.Call -> Prop
 | graph (m e : List Nat) : Asked 0 [] [cst m, cst e] (.graph m e)
 | edge (a b : Nat) : Asked 1 [(a : Int), (b : Int)] [] (.edge a b)
 | cut (a b : Nat) : Asked 2 [(a : Int), (b : Int)] [] (.cut a b)
 | mark (a b : Nat) : Asked 3 [(a : Int), (b : Int)] [] (.mark a b)
 | holds (l : List Nat) : Asked 4 [] [cst l] (.holds l)
 | shows (a : Nat) (l : List Nat) : Asked 5 [(a : Int)] [cst l] (.shows a l)
 | far (a : Nat) (l : List Nat) : Asked 6 [(a : Int)] [cst l] (.far a l)
 | alike : Asked 7 [] [] .alike
 | small : Asked 8 [] [] .small
 | tells (a b : Nat) : Asked 9 [(a : Int), (b : Int)] [] (.tells a b)
 | told : Asked 10 [] [] .told
theorem len0 {α : Type} {l : List α} (h : 0 = l.length) : l = [] := List.eq_nil_of_length_eq_zero h.symm
theorem len1 {α : Type} {l : List α} (h : 1 = l.length) : ∃ a, l = [a] := by
 match l, h with
 | [a], _ => exact ⟨a, rfl⟩
theorem len2 {α : Type} {l : List α} (h : 2 = l.length) : ∃ a b, l = [a, b] := by
 match l, h with
 | [a, b], _ => exact ⟨a, b, rfl⟩
theorem asked_of {j : Nat} {ns : List Int} {rows : List (List Int)} (hf : formsN[j]? = some (ns.length, rows.length)) (ha : WaysNeutral.asked1 (((j : Int) :: ns) :: rows) = true) : ∃ c, Asked j ns rows c := by
 have two : ∀ {p q : Nat}, some (p, q) = some (ns.length, rows.length) -> p = ns.length /\ q = rows.length := fun {p q} h => by
   injection h with h
   exact ⟨congrArg Prod.fst h, congrArg Prod.snd h⟩
 match j, hf, ha with
 | 0, hf, ha =>
   obtain ⟨h1, h2⟩ := two hf
   have e1 := len0 h1
   subst e1
   obtain ⟨x, y, rfl⟩ := len2 h2
   have ha : (x.all (fun z => WaysNeutral.natural z 63) && y.all (fun z => WaysNeutral.natural z 63)) = true := ha
   rw [Bool.and_eq_true] at ha
   obtain ⟨m, rfl⟩ := cst_of ha.1
   obtain ⟨e, rfl⟩ := cst_of ha.2
   exact ⟨_, .graph m e⟩
 | 1, hf, ha =>
   obtain ⟨h1, h2⟩ := two hf
   obtain ⟨a, b, rfl⟩ := len2 h1
   have e2 := len0 h2
   subst e2
   have ha : (WaysNeutral.natural a 63 && WaysNeutral.natural b 63) = true := ha
   rw [Bool.and_eq_true] at ha
   obtain ⟨a, rfl⟩ := Uy ha.1
   obtain ⟨b, rfl⟩ := Uy ha.2
   exact ⟨_, .edge a b⟩
 | 2, hf, ha =>
   obtain ⟨h1, h2⟩ := two hf
   obtain ⟨a, b, rfl⟩ := len2 h1
   have e2 := len0 h2
   subst e2
   have ha : (WaysNeutral.natural a 63 && WaysNeutral.natural b 63) = true := ha
   rw [Bool.and_eq_true] at ha
   obtain ⟨a, rfl⟩ := Uy ha.1
   obtain ⟨b, rfl⟩ := Uy ha.2
   exact ⟨_, .cut a b⟩
 | 3, hf, ha =>
   obtain ⟨h1, h2⟩ := two hf
   obtain ⟨a, b, rfl⟩ := len2 h1
   have e2 := len0 h2
   subst e2
   have ha : (WaysNeutral.natural a 63 && WaysNeutral.natural b 63) = true := ha
   rw [Bool.and_eq_true] at ha
   obtain ⟨a, rfl⟩ := Uy ha.1
   obtain ⟨b, rfl⟩ := Uy ha.2
   exact ⟨_, .mark a b⟩
 | 4, hf, ha =>
   obtain ⟨h1, h2⟩ := two hf
   have e1 := len0 h1
   subst e1
   obtain ⟨x, rfl⟩ := len1 h2
   have ha : x.all (fun z => WaysNeutral.natural z 63) = true := ha
   obtain ⟨l, rfl⟩ := cst_of ha
   exact ⟨_, .holds l⟩
 | 5, hf, ha =>
   obtain ⟨h1, h2⟩ := two hf
   obtain ⟨a, rfl⟩ := len1 h1
   obtain ⟨x, rfl⟩ := len1 h2
   have ha : (WaysNeutral.natural a 63 && x.all (fun z => WaysNeutral.natural z 63)) = true := ha
   rw [Bool.and_eq_true] at ha
   obtain ⟨a, rfl⟩ := Uy ha.1
   obtain ⟨l, rfl⟩ := cst_of ha.2
   exact ⟨_, .shows a l⟩
 | 6, hf, ha =>
   obtain ⟨h1, h2⟩ := two hf
   obtain ⟨a, rfl⟩ := len1 h1
   obtain ⟨x, rfl⟩ := len1 h2
   have ha : (WaysNeutral.natural a 63 && x.all (fun z => WaysNeutral.natural z 63)) = true := ha
   rw [Bool.and_eq_true] at ha
   obtain ⟨a, rfl⟩ := Uy ha.1
   obtain ⟨l, rfl⟩ := cst_of ha.2
   exact ⟨_, .far a l⟩
 | 7, hf, ha =>
   obtain ⟨h1, h2⟩ := two hf
   have e1 := len0 h1
   subst e1
   have e2 := len0 h2
   subst e2
   exact ⟨_, .alike⟩
 | 8, hf, ha =>
   obtain ⟨h1, h2⟩ := two hf
   have e1 := len0 h1
   subst e1
   have e2 := len0 h2
   subst e2
   exact ⟨_, .small⟩
 | 9, hf, ha =>
   obtain ⟨h1, h2⟩ := two hf
   obtain ⟨a, b, rfl⟩ := len2 h1
   have e2 := len0 h2
   subst e2
   have ha : (WaysNeutral.natural a 63 && WaysNeutral.natural b 63) = true := ha
   rw [Bool.and_eq_true] at ha
   obtain ⟨a, rfl⟩ := Uy ha.1
   obtain ⟨b, rfl⟩ := Uy ha.2
   exact ⟨_, .tells a b⟩
 | 10, hf, ha =>
   obtain ⟨h1, h2⟩ := two hf
   have e1 := len0 h1
   subst e1
   have e2 := len0 h2
   subst e2
   exact ⟨_, .told⟩
 | n + 11, hf, ha => cases hf
theorem whole2 (a b : Nat) : WaysNeutral.whole [(a : Int), (b : Int)] = true := Vf [a, b]
theorem whole1 (a : Nat) : WaysNeutral.whole [(a : Int)] = true := Vf [a]
theorem asked_step {j : Nat} {ns : List Int} {rows : List (List Int)} {c : Ways.Call} {st : Ways.State} (h : Asked j ns rows c) : WaysNeutral.step st (((j : Int) :: ns) :: rows) = ((Ways.step st c).1, sh (Ways.step st c).2) := by
 have e : WaysNeutral.callOf (((j : Int) :: ns) :: rows) = some c := by
   cases h with
   | graph m e =>
     show (if (WaysNeutral.whole (cst m) && WaysNeutral.whole (cst e)) = true then some (Ways.Call.graph (WaysNeutral.nats (cst m)) (WaysNeutral.nats (cst e))) else none) = _
     rw [Vf, Vf, nats_cst, nats_cst]; rfl
   | edge a b =>
     show (if WaysNeutral.whole [(a : Int), (b : Int)] = true then some (Ways.Call.edge ((a : Int)).toNat ((b : Int)).toNat) else none) = _
     rw [whole2, Int.toNat_natCast, Int.toNat_natCast]; rfl
   | cut a b =>
     show (if WaysNeutral.whole [(a : Int), (b : Int)] = true then some (Ways.Call.cut ((a : Int)).toNat ((b : Int)).toNat) else none) = _
     rw [whole2, Int.toNat_natCast, Int.toNat_natCast]; rfl
   | mark a b =>
     show (if WaysNeutral.whole [(a : Int), (b : Int)] = true then some (Ways.Call.mark ((a : Int)).toNat ((b : Int)).toNat) else none) = _
     rw [whole2, Int.toNat_natCast, Int.toNat_natCast]; rfl
   | tells a b =>
     show (if WaysNeutral.whole [(a : Int), (b : Int)] = true then some (Ways.Call.tells ((a : Int)).toNat ((b : Int)).toNat) else none) = _
     rw [whole2, Int.toNat_natCast, Int.toNat_natCast]; rfl
   | holds l =>
     show (if WaysNeutral.whole (cst l) = true then some (Ways.Call.holds (WaysNeutral.nats (cst l))) else none) = _
     rw [Vf, nats_cst]; rfl
   | shows a l =>
     show (if (WaysNeutral.whole [(a : Int)] && WaysNeutral.whole (cst l)) = true then some (Ways.Call.shows ((a : Int)).toNat (WaysNeutral.nats (cst l))) else none) = _
     rw [whole1, Vf, nats_cst, Int.toNat_natCast]; rfl
   | far a l =>
     show (if (WaysNeutral.whole [(a : Int)] && WaysNeutral.whole (cst l)) = true then some (Ways.Call.far ((a : Int)).toNat (WaysNeutral.nats (cst l))) else none) = _
     rw [whole1, Vf, nats_cst, Int.toNat_natCast]; rfl
   | alike => rfl
   | small => rfl
   | told => rfl
 unfold WaysNeutral.step
 rw [e]; rfl
theorem step_edge {g : Graph} (wf : WF g) (a b : Nat) : ∃ g' z, Ways.step (some g) (.edge a b) = (some g', Ways.says z) /\ WF g' := by
 rw [edge_step]
 split
 . exact ⟨g, _, rfl, wf⟩
 . split
   . exact ⟨g, _, rfl, wf⟩
   . exact ⟨_, _, rfl, WM.wf_edge wf⟩
theorem step_cut {g : Graph} (wf : WF g) (a b : Nat) : ∃ g' z, Ways.step (some g) (.cut a b) = (some g', Ways.says z) /\ WF g' := by
 rw [cut_step]
 split
 . exact ⟨g, _, rfl, wf⟩
 . rename_i q
   split
   . exact ⟨g, _, rfl, wf⟩
   . exact ⟨_, _, rfl, WM.wf_cut wf (Nat.lt_of_not_le fun z => q (.inl z)) _⟩
theorem step_mark {g : Graph} (wf : WF g) (a b : Nat) : ∃ g' z, Ways.step (some g) (.mark a b) = (some g', Ways.says z) /\ WF g' := by
 rw [mark_step]
 split
 . exact ⟨g, _, rfl, wf⟩
 . split
   . exact ⟨g, _, rfl, wf⟩
   . rename_i q
     exact ⟨_, _, rfl, WM.wf_mark wf (Nat.lt_of_not_le q)⟩
def Quiet : Ways.Call -> Prop
 | .holds _ => True
 | .shows _ _ => True
 | .far _ _ => True
 | .alike => True
 | .small => True
 | .tells _ _ => True
 | .told => True
 | _ => False
theorem quiet_step {g : Graph} {c : Ways.Call} (h : Quiet c) : (Ways.step (some g) c).1 = some g := by
 cases c with
 | graph _ _ => cases h
 | edge _ _ => cases h
 | cut _ _ => cases h
 | mark _ _ => cases h
 | holds l => rfl
 | shows a l =>
   show (if g.size <= a then _ else _ : Ways.State × Ways.Answer).1 = _
   split <;> rfl
 | far a l =>
   show (if g.size <= a then _ else _ : Ways.State × Ways.Answer).1 = _
   split <;> rfl
 | alike => rfl
 | small => rfl
 | tells a b =>
   show (if g.size <= a then _ else if g.size <= b then _ else _ : Ways.State × Ways.Answer).1 = _
   split
   . rfl
   . split <;> rfl
 | told => rfl
theorem none_step {c : Ways.Call} (h : ∀ m e, c ≠ .graph m e) : Ways.step none c = (none, Ways.says (-9)) := by
 cases c with
 | graph m e => exact absurd rfl (h m e)
 | edge a b => rfl
 | cut a b => rfl
 | mark a b => rfl
 | holds l => rfl
 | shows a l => rfl
 | far a l => rfl
 | alike => rfl
 | small => rfl
 | tells a b => rfl
 | told => rfl
section
variable {P : Program} {w : World} {K : PySem.W.Frag} {mg : Str -> Option Value} {base : Heap}
theorem done_on {CG CD : Addr} {H : Hp} {d dd ga m t : Addr} {as : List Addr} {g g' : Graph} {z : Int} {Q : VK} (hd : H d = some (.ins CD dd (df (.ref ga)))) (own : Own CG H ga m t as g) (wf' : WF g') (k : Done CG CD H d (d :: m :: t :: as) (some g') [z] Q) :
   ∀ (H' : Hp) (p : Addr) (as' : List Addr), (∀ b o, H b = some o -> b ≠ m -> b ≠ t -> H' b = some o) -> (∀ b ∈ as', b ∈ as \/ H b = none) -> Own CG H' ga m t as' g' -> H p = none -> AL H' p [z] -> Q (.ref p) H' := fun H' p as' kp has own' hp hal => by
 obtain ⟨dg, h1, h2, h3, h4, h5⟩ := id own.ex
 have dm : d ≠ m := Xj hd h2 (by intro z; cases z)
 have dt : d ≠ t := Xj hd h3 (by intro z; cases z)
 refine k H' p (d :: m :: t :: as') (fun b o hb hn => kp b o hb (fun z => hn (by simp [z])) fun z => hn (by simp [z])) ⟨dd, ga, m, t, as', kp _ _ hd dm dt, wf', own', rfl⟩ (fun b hb => ?_) hp hal
 simp only [List.mem_cons] at hb ⊢
 rcases hb with z | z | z | z
 . exact .inl (.inl z)
 . exact .inl (.inr (.inl z))
 . exact .inl (.inr (.inr (.inl z)))
 . exact (has b z).imp (fun y => .inr (.inr (.inr y))) id
theorem ok_answer_call {f CG CD : Addr} {fd : FuncData} (F : Fun K "answer_call" "answer_call" s_answer_call f fd) (T : Txt K mg) (TD : TxD K mg CD)
   (Danswer_graph : Def P w K mg base "answer_graph" 4 ["desk", "marks", "ends"] (spGraph CG CD)) (Danswer_edge : Def P w K mg base "answer_edge" 3 ["graph", "s", "t"] (spOn CG .edge)) (Danswer_cut : Def P w K mg base "answer_cut" 3 ["graph", "s", "t"] (spOn CG .cut)) (Danswer_mark : Def P w K mg base "answer_mark" 2 ["graph", "s", "marks"] (spOn CG .mark))
   (Danswer_holds : Def P w K mg base "answer_holds" 7 ["graph", "formula"] (spHolds CG)) (Danswer_shows : Def P w K mg base "answer_shows" 8 ["graph", "s", "formula"] (spShows CG)) (Danswer_far : Def P w K mg base "answer_far" 8 ["graph", "s", "formula"] (spFar CG)) (Danswer_alike : Def P w K mg base "answer_alike" 5 ["graph"] (spAlike CG))
   (Dgraph_of_classes : Def P w K mg base "graph_of_classes" 5 ["graph"] (spSmall CG)) (Dtold_graph : Def P w K mg base "told_graph" 2 ["graph"] (spTold CG)) (Danswer_tells : Def P w K mg base "answer_tells" 5 ["graph", "s", "t"] (spTells CG)) :
   FnOk P w K mg base CX0 10 f fd ["desk", "call", "numbers", "rows"] (spCall CG CD) := by
 refine F.ok sc_answer_call (fun vs H Q E h => ?_) (fun cdv A outer s H vs Q E hr h => ?_)
 . obtain ⟨_, _, _, _, _, _, _, _, rfl, _⟩ := h
   rfl
 obtain ⟨d, nl, rl, j, st, ow, ns, rows, rfl, hD, hN, hR, hf, hask, h16, k⟩ := h
 refine ⟨_, (Za (Yf (Zq Yr (pv 1) (Zy T.gGRAPH) (Zt _)) (Zc (Zg (Zk Danswer_graph hr.m (pa3 (pv 0) (Zm (Zd K) (pv 3) Zj (fun _ _ => rfl)) (Zm (Zd K) (pv 3) Zj (fun _ _ => rfl)))))) Zo)
   (Za (Yf (pt_cmp (pc_isN (Ye K (pv 0)))) (Zc (Zg (Zx (pa1 (Zy T.gNO_GRAPH))))) Zo)
   (Za (Yf (Zq Yr (pv 1) (Zy T.gEDGE) (Zt _)) (Zc (Zg (Zk Danswer_edge hr.m (pa3 (Ye K (pv 0)) (Zm (Zd K) (pv 2) Zj (fun _ _ => rfl)) (Zm (Zd K) (pv 2) Zj (fun _ _ => rfl)))))) Zo)
   (Za (Yf (Zq Yr (pv 1) (Zy T.gCUT) (Zt _)) (Zc (Zg (Zk Danswer_cut hr.m (pa3 (Ye K (pv 0)) (Zm (Zd K) (pv 2) Zj (fun _ _ => rfl)) (Zm (Zd K) (pv 2) Zj (fun _ _ => rfl)))))) Zo)
   (Za (Yf (Zq Yr (pv 1) (Zy T.gMARK) (Zt _)) (Zc (Zg (Zk Danswer_mark hr.m (pa3 (Ye K (pv 0)) (Zm (Zd K) (pv 2) Zj (fun _ _ => rfl)) (Zm (Zd K) (pv 2) Zj (fun _ _ => rfl)))))) Zo)
   (Za (Yf (Zq Yr (pv 1) (Zy T.gHOLDS) (Zt _)) (Zc (Zg (Zk Danswer_holds hr.m (pa2 (Ye K (pv 0)) (Zm (Zd K) (pv 3) Zj (fun _ _ => rfl)))))) Zo)
   (Za (Yf (Zq Yr (pv 1) (Zy T.gSHOWS) (Zt _)) (Zc (Zg (Zk Danswer_shows hr.m (pa3 (Ye K (pv 0)) (Zm (Zd K) (pv 2) Zj (fun _ _ => rfl)) (Zm (Zd K) (pv 3) Zj (fun _ _ => rfl)))))) Zo)
   (Za (Yf (Zq Yr (pv 1) (Zy T.gFAR) (Zt _)) (Zc (Zg (Zk Danswer_far hr.m (pa3 (Ye K (pv 0)) (Zm (Zd K) (pv 2) Zj (fun _ _ => rfl)) (Zm (Zd K) (pv 3) Zj (fun _ _ => rfl)))))) Zo)
   (Za (Yf (Zq Yr (pv 1) (Zy T.gALIKE) (Zt _)) (Zc (Zg (Zk Danswer_alike hr.m (pa1 (Ye K (pv 0)))))) Zo)
   (Za (Yf (Zq Yr (pv 1) (Zy T.gSMALL) (Zt _)) (Zc (Zg (Zk Dtold_graph hr.m (pa1 (Zk Dgraph_of_classes hr.m (pa1 (Ye K (pv 0)))))))) Zo)
   (Za (Yf (Zq Yr (pv 1) (Zy T.gTELLS) (Zt _)) (Zc (Zg (Zk Danswer_tells hr.m (pa3 (Ye K (pv 0)) (Zm (Zd K) (pv 2) Zj (fun _ _ => rfl)) (Zm (Zd K) (pv 2) Zj (fun _ _ => rfl)))))) Zo)
   (Zc (Zg (Zk Dtold_graph hr.m (pa1 (Ye K (pv 0))))))))))))))))), ?_⟩
 obtain ⟨c, hA⟩ := asked_of hf hask
 rw [asked_step hA] at k
 have k : Done CG CD H d ow (Ways.step st c).1 (sh (Ways.step st c).2) Q := k
 obtain ⟨ras, hr1, hr2, hr3⟩ := hR
 have row : ∀ (i : Nat) (l : List Nat), rows[i]? = some (cst l) -> ∃ b, (ras.map V.ref)[i]? = some (V.ref b) /\ NL H b l /\ l.length <= 16000 := fun i l hi => by
   have hil := Zi hi
   obtain ⟨b, hb⟩ : ∃ b, ras[i]? = some b := ⟨_, List.getElem?_eq_getElem (by omega)⟩
   obtain ⟨r, e, hal⟩ := hr3 i b hb
   rw [hi] at e
   cases e
   have := h16 _ (List.mem_of_getElem? hi)
   unfold cst at this
   rw [List.length_map] at this
   exact ⟨b, Zh hb, hal.nl, this⟩
 refine ⟨_, rfl, rfl, _, rfl, ?_⟩
 by_cases q0 : j = 0
 . subst q0
   cases hA with
   | graph m e =>
     obtain ⟨b0, e0, hb0, l0⟩ := row 0 m rfl
     obtain ⟨b1, e1, hb1, l1⟩ := row 1 e rfl
     exact ifE rfl ⟨_, rfl, _, rfl, rl, _, _, _, rfl, rfl, SqL.of hr1, Yh (j := 0) rfl e0, _, rfl, rl, _, _, _, rfl, rfl, SqL.of hr1, Yh (j := 1) rfl e1, d, b0, b1, st, ow, m, e, rfl, hD, hb0, hb1, l0, l1, k⟩
 refine ifN (show (j : Int) ≠ 0 by omega) ?_
 have ng : ∀ m e, c ≠ .graph m e := fun m e z => by
   subst z
   cases hA
   exact q0 rfl
 cases st with
 | none =>
   obtain ⟨dd, hd, how⟩ := id hD
   rw [none_step ng] at k
   refine ⟨_, rfl, d, CD, dd, _, _, rfl, hd, TD.cl, TD.nG, Yx _, _, rfl, ?_⟩
   exact ifT (by decide) ⟨le1, fun p hp => k.pure hD (Same.new hp) hp Zb⟩
 | some g =>
   obtain ⟨dd, ga, m, t, as, hd, wf, own, how⟩ := id hD
   refine ⟨_, rfl, d, CD, dd, _, _, rfl, hd, TD.cl, TD.nG, Yx _, _, rfl, ?_⟩
   refine ifF (decide_eq_false fun z => nomatch z) ⟨_, rfl, rfl, _, rfl, ?_⟩
   have pure_ : Quiet c -> ∀ {H' : Hp} {p : Addr}, Same H H' -> H p = none -> AL H' p (sh (Ways.step (some g) c).2) -> Q (.ref p) H' := fun hq {H' p} s' hp ha => by
     rw [quiet_step hq] at k
     exact k.pure hD s' hp ha
   cases hA with
   | graph m e => exact absurd rfl q0
   | edge a b =>
     obtain ⟨g', z, hst, wf'⟩ := step_edge wf a b
     rw [hst] at k
     subst how
     exact ifE rfl ⟨_, rfl, d, CD, dd, _, _, rfl, hd, TD.cl, TD.nG, Yx _, _, rfl, nl, _, _, _, rfl, rfl, SqL.of hN, Yh (j := 0) rfl rfl, _, rfl, nl, _, _, _, rfl, rfl, SqL.of hN, Yh (j := 1) rfl rfl, ga, m, t, as, g, g', a, b, z, rfl, wf, own, hst, done_on hd own wf' k⟩
   | cut a b =>
     refine ifN (by decide) ⟨_, rfl, rfl, _, rfl, ?_⟩
     obtain ⟨g', z, hst, wf'⟩ := step_cut wf a b
     rw [hst] at k
     subst how
     exact ifE rfl ⟨_, rfl, d, CD, dd, _, _, rfl, hd, TD.cl, TD.nG, Yx _, _, rfl, nl, _, _, _, rfl, rfl, SqL.of hN, Yh (j := 0) rfl rfl, _, rfl, nl, _, _, _, rfl, rfl, SqL.of hN, Yh (j := 1) rfl rfl, ga, m, t, as, g, g', a, b, z, rfl, wf, own, hst, done_on hd own wf' k⟩
   | mark a b =>
     refine ifN (by decide) ⟨_, rfl, rfl, _, rfl, ?_⟩
     refine ifN (by decide) ⟨_, rfl, rfl, _, rfl, ?_⟩
     obtain ⟨g', z, hst, wf'⟩ := step_mark wf a b
     rw [hst] at k
     subst how
     exact ifE rfl ⟨_, rfl, d, CD, dd, _, _, rfl, hd, TD.cl, TD.nG, Yx _, _, rfl, nl, _, _, _, rfl, rfl, SqL.of hN, Yh (j := 0) rfl rfl, _, rfl, nl, _, _, _, rfl, rfl, SqL.of hN, Yh (j := 1) rfl rfl, ga, m, t, as, g, g', a, b, z, rfl, wf, own, hst, done_on hd own wf' k⟩
   | holds l =>
     refine ifN (by decide) ⟨_, rfl, rfl, _, rfl, ?_⟩
     refine ifN (by decide) ⟨_, rfl, rfl, _, rfl, ?_⟩
     refine ifN (by decide) ⟨_, rfl, rfl, _, rfl, ?_⟩
     obtain ⟨b0, e0, hb0, l0⟩ := row 0 l rfl
     exact ifE rfl ⟨_, rfl, d, CD, dd, _, _, rfl, hd, TD.cl, TD.nG, Yx _, _, rfl, rl, _, _, _, rfl, rfl, SqL.of hr1, Yh (j := 0) rfl e0, ga, b0, g, l, rfl, wf, own.at_, hb0, fun H' p s' hp ha => pure_ trivial s' hp ha⟩
   | shows a l =>
     refine ifN (by decide) ⟨_, rfl, rfl, _, rfl, ?_⟩
     refine ifN (by decide) ⟨_, rfl, rfl, _, rfl, ?_⟩
     refine ifN (by decide) ⟨_, rfl, rfl, _, rfl, ?_⟩
     refine ifN (by decide) ⟨_, rfl, rfl, _, rfl, ?_⟩
     obtain ⟨b0, e0, hb0, l0⟩ := row 0 l rfl
     exact ifE rfl ⟨_, rfl, d, CD, dd, _, _, rfl, hd, TD.cl, TD.nG, Yx _, _, rfl, nl, _, _, _, rfl, rfl, SqL.of hN, Yh (j := 0) rfl rfl, _, rfl, rl, _, _, _, rfl, rfl, SqL.of hr1, Yh (j := 0) rfl e0, ga, b0, g, a, l, rfl, wf, own.at_, hb0, fun H' p s' hp ha => pure_ trivial s' hp ha⟩
   | far a l =>
     refine ifN (by decide) ⟨_, rfl, rfl, _, rfl, ?_⟩
     refine ifN (by decide) ⟨_, rfl, rfl, _, rfl, ?_⟩
     refine ifN (by decide) ⟨_, rfl, rfl, _, rfl, ?_⟩
     refine ifN (by decide) ⟨_, rfl, rfl, _, rfl, ?_⟩
     refine ifN (by decide) ⟨_, rfl, rfl, _, rfl, ?_⟩
     obtain ⟨b0, e0, hb0, l0⟩ := row 0 l rfl
     exact ifE rfl ⟨_, rfl, d, CD, dd, _, _, rfl, hd, TD.cl, TD.nG, Yx _, _, rfl, nl, _, _, _, rfl, rfl, SqL.of hN, Yh (j := 0) rfl rfl, _, rfl, rl, _, _, _, rfl, rfl, SqL.of hr1, Yh (j := 0) rfl e0, ga, b0, g, a, l, rfl, wf, own.at_, hb0, fun H' p s' hp ha => pure_ trivial s' hp ha⟩
   | alike =>
     refine ifN (by decide) ⟨_, rfl, rfl, _, rfl, ?_⟩
     refine ifN (by decide) ⟨_, rfl, rfl, _, rfl, ?_⟩
     refine ifN (by decide) ⟨_, rfl, rfl, _, rfl, ?_⟩
     refine ifN (by decide) ⟨_, rfl, rfl, _, rfl, ?_⟩
     refine ifN (by decide) ⟨_, rfl, rfl, _, rfl, ?_⟩
     refine ifN (by decide) ⟨_, rfl, rfl, _, rfl, ?_⟩
     exact ifE rfl ⟨_, rfl, d, CD, dd, _, _, rfl, hd, TD.cl, TD.nG, Yx _, ga, g, rfl, wf, own.at_, fun H' p s' hp ha => pure_ trivial s' hp ha⟩
   | small =>
     refine ifN (by decide) ⟨_, rfl, rfl, _, rfl, ?_⟩
     refine ifN (by decide) ⟨_, rfl, rfl, _, rfl, ?_⟩
     refine ifN (by decide) ⟨_, rfl, rfl, _, rfl, ?_⟩
     refine ifN (by decide) ⟨_, rfl, rfl, _, rfl, ?_⟩
     refine ifN (by decide) ⟨_, rfl, rfl, _, rfl, ?_⟩
     refine ifN (by decide) ⟨_, rfl, rfl, _, rfl, ?_⟩
     refine ifN (by decide) ⟨_, rfl, rfl, _, rfl, ?_⟩
     exact ifE rfl ⟨_, rfl, d, CD, dd, _, _, rfl, hd, TD.cl, TD.nG, Yx _, ga, g, rfl, wf, own.at_, fun H1 q s1 hq => ⟨q, g.small, rfl, fit_small wf, hq, fun H' p s' hp ha => pure_ trivial (s1.trans s') (s1.free hp) ha⟩⟩
   | tells a b =>
     refine ifN (by decide) ⟨_, rfl, rfl, _, rfl, ?_⟩
     refine ifN (by decide) ⟨_, rfl, rfl, _, rfl, ?_⟩
     refine ifN (by decide) ⟨_, rfl, rfl, _, rfl, ?_⟩
     refine ifN (by decide) ⟨_, rfl, rfl, _, rfl, ?_⟩
     refine ifN (by decide) ⟨_, rfl, rfl, _, rfl, ?_⟩
     refine ifN (by decide) ⟨_, rfl, rfl, _, rfl, ?_⟩
     refine ifN (by decide) ⟨_, rfl, rfl, _, rfl, ?_⟩
     refine ifN (by decide) ⟨_, rfl, rfl, _, rfl, ?_⟩
     exact ifE rfl ⟨_, rfl, d, CD, dd, _, _, rfl, hd, TD.cl, TD.nG, Yx _, _, rfl, nl, _, _, _, rfl, rfl, SqL.of hN, Yh (j := 0) rfl rfl, _, rfl, nl, _, _, _, rfl, rfl, SqL.of hN, Yh (j := 1) rfl rfl, ga, g, a, b, rfl, wf, own.at_, fun H' p s' hp ha => pure_ trivial s' hp ha⟩
   | told =>
     refine ifN (by decide) ⟨_, rfl, rfl, _, rfl, ?_⟩
     refine ifN (by decide) ⟨_, rfl, rfl, _, rfl, ?_⟩
     refine ifN (by decide) ⟨_, rfl, rfl, _, rfl, ?_⟩
     refine ifN (by decide) ⟨_, rfl, rfl, _, rfl, ?_⟩
     refine ifN (by decide) ⟨_, rfl, rfl, _, rfl, ?_⟩
     refine ifN (by decide) ⟨_, rfl, rfl, _, rfl, ?_⟩
     refine ifN (by decide) ⟨_, rfl, rfl, _, rfl, ?_⟩
     refine ifN (by decide) ⟨_, rfl, rfl, _, rfl, ?_⟩
     refine ifN (by decide) ?_
     exact ⟨_, rfl, d, CD, dd, _, _, rfl, hd, TD.cl, TD.nG, Yx _, ga, g, rfl, fit_wf wf, own.at_, fun H' p s' hp ha => pure_ trivial s' hp ha⟩
end
def Yd (K : PySem.W.Frag) (mg : Str -> Option Value) (x : Str) (st : Stmt) : Prop := ∃ f fd, Fun K x x st f fd /\ mg x = some (.ref f)
def HasMe (K : PySem.W.Frag) (C : Addr) (m qual : Str) (st : Stmt) : Prop := ∃ f fd, Fun K m qual st f fd /\ Meth K C m f
def HasMk (K : PySem.W.Frag) (C : Addr) (qual : Str) (st : Stmt) : Prop := ∃ f fd, Fun K "__init__" qual st f fd /\ Mk K C f
section
variable {K : PySem.W.Frag} {h : Heap} {mg : Str -> Option Value} {f C : Addr} {x qual : Str} {st : Stmt} {oc : Value} {od an : Option Addr} {osl : Array (Option Value)} {kV doc pm cdv ct : Value}
theorem Zw (X : K.In h) (G : h.Ns mainGlobals mg) (a : PySem.W.nsIn K mainGlobals x = some (some (.ref f))) (l : K.lookup f = some ⟨oc, od, .func (PySem.W.fnOf x x (Ub st) (Xm st) (Zf st) .none kV doc pm an cdv ct), osl⟩)
   (c : PySem.W.codeIn K cdv x = true) (k : PySem.W.keepIn K (.ref f) = true) : Yd K mg x st := ⟨f, _, fun_mk l c k, PySem.W.mg_of X G a⟩
theorem has_me (a : PySem.W.findIn K (.ref C) x = some (some (.ref f))) (i : PySem.W.isFn K (.ref f) = true) (l : K.lookup f = some ⟨oc, od, .func (PySem.W.fnOf x qual (Ub st) (Xm st) (Zf st) .none kV doc pm an cdv ct), osl⟩)
   (c : PySem.W.codeIn K cdv qual = true) (k : PySem.W.keepIn K (.ref f) = true) : HasMe K C x qual st := ⟨f, _, fun_mk l c k, ⟨a, i, k⟩⟩
theorem has_mk (m : PySem.W.makesIn K C = true) (a : PySem.W.findIn K (.ref C) "__init__" = some (some (.ref f))) (i : PySem.W.isFn K (.ref f) = true) (kc : PySem.W.keepIn K (.ref C) = true)
   (l : K.lookup f = some ⟨oc, od, .func (PySem.W.fnOf "__init__" qual (Ub st) (Xm st) (Zf st) .none kV doc pm an cdv ct), osl⟩) (c : PySem.W.codeIn K cdv qual = true) (k : PySem.W.keepIn K (.ref f) = true) : HasMk K C qual st :=
 ⟨f, _, fun_mk l c k, ⟨m, a, i, kc⟩⟩
theorem na {m : Str} (e : PySem.W.findIn K (.ref C) m = some none) : NoAttr K C m := e
theorem gi {v : Int} {t : Tok} (X : K.In h) (G : h.Ns mainGlobals mg) (e : PySem.W.nsIn K mainGlobals x = some (some (.int v t))) : ∃ t, mg x = some (.int v t) := ⟨t, PySem.W.mg_of X G e⟩
end
theorem txB {K : PySem.W.Frag} {h : Heap} {mg : Str -> Option Value} {aB : Addr} {od : Option Addr} {n : Nat} {sl : Array (Option Value)} {t0 t1 t2 t3 t4 t5 t6 t7 t8 t9 t10 t11 t12 : Tok} (X : K.In h) (G : h.Ns mainGlobals mg) (a : PySem.W.nsIn K mainGlobals "BEHIND" = some (some (.ref aB)))
   (l : K.lookup aB = some ⟨.type "tuple", od, .seq #[.int 0 t0, .int 0 t1, .int 1 t2, .int 2 t3, .int 2 t4, .int 1 t5, .int 1 t6, .int 1 t7, .int 1 t8, .int 1 t9, .int 1 t10, .int 2 t11, .int 2 t12] n, sl⟩) : TxB K mg aB :=
 ⟨PySem.W.mg_of X G a, fun H => .inr ⟨_, _, n, l, rfl, rfl, by show 13 <= sizeLine; decide, .cons ⟨_, rfl⟩ (.cons ⟨_, rfl⟩ (.cons ⟨_, rfl⟩ (.cons ⟨_, rfl⟩ (.cons ⟨_, rfl⟩ (.cons ⟨_, rfl⟩ (.cons ⟨_, rfl⟩ (.cons ⟨_, rfl⟩ (.cons ⟨_, rfl⟩ (.cons ⟨_, rfl⟩ (.cons ⟨_, rfl⟩ (.cons ⟨_, rfl⟩ (.cons ⟨_, rfl⟩ (.nil)))))))))))))⟩⟩
theorem txF {K : PySem.W.Frag} {h : Heap} {mg : Str -> Option Value} {aF : Addr} {od od0 od1 od2 od3 od4 od5 od6 od7 od8 od9 od10 : Option Addr} {n n0 n1 n2 n3 n4 n5 n6 n7 n8 n9 n10 : Nat} {sl sl0 sl1 sl2 sl3 sl4 sl5 sl6 sl7 sl8 sl9 sl10 : Array (Option Value)} {f0 f1 f2 f3 f4 f5 f6 f7 f8 f9 f10 : Addr} {t0 u0 t1 u1 t2 u2 t3 u3 t4 u4 t5 u5 t6 u6 t7 u7 t8 u8 t9 u9 t10 u10 : Tok} (X : K.In h) (G : h.Ns mainGlobals mg) (a : PySem.W.nsIn K mainGlobals "FORMS" = some (some (.ref aF)))
   (l : K.lookup aF = some ⟨.type "tuple", od, .seq #[.ref f0, .ref f1, .ref f2, .ref f3, .ref f4, .ref f5, .ref f6, .ref f7, .ref f8, .ref f9, .ref f10] n, sl⟩)
   (l0 : K.lookup f0 = some ⟨.type "tuple", od0, .seq #[.int 0 t0, .int 2 u0] n0, sl0⟩)
   (l1 : K.lookup f1 = some ⟨.type "tuple", od1, .seq #[.int 2 t1, .int 0 u1] n1, sl1⟩)
   (l2 : K.lookup f2 = some ⟨.type "tuple", od2, .seq #[.int 2 t2, .int 0 u2] n2, sl2⟩)
   (l3 : K.lookup f3 = some ⟨.type "tuple", od3, .seq #[.int 2 t3, .int 0 u3] n3, sl3⟩)
   (l4 : K.lookup f4 = some ⟨.type "tuple", od4, .seq #[.int 0 t4, .int 1 u4] n4, sl4⟩)
   (l5 : K.lookup f5 = some ⟨.type "tuple", od5, .seq #[.int 1 t5, .int 1 u5] n5, sl5⟩)
   (l6 : K.lookup f6 = some ⟨.type "tuple", od6, .seq #[.int 1 t6, .int 1 u6] n6, sl6⟩)
   (l7 : K.lookup f7 = some ⟨.type "tuple", od7, .seq #[.int 0 t7, .int 0 u7] n7, sl7⟩)
   (l8 : K.lookup f8 = some ⟨.type "tuple", od8, .seq #[.int 0 t8, .int 0 u8] n8, sl8⟩)
   (l9 : K.lookup f9 = some ⟨.type "tuple", od9, .seq #[.int 2 t9, .int 0 u9] n9, sl9⟩)
   (l10 : K.lookup f10 = some ⟨.type "tuple", od10, .seq #[.int 0 t10, .int 0 u10] n10, sl10⟩)
   : TxF K mg aF := by
 have two : ∀ {f : Addr} {od : Option Addr} {n : Nat} {sl : Array (Option Value)} {x y : Nat} {t u : Tok}, K.lookup f = some ⟨.type "tuple", od, .seq #[.int (x : Int) t, .int (y : Int) u] n, sl⟩ -> ∀ H, SqT K H f [nv x, nv y] := fun {f od n sl x y t u} l H => .inr ⟨_, _, n, l, rfl, rfl, by show 2 <= sizeLine; decide, .cons ⟨_, rfl⟩ (.cons ⟨_, rfl⟩ .nil)⟩
 refine ⟨PySem.W.mg_of X G a, [f0, f1, f2, f3, f4, f5, f6, f7, f8, f9, f10], fun H => .inr ⟨_, _, n, l, rfl, rfl, by show 11 <= sizeLine; decide, .cons rfl (.cons rfl (.cons rfl (.cons rfl (.cons rfl (.cons rfl (.cons rfl (.cons rfl (.cons rfl (.cons rfl (.cons rfl (.nil)))))))))))⟩, fun j p hj => ?_⟩
 match j, hj with
 | 0, hj => cases hj; exact ⟨f0, rfl, two (x := 0) (y := 2) l0⟩
 | 1, hj => cases hj; exact ⟨f1, rfl, two (x := 2) (y := 0) l1⟩
 | 2, hj => cases hj; exact ⟨f2, rfl, two (x := 2) (y := 0) l2⟩
 | 3, hj => cases hj; exact ⟨f3, rfl, two (x := 2) (y := 0) l3⟩
 | 4, hj => cases hj; exact ⟨f4, rfl, two (x := 0) (y := 1) l4⟩
 | 5, hj => cases hj; exact ⟨f5, rfl, two (x := 1) (y := 1) l5⟩
 | 6, hj => cases hj; exact ⟨f6, rfl, two (x := 1) (y := 1) l6⟩
 | 7, hj => cases hj; exact ⟨f7, rfl, two (x := 0) (y := 0) l7⟩
 | 8, hj => cases hj; exact ⟨f8, rfl, two (x := 0) (y := 0) l8⟩
 | 9, hj => cases hj; exact ⟨f9, rfl, two (x := 2) (y := 0) l9⟩
 | 10, hj => cases hj; exact ⟨f10, rfl, two (x := 0) (y := 0) l10⟩
structure Tops (K : PySem.W.Frag) (mg : Str -> Option Value) (CG CD CR aB aF : Addr) : Prop where
 T : Txt K mg
 B : TxB K mg aB
 TF : TxF K mg aF
 TG : TxG K mg CG
 TD : TxD K mg CD
 TR : TxR K mg CR
 i_Graph : HasMk K CG "Graph.__init__" s_Graph_init
 f_is_graph : Yd K mg "is_graph" s_is_graph
 f_are_marks : Yd K mg "are_marks" s_are_marks
 f_has_mark : Yd K mg "has_mark" s_has_mark
 f_graph_of : Yd K mg "graph_of" s_graph_of
 f_has_state : Yd K mg "has_state" s_has_state
 f_has_states : Yd K mg "has_states" s_has_states
 f_has_edge : Yd K mg "has_edge" s_has_edge
 f_add_edge : Yd K mg "add_edge" s_add_edge
 f_cut_edge : Yd K mg "cut_edge" s_cut_edge
 f_ends_of : Yd K mg "ends_of" s_ends_of
 f_ways_on : Yd K mg "ways_on" s_ways_on
 f_rounds_of : Yd K mg "rounds_of" s_rounds_of
 f_parted_further : Yd K mg "parted_further" Vj
 f_classes_by : Yd K mg "classes_by" s_classes_by
 f_classes_among : Yd K mg "classes_among" Vw
 f_classes_of : Yd K mg "classes_of" s_classes_of
 f_graph_of_classes : Yd K mg "graph_of_classes" Xq
 f_parts_of : Yd K mg "parts_of" s_parts_of
 f_part_at : Yd K mg "part_at" s_part_at
 f_where_each_holds : Yd K mg "where_each_holds" Xp
 f_where_one_holds : Yd K mg "where_one_holds" Xz
 f_where_ways_are : Yd K mg "where_ways_are" Vh
 f_everywhere : Yd K mg "everywhere" s_everywhere
 f_negated : Yd K mg "negated" s_negated
 f_some_next : Yd K mg "some_next" s_some_next
 f_all_next : Yd K mg "all_next" s_all_next
 f_until : Yd K mg "until" s_until
 f_taken_in : Yd K mg "taken_in" Uk
 f_what_tells : Yd K mg "what_tells" s_what_tells
 f_parted_pairs : Yd K mg "parted_pairs" Um
 f_told_by_marks : Yd K mg "told_by_marks" Vv
 f_told_by_next : Yd K mg "told_by_next" Ui
 f_those_beyond : Yd K mg "those_beyond" Uj
 f_behind : Yd K mg "behind" s_behind
 f_can_be_shown : Yd K mg "can_be_shown" Uq
 f_way_that_shows : Yd K mg "way_that_shows" Vi
 f_least_next : Yd K mg "least_next" s_least_next
 f_way_kept_up : Yd K mg "way_kept_up" Qu
 f_shortest_way : Yd K mg "shortest_way" Ul
 f_fewest_steps : Yd K mg "fewest_steps" Uo
 f_steps_to : Yd K mg "steps_to" s_steps_to
 i_Desk : HasMk K CD "Desk.__init__" s_Desk_init
 f_answer_call : Yd K mg "answer_call" s_answer_call
 f_answer_graph : Yd K mg "answer_graph" Uu
 f_answer_edge : Yd K mg "answer_edge" Qx
 f_answer_cut : Yd K mg "answer_cut" s_answer_cut
 f_answer_mark : Yd K mg "answer_mark" Qw
 f_answer_holds : Yd K mg "answer_holds" Ut
 f_answer_shows : Yd K mg "answer_shows" Us
 f_answer_far : Yd K mg "answer_far" s_answer_far
 f_answer_alike : Yd K mg "answer_alike" Uv
 f_answer_tells : Yd K mg "answer_tells" Ur
 f_told_graph : Yd K mg "told_graph" s_told_graph
 f_counted : Yd K mg "counted" s_counted
 f_with_length : Yd K mg "with_length" Qt
 i_Reader : HasMk K CR "Reader.__init__" s_Reader_init
 m_Reader_is_done : HasMe K CR "is_done" "Reader.is_done" Vk
 m_Reader_take : HasMe K CR "take" "Reader.take" s_Reader_take
 m_Reader_take_row : HasMe K CR "take_row" "Reader.take_row" Va
 f_answers : Yd K mg "answers" s_answers
 f_answer_next : Yd K mg "answer_next" Qv
section
variable {P : Program} {w : World} {K : PySem.W.Frag} {mg : Str -> Option Value} {base : Heap}
theorem mk_def {x : Str} {st : Stmt} {ps : List Str} {sp : Sp} {k : Nat} (h : Yd K mg x st) (ok : ∀ f fd, Fun K x x st f fd -> FnOk P w K mg base CX0 k f fd ps sp)
   (hb : ∀ (kV doc pm : Value) (an : Option Addr) (cdv ct : Value) (us : List Value), us.length = ps.length -> bindArgs (PySem.W.fnOf x x (Ub st) (Xm st) (Zf st) .none kV doc pm an cdv ct) ⟨us, []⟩ = pure (ps.zip us) := by
     intro _ _ _ _ _ _ us hl
     rcases us with _ | ⟨_, _ | ⟨_, _ | ⟨_, _ | ⟨_, _ | ⟨_, _⟩⟩⟩⟩⟩ <;> first | rfl | cases hl) : Def P w K mg base x k ps sp := by
 obtain ⟨f, fd, F, hm⟩ := h
 exact ⟨f, fd, hm, ok f fd F, F.kp, F.binds hb⟩
theorem mk_meth {C : Addr} {m qual : Str} {st : Stmt} {ps : List Str} {sp : Sp} {k : Nat} (cl : Cls K C) (h : HasMe K C m qual st) (ok : ∀ f fd, Fun K m qual st f fd -> FnOk P w K mg base CX0 k f fd ps sp)
   (hb : ∀ (kV doc pm : Value) (an : Option Addr) (cdv ct : Value) (us : List Value), us.length = ps.length -> bindArgs (PySem.W.fnOf m qual (Ub st) (Xm st) (Zf st) .none kV doc pm an cdv ct) ⟨us, []⟩ = pure (ps.zip us)) : MethD P w K mg base C m k ps sp := by
 obtain ⟨f, fd, F, hm⟩ := h
 exact ⟨cl, f, fd, hm, ok f fd F, F.binds hb⟩
theorem chain {CG CD CR aB aF : Addr} (t : Tops K mg CG CD CR aB aF) (hcall : Def P w K mg base "answer_call" 10 ["desk", "call", "numbers", "rows"] (spCall CG CD)) {f : Addr} {fd : FuncData} (F : Fun K "answers" "answers" s_answers f fd) : FnOk P w K mg base CX0 12 f fd ["calls"] (spAns K) := by
 have T := t.T
 have Dnext : Def P w K mg base "answer_next" 11 ["reader", "desk"] (spNext CG CD CR K) := by
   have Mtake : MethD P w K mg base CR "take" 1 ["self", "many"] (spTake CR K) := mk_meth t.TR.cl t.m_Reader_take (fun f fd F => ok_Reader_take F T t.TR) fun _ _ _ _ _ _ us hl => match us, hl with | [_, _], _ => rfl
   have Mrow : MethD P w K mg base CR "take_row" 2 ["self"] (spTakeRow CR K) := mk_meth t.TR.cl t.m_Reader_take_row (fun f fd F => ok_Reader_take_row F T t.TR Mtake) fun _ _ _ _ _ _ us hl => match us, hl with | [_], _ => rfl
   exact mk_def t.f_answer_next (fun f fd F => ok_answer_next (kn := 8) F T t.TF t.TR Mtake Mrow hcall) fun _ _ _ _ _ _ us hl => match us, hl with | [_, _], _ => rfl
 have Mdone : MethD P w K mg base CR "is_done" 1 ["self"] (spIsDone CR K) := mk_meth t.TR.cl t.m_Reader_is_done (fun f fd F => ok_Reader_is_done F T t.TR) fun _ _ _ _ _ _ us hl => match us, hl with | [_], _ => rfl
 obtain ⟨fR, fdR, FR, MR⟩ := t.i_Reader
 obtain ⟨fD, fdD, FD, MD⟩ := t.i_Desk
 exact ok_answers (kn := 9) F T t.TR t.TD MR (ok_Reader_init FR t.TR) (FR.binds fun _ _ _ _ _ _ us hl => match us, hl with | [_, _], _ => rfl) MD (ok_Desk_init FD t.TD) (FD.binds fun _ _ _ _ _ _ us hl => match us, hl with | [_], _ => rfl) Mdone Dnext
theorem calls {CG CD CR aB aF : Addr} (t : Tops K mg CG CD CR aB aF) : Def P w K mg base "answer_call" 10 ["desk", "call", "numbers", "rows"] (spCall CG CD) := by
 have T := t.T
 have mk := @mk_def P w K mg base
 have Deverywhere := mk t.f_everywhere fun f fd F => ok_everywhere F
 have Dnegated := mk t.f_negated fun f fd F => ok_negated F
 obtain ⟨fS, fdS, FS, hmS⟩ := t.f_some_next
 obtain ⟨fA, fdA, FA, hmA⟩ := t.f_all_next
 have DS : DefA P w K mg base "some_next" fS 1 ["onward", "held"] (Qs Uh) := ⟨hmS, FS.kp, fdS, ok_some_next FS T, FS.binds fun _ _ _ _ _ _ us hl => match us, hl with | [_, _], _ => rfl⟩
 have DA : DefA P w K mg base "all_next" fA 1 ["onward", "held"] (Qs allF) := ⟨hmA, FA.kp, fdA, ok_all_next FA T, FA.binds fun _ _ _ _ _ _ us hl => match us, hl with | [_, _], _ => rfl⟩
 have Dtaken := mk t.f_taken_in fun f fd F => ok_taken_in F T DS DA
 have Duntil := mk t.f_until fun f fd F => ok_until F T Dtaken
 have Dways := mk t.f_where_ways_are fun f fd F => ok_where_ways_are F T DS DA Duntil Deverywhere Dnegated
 have Don := mk t.f_ways_on fun f fd F => ok_ways_on F T t.TG
 have Dmk := mk t.f_has_mark fun f fd F => ok_has_mark F T
 have Done' := mk t.f_where_one_holds fun f fd F => ok_where_one_holds F T t.TG Deverywhere Dnegated Don Dways Dmk
 have Deach := mk t.f_where_each_holds fun f fd F => ok_where_each_holds F T t.B Done'
 have Dleast := mk t.f_least_next fun f fd F => ok_least_next F T
 have Dkept := mk t.f_way_kept_up fun f fd F => ok_way_kept_up F Dleast
 have Dsteps := mk t.f_steps_to fun f fd F => ok_steps_to F T DS.def
 have Dshort := mk t.f_shortest_way fun f fd F => ok_shortest_way F T Dsteps Dleast
 have Dcan := mk t.f_can_be_shown fun f fd F => ok_can_be_shown F T
 have Dway := mk t.f_way_that_shows fun f fd F => ok_way_that_shows F T Don Dkept Deach Dleast Dshort Deverywhere
 have Dpart := mk t.f_part_at fun f fd F => ok_part_at F T t.B
 have Dparts := mk t.f_parts_of fun f fd F => ok_parts_of F T t.B Dpart
 have Dare := mk t.f_are_marks fun f fd F => ok_are_marks F T
 have Dis := mk t.f_is_graph fun f fd F => ok_is_graph F T Dare
 have Dhs := mk t.f_has_state fun f fd F => ok_has_state F T t.TG
 have Dhe := mk t.f_has_edge fun f fd F => ok_has_edge F T t.TG
 have Dadd := mk t.f_add_edge fun f fd F => ok_add_edge F T t.TG
 have Dcut := mk t.f_cut_edge fun f fd F => ok_cut_edge F T t.TG
 obtain ⟨fG, fdG, FG, MG⟩ := t.i_Graph
 have Dgo := mk t.f_graph_of fun f fd F => ok_graph_of F T t.TG MG (ok_Graph_init FG t.TG) (FG.binds fun _ _ _ _ _ _ us hl => match us, hl with | [_, _, _], _ => rfl) Dhe Dadd
 have Dwl := mk t.f_with_length fun f fd F => ok_with_length F T
 have Dhss := mk t.f_has_states fun f fd F => ok_has_states F Dhs
 have Dco := mk t.f_counted fun f fd F => ok_counted F T Dwl
 have Dag := mk t.f_answer_graph fun f fd F => ok_answer_graph F T t.TD Dis Dgo
 have Dae := mk t.f_answer_edge fun f fd F => ok_answer_edge F T Dhss Dhe Dadd
 have Dac := mk t.f_answer_cut fun f fd F => ok_answer_cut F T Dhss Dhe Dcut
 have Dam := mk t.f_answer_mark fun f fd F => ok_answer_mark F T t.TG Dhs Dare
 have Dah := mk t.f_answer_holds fun f fd F => ok_answer_holds F T Dparts Deach Dco
 have Dash := mk t.f_answer_shows fun f fd F => ok_answer_shows F T Dhs Dparts Deach Dcan Dway Dco
 have Dfew := mk t.f_fewest_steps fun f fd F => ok_fewest_steps F T Don Dsteps Deverywhere Deach
 have Daf := mk t.f_answer_far fun f fd F => ok_answer_far F T Dhs Dparts Dfew
 have Dby := mk t.f_classes_by fun f fd F => ok_classes_by F T
 have Damo := mk t.f_classes_among fun f fd F => ok_classes_among F T
 have Dfur := mk t.f_parted_further fun f fd F => ok_parted_further F T Dby Damo
 have Drnd := mk t.f_rounds_of fun f fd F => ok_rounds_of F T t.TG Don Dby Dfur
 have Dcls := mk t.f_classes_of fun f fd F => ok_classes_of F Drnd
 have Daa := mk t.f_answer_alike fun f fd F => ok_answer_alike F T Dcls Dwl
 have Dgoc := mk t.f_graph_of_classes fun f fd F => ok_graph_of_classes F T t.TG MG (ok_Graph_init FG t.TG) (FG.binds fun _ _ _ _ _ _ us hl => match us, hl with | [_, _, _], _ => rfl) Don Dcls Damo
 have Deo := mk t.f_ends_of fun f fd F => ok_ends_of F T t.TG
 have Dtg := mk t.f_told_graph fun f fd F => ok_told_graph F T t.TG Dwl Deo
 have Dpp := mk t.f_parted_pairs fun f fd F => ok_parted_pairs F T
 have Dtm := mk t.f_told_by_marks fun f fd F => ok_told_by_marks F T Dmk
 have Dtb := mk t.f_those_beyond fun f fd F => ok_those_beyond F T
 have Dbh := mk t.f_behind fun f fd F => ok_behind F T
 have Dtn := mk t.f_told_by_next fun f fd F => ok_told_by_next F T Dtb Dbh
 have Dwt := mk t.f_what_tells fun f fd F => ok_what_tells F T t.TG Don Drnd Dpp Dtm Dtn
 have Dat := mk t.f_answer_tells fun f fd F => ok_answer_tells F T Dhss Dcls Dwt Dco
 exact mk t.f_answer_call (fun f fd F => ok_answer_call F T t.TD Dag Dae Dac Dam Dah Dash Daf Daa Dgoc Dtg Dat)
theorem ends {CG CD CR aB aF fa : Addr} (t : Tops K mg CG CD CR aB aF) (hfa : mg "answers" = some (.ref fa)) :
   ∃ fd : FuncData, (∀ (s : Shared) (us : List Value), us.length = (["calls"] : List Str).length -> BindsTo s fd ⟨us, []⟩ ((["calls"] : List Str).zip us)) /\ ∀ base : Heap, K.In base -> base.Ns mainGlobals mg -> FnOk P w K mg base CX0 12 fa fd ["calls"] (spAns K) := by
 obtain ⟨f, fd, F, hm⟩ := t.f_answers
 have e : f = fa := by
   have z := hm.symm.trans hfa
   cases z; rfl
 subst e
 refine ⟨fd, fun s us hu => ?_, fun base _ _ => chain t (calls t) F⟩
 obtain ⟨oc, od, kV, doc, pm, an, cdv, ct, osl, rfl, lk, hcd⟩ := F.ex
 match us, hu with
 | [_], _ => exact .of_eq rfl
end
end Wy
end
open PySem PySem.W PyProof.Rows
set_option Elab.async false
namespace PySem.W.Fast
def tw1333365553207268672:=0
def tw560806749065979264:=0
def tw12917798558253532323:=0
def tw12077929456830689029:=0
def tw6204620932841847749:=0
def tw13319591486296248902:=0
def tw17233040106436628711:=0
def tw8607152113919488519:=0
def tw12209831677218352553:=0
def tw15049329187283080877:=0
def tw8956742533747291981:=0
def tw1092485978667197359:=0
def tw18071688415317579954:=0
def tw314927644871065619:=0
def tw1137541466189116436:=0
def tw6975096416794179188:=0
def tw3632406989319029460:=0
def tw12896588769014454134:=0
def tw15068797307992879257:=0
def tw2848962128554528826:=0
def tw3495638972785442045:=0
def tw11217871375032518013:=0
def tw10533594079634851384:=0
def tw13851244974203525874:=0
def tw15489217247450572403:=0
def tw3826115719520322179:=0
def tw6900911702901553051:=0
def tw7960650598142775296:=0
def tw9625176722617812045:=0
def tw9104928287930626799:=0
def tw2466196776889656390:=0
def tw17161465439003919328:=0
def tw8576797798619860742:=0
def tw15450086616297375916:=0
def tw13400115559068581633:=0
def tw10431056974606143253:=0
def tw13765945248328874431:=0
def tw10496227785952949908:=0
def tw11675542195532278493:=0
def tw11077031352261298237:=0
def tw12511722951112442632:=0
def tw14314463486817154030:=0
def tw14663943009015352890:=0
def tw2143400888928152631:=0
def tw7639534779516466808:=0
def tw5476705984612003083:=0
def tw5681736381231297812:=0
def tw17416032144872051531:=0
def tw15054297981517760753:=0
def tw4326237388245458980:=0
def tw15429264126036076395:=0
def tw17323381675621586098:=0
def tw15533401971052362715:=0
def tw2746964573012383159:=0
def tw4071988275352093669:=0
def tw6638485304012204769:=0
def tw11254901104063247551:=0
def tw14590194941632259626:=0
def tw15774483161172620838:=0
def tw6870114584685427991:=0
def tw1347695946344148360:=0
def tw13790029987535226308:=0
def tw1938619450065817143:=0
def tw2926175276779633077:=0
def tw15678496330248448179:=0
def tw7828879803220682205:=0
def tw5305120423768444767:=0
def tw14895211848446535573:=0
def tw16150925441640368317:=0
def tw9290007537054822265:=0
def tw1764995091966631927:=0
def tw11959527378043505548:=0
def tw8761874694970527821:=0
def tw4806043751442494216:=0
def tw16334396368476262457:=0
def tw1325630826409529095:=0
def tw16842077037595761601:=0
def tw15823771972436018137:=0
def tw2306553611441468522:=0
def tw16773385427530967016:=0
def tw3820046202405394376:=0
def tw16300310383173746731:=0
def tw9652489779107134063:=0
def tw3232642874475139886:=0
def tw8015046737174357264:=0
def tw4368762607083675456:=0
def tw308998873313548034:=0
end PySem.W.Fast
set_option maxRecDepth 100000 in
set_option maxHeartbeats 0 in
theorem PySem.Challenge.cw_somewayall_s01_answers_holds : PySem.Challenge.rw_somewayall_s01_answers.Holds := by
 w_on; k_headS; (case hw => exact ⟨[.list []], by decide +kernel, by decide +kernel⟩)
 k_fillS
 refine L2.walk_specK (r := PySem.Challenge.rw_somewayall_s01_answers) (k := 12) (CX := L2.CX0) (ps := ["calls"]) (sp := Wy.spAns) (by decide +kernel) rfl rfl ⟨rfl, by decide, by decide⟩ (fun w h Y => PySem.W.kIn_of Y) ?F ?S (fun _ _ _ _ z => z)
 case F =>
   intro w mg fa h Y KX G hmg
   refine' Wy.ends (CG := _) (CD := _) (CR := _) (aB := _) (aF := _) ⟨⟨Wy.gi KX G ?x3, Wy.gi KX G ?x4, Wy.gi KX G ?x5, Wy.gi KX G ?x6, Wy.gi KX G ?x7, Wy.gi KX G ?x8, Wy.gi KX G ?x9, Wy.gi KX G ?x10, Wy.gi KX G ?x11, Wy.gi KX G ?x12, Wy.gi KX G ?x13, Wy.gi KX G ?x14, Wy.gi KX G ?x15, Wy.gi KX G ?x16, Wy.gi KX G ?x17, Wy.gi KX G ?x18, Wy.gi KX G ?x19, Wy.gi KX G ?x20, Wy.gi KX G ?x21, Wy.gi KX G ?x22, Wy.gi KX G ?x23, Wy.gi KX G ?x24, Wy.gi KX G ?x25, Wy.gi KX G ?x26, Wy.gi KX G ?x27, Wy.gi KX G ?x28, Wy.gi KX G ?x29, Wy.gi KX G ?x30, Wy.gi KX G ?x31, Wy.gi KX G ?x32, Wy.gi KX G ?x33, Wy.gi KX G ?x34, Wy.gi KX G ?x35, Wy.gi KX G ?x36, PySem.W.mg_none_of KX G ?x37, PySem.W.mg_none_of KX G ?x38, PySem.W.mg_none_of KX G ?x39, PySem.W.mg_none_of KX G ?x40, PySem.W.mg_none_of KX G ?x41, PySem.W.mg_none_of KX G ?x42, PySem.W.mg_none_of KX G ?x43, PySem.W.mg_none_of KX G ?x44, PySem.W.mg_none_of KX G ?x45, PySem.W.mg_none_of KX G ?x46, PySem.W.mg_none_of KX G ?x47⟩,
     Wy.txB KX G ?x48 ?x49,
     Wy.txF KX G ?x50 ?x51 ?x52 ?x53 ?x54 ?x55 ?x56 ?x57 ?x58 ?x59 ?x60 ?x61 ?x62,
     ⟨⟨?x63, ?x64, ?x65, ?x66⟩, Wy.na ?x67, Wy.na ?x68, PySem.W.mg_of KX G ?x0⟩,
     ⟨⟨?x69, ?x70, ?x71, ?x72⟩, Wy.na ?x73, PySem.W.mg_of KX G ?x1⟩,
     ⟨⟨?x74, ?x75, ?x76, ?x77⟩, Wy.na ?x78, Wy.na ?x79, PySem.W.mg_of KX G ?x2⟩,
     Wy.has_mk ?x80 ?x81 ?x82 ?x83 ?x84 ?x85 ?x86,
     Wy.Zw KX G ?x87 ?x88 ?x89 ?x90,
     Wy.Zw KX G ?x91 ?x92 ?x93 ?x94,
     Wy.Zw KX G ?x95 ?x96 ?x97 ?x98,
     Wy.Zw KX G ?x99 ?x100 ?x101 ?x102,
     Wy.Zw KX G ?x103 ?x104 ?x105 ?x106,
     Wy.Zw KX G ?x107 ?x108 ?x109 ?x110,
     Wy.Zw KX G ?x111 ?x112 ?x113 ?x114,
     Wy.Zw KX G ?x115 ?x116 ?x117 ?x118,
     Wy.Zw KX G ?x119 ?x120 ?x121 ?x122,
     Wy.Zw KX G ?x123 ?x124 ?x125 ?x126,
     Wy.Zw KX G ?x127 ?x128 ?x129 ?x130,
     Wy.Zw KX G ?x131 ?x132 ?x133 ?x134,
     Wy.Zw KX G ?x135 ?x136 ?x137 ?x138,
     Wy.Zw KX G ?x139 ?x140 ?x141 ?x142,
     Wy.Zw KX G ?x143 ?x144 ?x145 ?x146,
     Wy.Zw KX G ?x147 ?x148 ?x149 ?x150,
     Wy.Zw KX G ?x151 ?x152 ?x153 ?x154,
     Wy.Zw KX G ?x155 ?x156 ?x157 ?x158,
     Wy.Zw KX G ?x159 ?x160 ?x161 ?x162,
     Wy.Zw KX G ?x163 ?x164 ?x165 ?x166,
     Wy.Zw KX G ?x167 ?x168 ?x169 ?x170,
     Wy.Zw KX G ?x171 ?x172 ?x173 ?x174,
     Wy.Zw KX G ?x175 ?x176 ?x177 ?x178,
     Wy.Zw KX G ?x179 ?x180 ?x181 ?x182,
     Wy.Zw KX G ?x183 ?x184 ?x185 ?x186,
     Wy.Zw KX G ?x187 ?x188 ?x189 ?x190,
     Wy.Zw KX G ?x191 ?x192 ?x193 ?x194,
     Wy.Zw KX G ?x195 ?x196 ?x197 ?x198,
     Wy.Zw KX G ?x199 ?x200 ?x201 ?x202,
     Wy.Zw KX G ?x203 ?x204 ?x205 ?x206,
     Wy.Zw KX G ?x207 ?x208 ?x209 ?x210,
     Wy.Zw KX G ?x211 ?x212 ?x213 ?x214,
     Wy.Zw KX G ?x215 ?x216 ?x217 ?x218,
     Wy.Zw KX G ?x219 ?x220 ?x221 ?x222,
     Wy.Zw KX G ?x223 ?x224 ?x225 ?x226,
     Wy.Zw KX G ?x227 ?x228 ?x229 ?x230,
     Wy.Zw KX G ?x231 ?x232 ?x233 ?x234,
     Wy.Zw KX G ?x235 ?x236 ?x237 ?x238,
     Wy.Zw KX G ?x239 ?x240 ?x241 ?x242,
     Wy.Zw KX G ?x243 ?x244 ?x245 ?x246,
     Wy.Zw KX G ?x247 ?x248 ?x249 ?x250,
     Wy.has_mk ?x251 ?x252 ?x253 ?x254 ?x255 ?x256 ?x257,
     Wy.Zw KX G ?x258 ?x259 ?x260 ?x261,
     Wy.Zw KX G ?x262 ?x263 ?x264 ?x265,
     Wy.Zw KX G ?x266 ?x267 ?x268 ?x269,
     Wy.Zw KX G ?x270 ?x271 ?x272 ?x273,
     Wy.Zw KX G ?x274 ?x275 ?x276 ?x277,
     Wy.Zw KX G ?x278 ?x279 ?x280 ?x281,
     Wy.Zw KX G ?x282 ?x283 ?x284 ?x285,
     Wy.Zw KX G ?x286 ?x287 ?x288 ?x289,
     Wy.Zw KX G ?x290 ?x291 ?x292 ?x293,
     Wy.Zw KX G ?x294 ?x295 ?x296 ?x297,
     Wy.Zw KX G ?x298 ?x299 ?x300 ?x301,
     Wy.Zw KX G ?x302 ?x303 ?x304 ?x305,
     Wy.Zw KX G ?x306 ?x307 ?x308 ?x309,
     Wy.has_mk ?x310 ?x311 ?x312 ?x313 ?x314 ?x315 ?x316,
     Wy.has_me ?x317 ?x318 ?x319 ?x320 ?x321,
     Wy.has_me ?x322 ?x323 ?x324 ?x325 ?x326,
     Wy.has_me ?x327 ?x328 ?x329 ?x330 ?x331,
     Wy.Zw KX G ?x332 ?x333 ?x334 ?x335,
     Wy.Zw KX G ?x336 ?x337 ?x338 ?x339⟩ hmg
   (case x0 => k_is); (case x1 => k_is); (case x2 => k_is); (case x3 => k_is); (case x4 => k_is); (case x5 => k_is); (case x6 => k_is); (case x7 => k_is)
   (case x8 => k_is); (case x9 => k_is); (case x10 => k_is); (case x11 => k_is); (case x12 => k_is); (case x13 => k_is); (case x14 => k_is); (case x15 => k_is)
   (case x16 => k_is); (case x17 => k_is); (case x18 => k_is); (case x19 => k_is); (case x20 => k_is); (case x21 => k_is); (case x22 => k_is); (case x23 => k_is)
   (case x24 => k_is); (case x25 => k_is); (case x26 => k_is); (case x27 => k_is); (case x28 => k_is); (case x29 => k_is); (case x30 => k_is); (case x31 => k_is)
   (case x32 => k_is); (case x33 => k_is); (case x34 => k_is); (case x35 => k_is); (case x36 => k_is); (case x37 => k_is); (case x38 => k_is); (case x39 => k_is)
   (case x40 => k_is); (case x41 => k_is); (case x42 => k_is); (case x43 => k_is); (case x44 => k_is); (case x45 => k_is); (case x46 => k_is); (case x47 => k_is)
   (case x48 => k_is); (case x49 => k_is); (case x50 => k_is); (case x51 => k_is); (case x52 => k_is); (case x53 => k_is); (case x54 => k_is); (case x55 => k_is)
   (case x56 => k_is); (case x57 => k_is); (case x58 => k_is); (case x59 => k_is); (case x60 => k_is); (case x61 => k_is); (case x62 => k_is); (case x63 => k_is)
   (case x64 => k_is); (case x65 => k_is); (case x66 => k_is); (case x67 => k_is); (case x68 => k_is); (case x69 => k_is); (case x70 => k_is); (case x71 => k_is)
   (case x72 => k_is); (case x73 => k_is); (case x74 => k_is); (case x75 => k_is); (case x76 => k_is); (case x77 => k_is); (case x78 => k_is); (case x79 => k_is)
   (case x80 => k_is); (case x81 => k_is); (case x82 => k_is); (case x83 => k_is); (case x84 => k_is); (case x85 => k_is); (case x86 => k_is); (case x87 => k_is)
   (case x88 => k_is); (case x89 => k_is); (case x90 => k_is); (case x91 => k_is); (case x92 => k_is); (case x93 => k_is); (case x94 => k_is); (case x95 => k_is)
   (case x96 => k_is); (case x97 => k_is); (case x98 => k_is); (case x99 => k_is); (case x100 => k_is); (case x101 => k_is); (case x102 => k_is); (case x103 => k_is)
   (case x104 => k_is); (case x105 => k_is); (case x106 => k_is); (case x107 => k_is); (case x108 => k_is); (case x109 => k_is); (case x110 => k_is); (case x111 => k_is)
   (case x112 => k_is); (case x113 => k_is); (case x114 => k_is); (case x115 => k_is); (case x116 => k_is); (case x117 => k_is); (case x118 => k_is); (case x119 => k_is)
   (case x120 => k_is); (case x121 => k_is); (case x122 => k_is); (case x123 => k_is); (case x124 => k_is); (case x125 => k_is); (case x126 => k_is); (case x127 => k_is)
   (case x128 => k_is); (case x129 => k_is); (case x130 => k_is); (case x131 => k_is); (case x132 => k_is); (case x133 => k_is); (case x134 => k_is); (case x135 => k_is)
   (case x136 => k_is); (case x137 => k_is); (case x138 => k_is); (case x139 => k_is); (case x140 => k_is); (case x141 => k_is); (case x142 => k_is); (case x143 => k_is)
   (case x144 => k_is); (case x145 => k_is); (case x146 => k_is); (case x147 => k_is); (case x148 => k_is); (case x149 => k_is); (case x150 => k_is); (case x151 => k_is)
   (case x152 => k_is); (case x153 => k_is); (case x154 => k_is); (case x155 => k_is); (case x156 => k_is); (case x157 => k_is); (case x158 => k_is); (case x159 => k_is)
   (case x160 => k_is); (case x161 => k_is); (case x162 => k_is); (case x163 => k_is); (case x164 => k_is); (case x165 => k_is); (case x166 => k_is); (case x167 => k_is)
   (case x168 => k_is); (case x169 => k_is); (case x170 => k_is); (case x171 => k_is); (case x172 => k_is); (case x173 => k_is); (case x174 => k_is); (case x175 => k_is)
   (case x176 => k_is); (case x177 => k_is); (case x178 => k_is); (case x179 => k_is); (case x180 => k_is); (case x181 => k_is); (case x182 => k_is); (case x183 => k_is)
   (case x184 => k_is); (case x185 => k_is); (case x186 => k_is); (case x187 => k_is); (case x188 => k_is); (case x189 => k_is); (case x190 => k_is); (case x191 => k_is)
   (case x192 => k_is); (case x193 => k_is); (case x194 => k_is); (case x195 => k_is); (case x196 => k_is); (case x197 => k_is); (case x198 => k_is); (case x199 => k_is)
   (case x200 => k_is); (case x201 => k_is); (case x202 => k_is); (case x203 => k_is); (case x204 => k_is); (case x205 => k_is); (case x206 => k_is); (case x207 => k_is)
   (case x208 => k_is); (case x209 => k_is); (case x210 => k_is); (case x211 => k_is); (case x212 => k_is); (case x213 => k_is); (case x214 => k_is); (case x215 => k_is)
   (case x216 => k_is); (case x217 => k_is); (case x218 => k_is); (case x219 => k_is); (case x220 => k_is); (case x221 => k_is); (case x222 => k_is); (case x223 => k_is)
   (case x224 => k_is); (case x225 => k_is); (case x226 => k_is); (case x227 => k_is); (case x228 => k_is); (case x229 => k_is); (case x230 => k_is); (case x231 => k_is)
   (case x232 => k_is); (case x233 => k_is); (case x234 => k_is); (case x235 => k_is); (case x236 => k_is); (case x237 => k_is); (case x238 => k_is); (case x239 => k_is)
   (case x240 => k_is); (case x241 => k_is); (case x242 => k_is); (case x243 => k_is); (case x244 => k_is); (case x245 => k_is); (case x246 => k_is); (case x247 => k_is)
   (case x248 => k_is); (case x249 => k_is); (case x250 => k_is); (case x251 => k_is); (case x252 => k_is); (case x253 => k_is); (case x254 => k_is); (case x255 => k_is)
   (case x256 => k_is); (case x257 => k_is); (case x258 => k_is); (case x259 => k_is); (case x260 => k_is); (case x261 => k_is); (case x262 => k_is); (case x263 => k_is)
   (case x264 => k_is); (case x265 => k_is); (case x266 => k_is); (case x267 => k_is); (case x268 => k_is); (case x269 => k_is); (case x270 => k_is); (case x271 => k_is)
   (case x272 => k_is); (case x273 => k_is); (case x274 => k_is); (case x275 => k_is); (case x276 => k_is); (case x277 => k_is); (case x278 => k_is); (case x279 => k_is)
   (case x280 => k_is); (case x281 => k_is); (case x282 => k_is); (case x283 => k_is); (case x284 => k_is); (case x285 => k_is); (case x286 => k_is); (case x287 => k_is)
   (case x288 => k_is); (case x289 => k_is); (case x290 => k_is); (case x291 => k_is); (case x292 => k_is); (case x293 => k_is); (case x294 => k_is); (case x295 => k_is)
   (case x296 => k_is); (case x297 => k_is); (case x298 => k_is); (case x299 => k_is); (case x300 => k_is); (case x301 => k_is); (case x302 => k_is); (case x303 => k_is)
   (case x304 => k_is); (case x305 => k_is); (case x306 => k_is); (case x307 => k_is); (case x308 => k_is); (case x309 => k_is); (case x310 => k_is); (case x311 => k_is)
   (case x312 => k_is); (case x313 => k_is); (case x314 => k_is); (case x315 => k_is); (case x316 => k_is); (case x317 => k_is); (case x318 => k_is); (case x319 => k_is)
   (case x320 => k_is); (case x321 => k_is); (case x322 => k_is); (case x323 => k_is); (case x324 => k_is); (case x325 => k_is); (case x326 => k_is); (case x327 => k_is)
   (case x328 => k_is); (case x329 => k_is); (case x330 => k_is); (case x331 => k_is); (case x332 => k_is); (case x333 => k_is); (case x334 => k_is); (case x335 => k_is)
   (case x336 => k_is); (case x337 => k_is); (case x338 => k_is); (case x339 => k_is)
 case S =>
   intro K H xs a hO hwi hask hx
   cases hx with
   | cons h1 h2 =>
     cases h2
     cases h1 with
     | lst hs ha =>
       have e := L2.ints_dw a.1 _ ha
       subst e
       have q : ((Codec.inLen 0 16000 a.1 && a.1.all (Codec.inInt 0 9223372036854775807)) && true) = true := hwi
       rw [Bool.and_eq_true, Bool.and_eq_true] at q
       refine ⟨_, a.1, rfl, fun H' fz => ?_, (Codec.inNat_iff.mp q.1.1).2, hask, fun H' p hp => .lst (L2.SqL.of hp) (L2.dw_ints _)⟩
       rcases hs with (hs | ⟨o, hs⟩) | hs
       . rcases hO _ with z | ⟨o, u, z⟩ <;> (rw [z] at hs; cases hs)
       . exact .inl (.inr ⟨o, fz _ _ _ hs⟩)
       . exact .inr hs
