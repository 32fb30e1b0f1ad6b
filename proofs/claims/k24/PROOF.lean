import PyProof.Rows.All
import Wide.All
import OpenK.AllK
import Wide.FinOn
import PyProof.EqAt
import PyProof.EqKinds
import PyProof.TupleCall
import KE.BitLaws
import PyProof.InstStoreFacts
import PyProof.ExcInit
import PyProof.ExcBaseAll.Exception
import PyProof.ExcAttrAll.Exception
import PyProof.StationsW
import PyProof.ExcArgsOwn
import PyProof.RulesAs
import PyProof.Draws
import KE.KRevSl
import KE.KListMore
import PyProof.DictCompW
import KE.KDictLaws
import PyProof.Rows.CallKwBuiltin
import PyProof.Rows.InDataRows
import PyProof.Rows.SeqMore
import PyProof.FactsAll.NoneType_1
import PyProof.Rows.TupIter
import PyProof.ListRange
import PyProof.DictRoadsH
import PyProof.MeetsDictList
import PyProof.DictWalks
import PyProof.DictTruth
import PySem.Challenge.RW_testedrows_k24_rows_written
set_option maxHeartbeats 4000000
set_option maxRecDepth 100000
set_option linter.all false
set_option Elab.async false
namespace L2
open PySem PySem.Spec PyProof.Rows
abbrev Key := Sum Int Str
def jhc : Key → Value → Bool
 | .inl k,v => Value.isInt k v
 | .inr x,v => Value.isStrOf x v
def keyH (w : World) : Key → Int
 | .inl k => hashInt k
 | .inr x => hashStr w x
theorem zZ : ∀ {k : Key} {v : Value},jhc k v = true → (∃ i t,k = Sum.inl i ∧ v = Value.int i t) ∨ (∃ x t,k = Sum.inr x ∧ v = Value.str x t)
 | .inl i,v,h => by
  obtain ⟨t,e⟩ := Value.isInt_shape (k := i) (v := v) h
  exact .inl ⟨i,t,rfl,e⟩
 | .inr x,v,h => by
  obtain ⟨t,e⟩ := Value.isStrOf_shape (x := x) (v := v) h
  exact .inr ⟨x,t,rfl,e⟩
theorem jjh (i : Int) (t : Tok) : jhc (.inl i) (.int i t) = true := by simp [jhc,Value.isInt]
theorem jjg (x : Str) (t : Tok) : jhc (.inr x) (.str x t) = true := by simp [jhc,Value.isStrOf]
theorem jma (a b : Int) : decide ((Sum.inl a : Key) = Sum.inl b) = (a == b) := by
 by_cases e : a = b
 ·subst e;simp
 ·have h : ¬ (Sum.inl a : Key) = Sum.inl b := fun q => e (Sum.inl.inj q)
  rw [decide_eq_false h]
  exact (beq_eq_false_iff_ne.mpr e).symm
theorem jl7 (a b : Str) : decide ((Sum.inr a : Key) = Sum.inr b) = decide (a = b) := by
 by_cases e : a = b
 ·subst e;simp
 ·have h : ¬ (Sum.inr a : Key) = Sum.inr b := fun q => e (Sum.inr.inj q)
  rw [decide_eq_false h,decide_eq_false e]
theorem jl9 (a : Int) (b : Str) : decide ((Sum.inl a : Key) = Sum.inr b) = false := decide_eq_false (fun q => nomatch q)
theorem jl8 (a : Str) (b : Int) : decide ((Sum.inr a : Key) = Sum.inl b) = false := decide_eq_false (fun q => nomatch q)
def zV (prog : Program) (w : World) : PySem.KeyKind prog w Key where
 is := jhc
 hash := keyH w
 inj := fun v a b ha hb => by
  rcases zZ ha with ⟨i,t,rfl,rfl⟩ | ⟨x,t,rfl,rfl⟩
  ·rcases zZ hb with ⟨j,u,rfl,e⟩ | ⟨y,u,rfl,e⟩
   ·injection e with e1 _;rw [e1]
   ·exact nomatch e
  ·rcases zZ hb with ⟨j,u,rfl,e⟩ | ⟨y,u,rfl,e⟩
   ·exact nomatch e
   ·injection e with e1 _;rw [e1]
 byValue := fun k v h => by
  rcases zZ h with ⟨i,t,rfl,rfl⟩ | ⟨x,t,rfl,rfl⟩ <;> rfl
 pyHash := fun hv h => by
  rcases zZ hv with ⟨i,t,rfl,rfl⟩ | ⟨x,t,rfl,rfl⟩
  ·exact wpAny_pyHash_int h
  ·exact wpAny_pyHash_str h
 eqBool := fun hu hv h => by
  rcases zZ hu with ⟨i,t,rfl,rfl⟩ | ⟨x,t,rfl,rfl⟩
  ·rcases zZ hv with ⟨j,u,rfl,rfl⟩ | ⟨y,u,rfl,rfl⟩
   ·rw [jma] at h;exact wpAny_eqBool_int h
   ·rw [jl9] at h;exact SeqAt.EqAt.int_str i t y u _ _ _ _ h
  ·rcases zZ hv with ⟨j,u,rfl,rfl⟩ | ⟨y,u,rfl,rfl⟩
   ·rw [jl8] at h;exact SeqAt.EqAt.str_int x t j u _ _ _ _ h
   ·rw [jl7] at h;exact wpAny_eqBool_str h
 «strs» := fun k x t v h => by
  rcases zZ h with ⟨i,u,rfl,e⟩ | ⟨y,u,rfl,e⟩
  ·exact nomatch e
  ·injection e with e1 _
   subst e1
   cases v <;> rfl
theorem jg5 (prog : Program) (w : World) (i : Int) (t : Tok) : (zV prog w).is (.inl i) (.int i t) = true := jjh i t
theorem jg4 (prog : Program) (w : World) (x : Str) (t : Tok) : (zV prog w).is (.inr x) (.str x t) = true := jjg x t
end L2
namespace L2
open PySem PySem.Spec PyProof.Rows
inductive V where
 | non | bl (b : Bool) | int (i : Int) | str (x : Str) | byt (b : Array UInt8) | flt (b : UInt64) | ref (a : Addr) | ty (n : String)
 deriving DecidableEq
def RelV : V → Value → Prop
 | .non,u => u = Value.none
 | .bl b,u => u = Value.bool b
 | .int i,u => ∃ t,u = Value.int i t
 | .str x,u => ∃ t,u = Value.str x t
 | .byt b,u => ∃ t,u = Value.bytes b t
 | .flt b,u => ∃ t,u = Value.float b t
 | .ref a,u => u = Value.ref a
 | .ty n,u => u = Value.type n
abbrev Vals : List V → List Value → Prop := Paired RelV
theorem Vals.length {xs : List V} {us : List Value} (r : Vals xs us) : xs.length = us.length := Paired.length r
theorem Vals.get : ∀ {xs : List V} {us : List Value} {i : Nat} {x : V},Vals xs us → xs[i]? = some x → ∃ u,us[i]? = some u ∧ RelV x u
 | _,_,_,_,.nil,e => by simp at e
 | _,_,0,_,.cons r _,e => by simp at e;subst e;exact ⟨_,rfl,r⟩
 | _,_,i + 1,x,.cons _ t,e => by
  obtain ⟨u,h1,h2⟩ := Vals.get (i := i) (x := x) t (by simpa using e)
  exact ⟨u,by simpa using h1,h2⟩
theorem Vals.set {x : V} {u : Value} (r : RelV x u) : ∀ {xs : List V} {us : List Value} (i : Nat),Vals xs us → Vals (xs.set i x) (us.set i u)
 | _,_,_,.nil => .nil
 | _,_,0,.cons _ t => .cons r t
 | _,_,i + 1,.cons q t => .cons q (Vals.set r i t)
theorem Vals.append : ∀ {xs ys : List V} {us ws : List Value},Vals xs us → Vals ys ws → Vals (xs ++ ys) (us ++ ws)
 | _,_,_,_,.nil,s => s
 | _,_,_,_,.cons r t,s => .cons r (Vals.append t s)
theorem Vals.take : ∀ {xs : List V} {us : List Value} (n : Nat),Vals xs us → Vals (xs.take n) (us.take n)
 | _,_,0,_ => .nil
 | _,_,_ + 1,.nil => .nil
 | _,_,n + 1,.cons r t => .cons r (Vals.take n t)
theorem Vals.drop : ∀ {xs : List V} {us : List Value} (n : Nat),Vals xs us → Vals (xs.drop n) (us.drop n)
 | _,_,0,r => r
 | _,_,_ + 1,.nil => .nil
 | _,_,n + 1,.cons _ t => Vals.drop n t
def RelO : Option V → Option Value → Prop
 | some v,some u => RelV v u
 | none,none => True
 | _,_ => False
def KV {κ : Type} : List (κ × V) → List (κ × Value) → Prop := Paired fun (p : κ × V) (q : κ × Value) => p.1 = q.1 ∧ RelV p.2 q.2
def kV : Key → V
 | .inl i => .int i
 | .inr x => .str x
inductive HO where
 | lst (xs : List V)
 | tup (xs : List V)
 | dK (kvs : List (Key × V)) | dT (kvs : List (List Key × V))
 | set (S : Int → Bool) (n : Nat)
 | ins (C dx : Addr) (fs : List (Str × V))
 | own (x : Addr)
 | xd (fs : List (Str × V))
 | met (f x : Addr)
 | rng (lo hi : Int)
 | frz (o : Obj) (u : HO)
 | tbl (ps : Array Value)
 | ext (φ : Heap → Prop)
abbrev Hp := Addr → Option HO
def upd (H : Hp) (a : Addr) (o : HO) : Hp := fun b => if b = a then some o else H b
theorem jj {H : Hp} {a : Addr} {o : HO} : upd H a o a = some o := by unfold upd;rw [if_pos rfl]
theorem jB {H : Hp} {a b : Addr} {o : HO} (h : b ≠ a) : upd H a o b = H b := by unfold upd;rw [if_neg h]
theorem jmO {H : Hp} {a b : Addr} {o u : HO} (h : H a = some o) (h' : H b = some u) (d : o ≠ u) : a ≠ b := by
 intro e;subst e;rw [h] at h';exact d (Option.some.inj h')
theorem jt {H : Hp} {a b : Addr} {o : HO} (h : H a = some o) (h' : H b = none) : a ≠ b := by
 intro e;subst e;rw [h] at h';cases h'
section
variable (P : Program) (w : World)
def ObjOk (H : Hp) (h : Heap) (a : Addr) : HO → Prop
 | .lst xs => xs.length ≤ sizeLine ∧ ∃ (its : List Value) (n : Nat),Vals xs its ∧ h.get? a = some { cls := .type "list",data := .seq its.toArray n }
 | .tup xs => xs.length ≤ sizeLine ∧ ∃ its : List Value,Vals xs its ∧ IsTup h a its.toArray
 | .dK kvs => kvs.length ≤ sizeLine ∧ (a == sysModules) = false ∧ ∃ vs,KV kvs vs ∧ h.DictOf (zV P w) a vs
 | .dT kvs => kvs.length ≤ sizeLine ∧ (a == sysModules) = false ∧ ∃ xs : List (List Key × Addr × Value),
   Paired (fun (p : List Key × V) (q : List Key × Addr × Value) => p.1 = q.1 ∧ H q.2.1 = some (.tup (p.1.map kV)) ∧ RelV p.2 q.2.2) kvs xs ∧
   ∃ o es ep,h.get? a = some o ∧ o.ExactDict ∧ o.data = .dict es ep ∧ es.toList = xs.map (entryOfKey (tupleKind (zV P w))) ∧ (xs.map (·.1)).Nodup
 | .set S n => h.SetOf (intKind P w) a S n
 | .ins C dx fs => H dx = some (.own a) ∧ fs.length ≤ 1000 ∧ dx ≠ a ∧ h.get? a = some (PySem.W.instObj C dx) ∧
   ∃ mA,h.Ns1 dx mA ∧ (∀ f,RelO (fs.lookup f) (mA f)) ∧ PySem.Within mA (fs.map (·.1))
 | .own _ => ∃ o,h.get? a = some o
 | .xd fs => ∃ mA,h.Ns1 a mA ∧ ∀ f,RelO (fs.lookup f) (mA f)
 | .rng lo hi => ∃ t u v,h.get? a = some { cls := .type "range",data := .fields #[.int lo t,.int hi u,.int 1 v] }
 | .frz o u => h.get? a = some o ∧ ObjOk H h a u
 | .tbl ps => h.get? a = some { cls := .none,data := .fields ps }
 | .met f x => h.get? a = some (PySem.W.methodObj (.ref f) (.ref x))
 | .ext φ => φ h ∧ (∃ o,h.get? a = some o) ∧ ∀ h1 h2 : Heap,φ h1 → (∀ o,h1.get? a = some o → h2.get? a = some o) → φ h2
def HOk (H : Hp) (h : Heap) : Prop := ∀ a o,H a = some o → ObjOk P w H h a o
end
section
variable {P : Program} {w : World} {H H' : Hp} {h h' : Heap} {a : Addr} {o : HO}
theorem ObjOk.lt (x : ObjOk P w H h a o) : a < h.objs.size := by
 cases o with
 | lst xs => obtain ⟨_,_,_,_,e⟩ := x;exact Heap.lt_size e
 | tup xs => obtain ⟨_,_,_,p⟩ := x;exact p.lt
 | dK kvs => obtain ⟨_,_,_,_,o,_,_,e,_⟩ := x;exact Heap.lt_size e
 | dT kvs => obtain ⟨_,_,_,_,o,_,_,e,_⟩ := x;exact Heap.lt_size e
 | set S n => obtain ⟨o,_,_,_,e,_⟩ := x;exact Heap.lt_size e
 | ins C dx fs => obtain ⟨_,_,_,e,_⟩ := x;exact Heap.lt_size e
 | own y => obtain ⟨_,e⟩ := x;exact Heap.lt_size e
 | xd fs => obtain ⟨_,⟨_,_,_,e,_⟩,_⟩ := x;exact Heap.lt_size e
 | rng lo hi => obtain ⟨_,_,_,e⟩ := x;exact Heap.lt_size e
 | frz ob u => obtain ⟨e,_⟩ := x;exact Heap.lt_size e
 | tbl ps => exact Heap.lt_size (show h.get? a = some _ from x)
 | met f y => exact Heap.lt_size (show h.get? a = some _ from x)
 | ext φ => obtain ⟨_,⟨_,e⟩,_⟩ := x;exact Heap.lt_size e
theorem Paired.mapP {α β : Type} {F G : α → β → Prop} : ∀ {l₁ : List α} {l₂ : List β},Paired F l₁ l₂ → (∀ a b,F a b → G a b) → Paired G l₁ l₂
 | _,_,.nil,_ => .nil
 | _,_,.cons r t,f => .cons (f _ _ r) (Paired.mapP t f)
theorem ObjOk.stay (x : ObjOk P w H h a o) (k : ∀ b u,(b = a ∨ H b = some (.own a)) → h.get? b = some u → h'.get? b = some u)
  (ho : ∀ b,H b = some (.own a) → H' b = some (.own a)) (ht : ∀ b xs,H b = some (.tup xs) → H' b = some (.tup xs)) : ObjOk P w H' h' a o := by
 induction o with
 | lst xs => obtain ⟨z,its,n,r,e⟩ := x;exact ⟨z,its,n,r,k _ _ (.inl rfl) e⟩
 | tup xs => obtain ⟨z,its,r,ob,e,c⟩ := x;exact ⟨z,its,r,ob,k _ _ (.inl rfl) e,c⟩
 | dK kvs => obtain ⟨z,y,vs,r,ob,es,ep,e,c⟩ := x;exact ⟨z,y,vs,r,ob,es,ep,k _ _ (.inl rfl) e,c⟩
 | dT kvs =>
  obtain ⟨z,y,xs,r,ob,es,ep,e,c⟩ := x
  exact ⟨z,y,xs,Paired.mapP r fun p q z => ⟨z.1,ht _ _ z.2.1,z.2.2⟩,ob,es,ep,k _ _ (.inl rfl) e,c⟩
 | set S n => obtain ⟨ob,es,ep,t,e,c⟩ := x;exact ⟨ob,es,ep,t,k _ _ (.inl rfl) e,c⟩
 | ins C dx fs =>
  obtain ⟨d,z,ne,e,mA,⟨od,es,ep,e2,c⟩,r⟩ := x
  exact ⟨ho _ d,z,ne,k _ _ (.inl rfl) e,mA,⟨od,es,ep,k _ _ (.inr d) e2,c⟩,r⟩
 | own y => obtain ⟨ob,e⟩ := x;exact ⟨ob,k _ _ (.inl rfl) e⟩
 | xd fs => obtain ⟨mA,⟨od,es,ep,e,c⟩,r⟩ := x;exact ⟨mA,⟨od,es,ep,k _ _ (.inl rfl) e,c⟩,r⟩
 | rng lo hi => obtain ⟨t,u,v,e⟩ := x;exact ⟨t,u,v,k _ _ (.inl rfl) e⟩
 | frz ob u ih => obtain ⟨e,q⟩ := x;exact ⟨k _ _ (.inl rfl) e,ih q⟩
 | tbl ps =>
  have e : h.get? a = some { cls := .none,data := .fields ps } := x
  show h'.get? a = some { cls := .none,data := .fields ps }
  exact k a _ (.inl rfl) e
 | met f y =>
  have e : h.get? a = some (PySem.W.methodObj (.ref f) (.ref y)) := x
  show h'.get? a = some (PySem.W.methodObj (.ref f) (.ref y))
  exact k a _ (.inl rfl) e
 | ext φ => obtain ⟨p,⟨o,e⟩,st⟩ := x;exact ⟨st _ _ p fun o q => k _ _ (.inl rfl) q,⟨o,k _ _ (.inl rfl) e⟩,st⟩
theorem HOk.lt (x : HOk P w H h) (e : H a = some o) : a < h.objs.size := (x a o e).lt
theorem HOk.fresh (x : HOk P w H h) (e : h.objs.size ≤ a) : H a = none := by
 cases q : H a with
 | none => rfl
 | some u => exact absurd (Nat.lt_of_lt_of_le (x.lt q) e) (Nat.lt_irrefl _)
theorem HOk.kept (x : HOk P w H h) (k : ∀ b u,h.get? b = some u → h'.get? b = some u) : HOk P w H h' := fun a o e =>
 (x a o e).stay (fun b u _ q => k b u q) (fun _ q => q) fun _ _ q => q
theorem HOk.laid (x : HOk P w H h) (k : ∀ b u,h.get? b = some u → h'.get? b = some u) (hp : h.objs.size ≤ a) (new : ObjOk P w (upd H a o) h' a o) : HOk P w (upd H a o) h' := fun b u e => by
 have hn := x.fresh hp
 by_cases hb : b = a
 ·subst hb;rw [jj] at e;cases e;exact new
 ·rw [jB hb] at e
  exact (x b u e).stay (fun c v _ q => k c v q) (fun c q => by rw [jB (jt q hn)];exact q) fun c xs q => by rw [jB (jt q hn)];exact q
end
def Rd (H : Hp) (a : Addr) (u : HO) : Prop := H a = some u ∨ ∃ o,H a = some (.frz o u)
theorem Rd.ok {P : Program} {w : World} {H : Hp} {h : Heap} {a : Addr} {u : HO} (r : Rd H a u) (x : HOk P w H h) : ObjOk P w H h a u := by
 rcases r with r | ⟨o,r⟩
 ·exact x a u r
 ·obtain ⟨_,q⟩ := x a _ r
  exact q
def Mut : Option HO → Prop
 | some (.lst _) => True
 | some (.dK _) => True
 | some (.dT _) => True
 | some (.set _ _) => True
 | some (.ins _ _ _) => True
 | some (.ext _) => True
 | _ => False
section
variable {P : Program} {w : World} {H : Hp} {h h' : Heap} {x e : Addr} {o' : HO}
theorem HOk.write (ok : HOk P w H h) (mu : Mut (H x)) (he : e = x ∨ H e = some (.own x)) (k : ∀ b u,b ≠ e → h.get? b = some u → h'.get? b = some u) (heo : ∃ u,h'.get? e = some u)
  (new : ObjOk P w (upd H x o') h' x o') : HOk P w (upd H x o') h' := fun b u q => by
 have nown : ∀ c y,H c = some (.own y) → c ≠ x := fun c y r z => by subst z;rw [r] at mu;exact mu
 have ntup : ∀ c xs,H c = some (.tup xs) → c ≠ x := fun c xs r z => by subst z;rw [r] at mu;exact mu
 by_cases hb : b = x
 ·subst hb;rw [jj] at q;cases q;exact new
 ·rw [jB hb] at q
  by_cases hbe : b = e
  ·have q' : H b = some (.own x) := by
    rcases he with z | z
    ·exact absurd (hbe.trans z) hb
    ·rw [hbe];exact z
   rw [q] at q';cases q'
   obtain ⟨v,hv⟩ := heo
   exact ⟨v,by rw [hbe];exact hv⟩
  ·refine (ok b u q).stay (fun c v hc r => k c v ?_ r) (fun c r => by rw [jB (nown c b r)];exact r) fun c xs r => by rw [jB (ntup c xs r)];exact r
   rcases hc with rfl | hc
   ·exact hbe
   ·rintro rfl
    rcases he with z | z
    ·exact nown c b hc z
    ·rw [hc] at z;cases z;exact hb rfl
end
structure Un (fs ex : List Addr) (H H' : Hp) (h h' : Heap) : Prop where
 keep : ∀ b o,h.get? b = some o → H b = none → b ∉ fs → b ∉ ex → h'.get? b = some o
 slot : ∀ b o,h.get? b = some o → H b = none → b ∈ fs → b ∉ ex → ∃ sl,h'.get? b = some { o with slots := sl }
 free : ∀ b o,h.get? b = some o → H b = none → b ∉ ex → H' b = none
 there : ∀ b o,h.get? b = some o → b ∉ ex → ∃ o',h'.get? b = some o'
 tups : ∀ b xs,H b = some (.tup xs) → H' b = some (.tup xs)
 frzs : ∀ b o u,H b = some (.frz o u) → H' b = some (.frz o u)
 tbls : ∀ b ps,H b = some (.tbl ps) → ∃ more,H' b = some (.tbl (ps ++ more))
section
variable {fs fs' ex ex' : List Addr} {H H1 H2 : Hp} {h h1 h2 h' : Heap} {a x e : Addr} {o : HO}
theorem Un.any (u : Un fs ex H H1 h h1) {b : Addr} {ob : Obj} (q : h.get? b = some ob) (n : H b = none) (hx : b ∉ ex) : ∃ sl,h1.get? b = some { ob with slots := sl } := by
 by_cases hb : b ∈ fs
 ·exact u.slot b ob q n hb hx
 ·exact ⟨ob.slots,u.keep b ob q n hb hx⟩
theorem Un.trans (a : Un fs ex H H1 h h1) (b : Un fs ex H1 H2 h1 h2) : Un fs ex H H2 h h2 where
 keep := fun c ob q n hc hx => b.keep c ob (a.keep c ob q n hc hx) (a.free c ob q n hx) hc hx
 slot := fun c ob q n hc hx => by
  obtain ⟨sl,e1⟩ := a.slot c ob q n hc hx
  obtain ⟨sl',e2⟩ := b.slot c _ e1 (a.free c ob q n hx) hc hx
  exact ⟨sl',e2⟩
 free := fun c ob q n hx => by
  obtain ⟨o',e1⟩ := a.there c ob q hx
  exact b.free c o' e1 (a.free c ob q n hx) hx
 there := fun c ob q hx => by
  obtain ⟨o',e1⟩ := a.there c ob q hx
  exact b.there c o' e1 hx
 tups := fun c xs q => b.tups c xs (a.tups c xs q)
 frzs := fun c ob xs q => b.frzs c ob xs (a.frzs c ob xs q)
 tbls := fun c ps q => by
  obtain ⟨m1,e1⟩ := a.tbls c ps q
  obtain ⟨m2,e2⟩ := b.tbls c _ e1
  exact ⟨m1 ++ m2,by rw [e2,Array.append_assoc]⟩
theorem Un.kept (k : ∀ b u,h.get? b = some u → h'.get? b = some u) : Un fs ex H H h h' :=
 ⟨fun b ob q _ _ _ => k b ob q,fun b ob q _ _ _ => ⟨ob.slots,k b ob q⟩,fun _ _ _ n _ => n,fun b ob q _ => ⟨ob,k b ob q⟩,fun _ _ q => q,fun _ _ _ q => q,fun _ ps q => ⟨#[],by rw [q];simp⟩⟩
theorem Un.refl : Un fs ex H H h h := Un.kept fun _ _ q => q
theorem Un.laid (k : ∀ b u,h.get? b = some u → h'.get? b = some u) (hp : h.objs.size ≤ a) (hn : H a = none) : Un fs ex H (upd H a o) h h' where
 keep := fun b u q _ _ _ => k b u q
 slot := fun b u q _ _ _ => ⟨u.slots,k b u q⟩
 free := fun b u q n _ => by rw [jB (Nat.ne_of_lt (Nat.lt_of_lt_of_le (Heap.lt_size q) hp))];exact n
 there := fun b u q _ => ⟨u,k b u q⟩
 tups := fun b xs q => by rw [jB (jt q hn)];exact q
 frzs := fun b u xs q => by rw [jB (jt q hn)];exact q
 tbls := fun b ps q => ⟨#[],by rw [jB (jt q hn),q];simp⟩
theorem Un.write (mu : Mut (H x)) (he : e = x ∨ H e = some (.own x)) (k : ∀ b u,b ≠ e → h.get? b = some u → h'.get? b = some u) (heo : ∃ u,h'.get? e = some u) : Un fs ex H (upd H x o) h h' := by
 have hx : ∀ b,H b = none → b ≠ x := fun b n z => by subst z;rw [n] at mu;exact mu
 have hb : ∀ b,H b = none → b ≠ e := fun b n z => by
  subst z
  rcases he with r | r
  ·exact hx b n r
  ·rw [n] at r;cases r
 have hm : ∀ b u,H b = some u → ¬ Mut (some u) → b ≠ x := fun b u q nm z => by subst z;rw [q] at mu;exact nm mu
 refine ⟨fun b u q n _ _ => k b u (hb b n) q,fun b u q n _ _ => ⟨u.slots,k b u (hb b n) q⟩,fun b u q n _ => by rw [jB (hx b n)];exact n,fun b u q _ => ?_,
  fun b xs q => by rw [jB (hm b _ q fun z => z)];exact q,fun b u xs q => by rw [jB (hm b _ q fun z => z)];exact q,fun b ps q => ⟨#[],by rw [jB (hm b _ q fun z => z),q];simp⟩⟩
 by_cases hbe : b = e
 ·subst hbe;exact heo
 ·exact ⟨u,k b u hbe q⟩
end
def trk (h : Heap) (H : Hp) : List Addr := (List.range h.objs.size).filter fun a => (H a).isSome
def hidT (h : Heap) (H : Hp) : Heap := PySem.W.hideAll h (trk h H)
theorem jjl (h : Heap) (H : Hp) : (hidT h H).objs.size = h.objs.size := PySem.W.hideAll_size _ _
theorem jki {h : Heap} {H : Hp} {b : Addr} {o : Obj} (e : h.get? b = some o) (n : H b = none) : (hidT h H).get? b = some o :=
 PySem.W.hideAll_get _ e fun hm => by
  have q : (H b).isSome = true := (List.mem_filter.mp hm).2
  rw [n] at q;simp at q
theorem jla {h : Heap} {H : Hp} {b : Addr} {o : Obj} (e : (hidT h H).get? b = some o) : h.get? b = some o ∧ H b = none := by
 have e' : h.get? b = some o := PySem.W.of_hideAll (trk h H) e
 refine ⟨e',?_⟩
 cases q : H b with
 | none => rfl
 | some x =>
  have hm : b ∈ trk h H := List.mem_filter.mpr ⟨List.mem_range.mpr (Heap.lt_size e'),by simp [q]⟩
  have z : (hidT h H).get? b = none := PySem.W.hideAll_none (trk h H) hm
  rw [z] at e;cases e
def jlw (g h : Heap) (L : Addr) : List (Addr × Obj) := (List.range h.objs.size).filterMap fun a => if a = L ∨ (g.get? a).isSome = true then none else (h.get? a).map fun o => (a,o)
def rest (g h : Heap) (L d : Addr) : List (Addr × Obj) := (jlw g h L).filter fun p => decide (p.1 ≠ d)
end L2
namespace L2
open PySem PySem.Spec PyProof.Rows
structure Mod (K : PySem.W.Frag) (mg : Str → Option Value) (base : Heap) : Prop where
 kin : K.In base
 glob : base.Ns mainGlobals mg
 blt : ∃ mb,base.Ns builtinsNs mb ∧ ∀ x : Str,x ≠ "__name__" → mb x = bootBuiltins x
 nolimit : base.NoLimit
structure Cx where
 prog : Program
 w : World
 K : PySem.W.Frag
 mg : Str → Option Value
 base : Heap
 A : Around
 N : List Str
 s_0 : Shared
 H_0 : Hp
 env : Env
 outer : List Env
 stack : List Env
 ex : List Addr
 fn : Str → Bool
 calm : Bool
 pn : List (Addr × Obj)
 xe : Value → Shared → Prop
def frs (l : List Env) : List Addr := l.filterMap (·.frame)
abbrev Cx.fs (X : Cx) : List Addr := frs X.outer
def Vis (sc : Scope) (x : Str) : Prop := sc.names.lookup x = some .local ∨ sc.names.lookup x = some .cell ∨ sc.names.lookup x = some .free
def Loc (sc : Scope) (x : Str) : Prop := sc.names.lookup x = some .local ∨ sc.names.lookup x = some .cell
def Look (env : Env) (h : Heap) (m : Str → Option Value) (x : Str) (u : Value) : Prop :=
 (env.kindOf x = some .local ∧ m x = some u) ∨ ((env.kindOf x = some .cell ∨ env.kindOf x = some .free) ∧ ∃ c,env.cells.lookup x = some c ∧ h.IsCell c (some u))
structure Cx.Ok (X : Cx) : Prop where
 mod : Mod X.K X.mg X.base
 kind : X.env.scope.kind = .function
 glob : X.env.globals = mainGlobals
 blt : X.env.builtins = builtinsNs
 above : X.s_0.heap.objs.size ≤ X.env.locals
 inj : ∀ x y c,X.env.cells.lookup x = some c → X.env.cells.lookup y = some c → x = y
 has : ∀ x,(X.env.kindOf x = some .cell ∨ X.env.kindOf x = some .free) → ∃ c,X.env.cells.lookup x = some c
 cab : ∀ x c,X.fn x = true → X.env.cells.lookup x = some c → X.s_0.heap.objs.size ≤ c
 hd : X.calm = true → X.A.handled = none
 frames : X.A.frames = some X.stack
 stk : X.stack = X.outer ∨ (X.stack = X.env :: X.outer ∧ X.env.frame = some X.env.locals)
 exf : ∀ b ∈ X.ex,b ≠ X.env.locals ∧ ∀ x c,X.env.cells.lookup x = some c → c ≠ b
 bs : ∀ b o,X.base.get? b = some o → X.s_0.heap.get? b = some o ∧ X.H_0 b = none
 bsz : X.base.objs.size ≤ X.s_0.heap.objs.size
 noex : ∀ b o,X.base.get? b = some o → b ∉ X.ex
 exfs : ∀ b ∈ X.ex,b ∉ X.fs
 funs : X.s_0.heap.FunFrames X.base X.outer
 frf : ∀ b ∈ X.fs,X.H_0 b = none
structure Inv (X : Cx) (pins : List (Addr × Obj)) (σ : List (Option V)) (H : Hp) (s : Shared) : Prop where
 ok : X.Ok
 os : s.os = X.s_0.os
 bare : AllBare s.gens
 base : Un X.fs X.ex X.H_0 H X.s_0.heap s.heap
 loc : ∃ m,s.heap.Ns X.env.locals m ∧ ∀ (i : Nat) (x : Str) (v : V),X.N[i]? = some x → σ[i]? = some (some v) → Vis X.env.scope x → ∃ u,RelV v u ∧ Look X.env s.heap m x u
 cell : ∀ x c,X.env.cells.lookup x = some c → ∃ v,s.heap.IsCell c v
 free : H X.env.locals = none
 freeC : ∀ x c,X.env.cells.lookup x = some c → H c = none
 pin : ∀ p ∈ X.pn ++ pins,s.heap.get? p.1 = some p.2 ∧ H p.1 = none ∧ p.1 ≠ X.env.locals ∧ p.1 ∉ X.fs ∧ ∀ v,p.2.data ≠ .cell v
 hok : HOk X.prog X.w H s.heap
 len : σ.length = X.N.length
section
variable {X : Cx} {pins : List (Addr × Obj)} {σ : List (Option V)} {H H' : Hp} {s : Shared} {h' : Heap}
theorem Cx.Ok.nofr (ok : X.Ok) {b : Addr} {o : Obj} (e : X.base.get? b = some o) : b ∉ X.fs := fun hb => by
 have := (ok.funs.mem hb).1
 rw [e] at this;cases this
theorem Inv.bs (I : Inv X pins σ H s) : ∀ b o,X.base.get? b = some o → s.heap.get? b = some o ∧ H b = none := fun b o e =>
 ⟨I.base.keep b o (I.ok.bs b o e).1 (I.ok.bs b o e).2 (I.ok.nofr e) (I.ok.noex b o e),I.base.free b o (I.ok.bs b o e).1 (I.ok.bs b o e).2 (I.ok.noex b o e)⟩
theorem Inv.bk (I : Inv X pins σ H s) : ∀ b o,X.base.get? b = some o → s.heap.get? b = some o := fun b o e => (I.bs b o e).1
theorem Inv.mod (I : Inv X pins σ H s) : Mod X.K X.mg X.base := I.ok.mod
theorem Inv.kIn (I : Inv X pins σ H s) : X.K.In s.heap := I.ok.mod.kin.keeps I.bk
theorem Inv.fr (I : Inv X pins σ H s) : ∃ m,Fr X.base X.env.locals s.heap m :=
 let ⟨m,hn,_⟩ := I.loc
 ⟨m,hn,I.bk,Nat.le_trans I.ok.bsz I.ok.above⟩
theorem Inv.lt (I : Inv X pins σ H s) : X.env.locals < s.heap.objs.size := let ⟨_,hn,_⟩ := I.loc;hn.lt
theorem Inv.sz (I : Inv X pins σ H s) : X.s_0.heap.objs.size ≤ s.heap.objs.size := Nat.le_trans I.ok.above (Nat.le_of_lt I.lt)
theorem Inv.nofs (I : Inv X pins σ H s) {a : Addr} (h : s.heap.objs.size ≤ a) : a ∉ X.fs := fun hb => by
 obtain ⟨_,o,ho,_⟩ := I.ok.funs.mem hb
 exact absurd (Nat.lt_of_lt_of_le (Heap.lt_size ho) (Nat.le_trans I.sz h)) (Nat.lt_irrefl _)
theorem Inv.cne (I : Inv X pins σ H s) : ∀ x c,X.env.cells.lookup x = some c → c ≠ X.env.locals := fun x c e z => by
 obtain ⟨v,o,ho,hd⟩ := I.cell x c e
 obtain ⟨m,⟨o',es,ep,ho',hd',_⟩,_⟩ := I.loc
 rw [z,ho'] at ho;cases ho;rw [hd'] at hd;cases hd
theorem Inv.funs (I : Inv X pins σ H s) : s.heap.FunFrames X.base X.outer := by
 have all : ∀ (l : List Env),(∀ b ∈ frs l,b ∈ X.fs) → X.s_0.heap.FunFrames X.base l → s.heap.FunFrames X.base l := by
  intro l
  induction l with
  | nil => intro _ _;trivial
  | cons env r ih =>
   intro hs hl
   obtain ⟨hk,⟨L,o,hf,hn,ho,hd⟩,hr⟩ := hl
   have hL : L ∈ X.fs := hs L (by unfold frs;rw [List.filterMap_cons,hf];exact List.mem_cons_self)
   obtain ⟨sl,e⟩ := I.base.slot L o ho (I.ok.frf L hL) hL fun z => I.ok.exfs L z hL
   exact ⟨hk,⟨L,_,hf,hn,e,hd⟩,ih (fun b hb => hs b (by unfold frs;rw [List.filterMap_cons,hf];exact List.mem_cons_of_mem _ hb)) hr⟩
 exact all X.outer (fun _ hb => hb) I.ok.funs
theorem Inv.stack (I : Inv X pins σ H s) : s.heap.FunFrames X.base X.stack := by
 rcases I.ok.stk with e | ⟨e,hf⟩
 ·rw [e];exact I.funs
 ·rw [e]
  obtain ⟨m,hn,_⟩ := I.loc
  refine .cons (by rw [I.ok.kind];decide) hf hn ?_ I.funs
  exact Heap.get?_none_of_le (Nat.le_trans I.ok.bsz I.ok.above)
theorem Inv.stkSub (I : Inv X pins σ H s) : ∀ b ∈ frs X.stack,b ∈ X.env.locals :: X.fs := fun b hb => by
 rcases I.ok.stk with e | ⟨e,hf⟩
 ·rw [e] at hb;exact List.mem_cons_of_mem _ hb
 ·rw [e] at hb
  unfold frs at hb
  rw [List.filterMap_cons,hf] at hb
  exact hb
theorem Inv.stkFree (I : Inv X pins σ H s) : ∀ b ∈ frs X.stack,H b = none := fun b hb => by
 rcases List.mem_cons.mp (I.stkSub b hb) with e | hb
 ·rw [e];exact I.free
 ·obtain ⟨_,o,ho,_⟩ := I.ok.funs.mem hb
  exact I.base.free b o ho (I.ok.frf b hb) fun z => I.ok.exfs b z hb
theorem Inv.step {g' : Array GenState} {t' : Nat} {d' : Drawn} {ch : List Addr} (I : Inv X pins σ H s)
  (hch : ∀ b ∈ ch,(b ∈ X.ex ∨ X.s_0.heap.objs.size ≤ b) ∧ b ≠ X.env.locals ∧ (∀ x c,X.env.cells.lookup x = some c → c ≠ b) ∧ ∀ p ∈ X.pn ++ pins,p.1 ≠ b)
  (keep : ∀ b o,b ≠ X.env.locals → b ∉ X.fs → b ∉ ch → s.heap.get? b = some o → H b = none → h'.get? b = some o)
  (slot : ∀ b o,b ≠ X.env.locals → b ∈ X.fs → b ∉ ch → s.heap.get? b = some o → H b = none → ∃ sl,h'.get? b = some { o with slots := sl }) (free : ∀ b o,b ∉ ch → s.heap.get? b = some o → H b = none → H' b = none)
  (there : ∀ b o,b ∉ ch → s.heap.get? b = some o → ∃ o',h'.get? b = some o')
  (tups : ∀ b xs,H b = some (.tup xs) → H' b = some (.tup xs)) (frzs : ∀ b o u,H b = some (.frz o u) → H' b = some (.frz o u)) (tbls : ∀ b ps,H b = some (.tbl ps) → ∃ more,H' b = some (.tbl (ps ++ more)))
  (ns : ∀ m,s.heap.Ns X.env.locals m → h'.Ns X.env.locals m) (hok : HOk X.prog X.w H' h') (hg : AllBare g') :
  Inv X pins σ H' { s with heap := h',gens := g',drawn := d',toks := t' } := by
 have neL : ∀ b o,X.s_0.heap.get? b = some o → b ≠ X.env.locals := fun b o e => Nat.ne_of_lt (Nat.lt_of_lt_of_le (Heap.lt_size e) I.ok.above)
 have neC : ∀ b o,X.s_0.heap.get? b = some o → b ∉ X.ex → b ∉ ch := fun b o e hx hb => by
  rcases (hch b hb).1 with z | z
  ·exact hx z
  ·exact absurd (Nat.lt_of_lt_of_le (Heap.lt_size e) z) (Nat.lt_irrefl _)
 have cellK : ∀ x c,X.env.cells.lookup x = some c → ∀ v,s.heap.IsCell c v → h'.IsCell c v := fun x c e v ⟨o,ho,hd⟩ => by
  have nch : c ∉ ch := fun z => (hch c z).2.2.1 x c e rfl
  by_cases hc : c ∈ X.fs
  ·obtain ⟨sl,q⟩ := slot c o (I.cne x c e) hc nch ho (I.freeC x c e)
   exact ⟨_,q,hd⟩
  ·exact ⟨o,keep c o (I.cne x c e) hc nch ho (I.freeC x c e),hd⟩
 refine ⟨I.ok,I.os,hg,⟨fun b o e n hb hx => ?_,fun b o e n hb hx => ?_,fun b o e n hx => ?_,fun b o e hx => ?_,fun b xs e => tups b xs (I.base.tups b xs e),fun b o xs e => frzs b o xs (I.base.frzs b o xs e),fun b ps e => ?_⟩,?_,fun x c e => ?_,?_,fun x c e => ?_,fun p hp => ?_,hok,I.len⟩
 ·exact keep b o (neL b o e) hb (neC b o e hx) (I.base.keep b o e n hb hx) (I.base.free b o e n hx)
 ·obtain ⟨sl,e1⟩ := I.base.slot b o e n hb hx
  obtain ⟨sl',e2⟩ := slot b _ (neL b o e) hb (neC b o e hx) e1 (I.base.free b o e n hx)
  exact ⟨sl',e2⟩
 ·obtain ⟨o',e1⟩ := I.base.there b o e hx
  exact free b o' (neC b o e hx) e1 (I.base.free b o e n hx)
 ·obtain ⟨o',e1⟩ := I.base.there b o e hx
  exact there b o' (neC b o e hx) e1
 ·obtain ⟨m1,e1⟩ := I.base.tbls b ps e
  obtain ⟨m2,e2⟩ := tbls b _ e1
  exact ⟨m1 ++ m2,by rw [e2,Array.append_assoc]⟩
 ·obtain ⟨m,hn,hl⟩ := I.loc
  refine ⟨m,ns m hn,fun i x v e1 e2 e3 => ?_⟩
  obtain ⟨u,r,l⟩ := hl i x v e1 e2 e3
  refine ⟨u,r,?_⟩
  rcases l with l | ⟨k,c,e,z⟩
  ·exact .inl l
  ·exact .inr ⟨k,c,e,cellK x c e _ z⟩
 ·obtain ⟨v,z⟩ := I.cell x c e
  exact ⟨v,cellK x c e v z⟩
 ·obtain ⟨m,⟨o,_,_,ho,_⟩,_⟩ := I.loc
  exact free _ o (fun z => (hch _ z).2.1 rfl) ho I.free
 ·obtain ⟨v,o,ho,hd⟩ := I.cell x c e
  exact free c o (fun z => (hch c z).2.2.1 x c e rfl) ho (I.freeC x c e)
 ·obtain ⟨e,n,ne,nf,d⟩ := I.pin p hp
  have nch : p.1 ∉ ch := fun z => (hch p.1 z).2.2.2 p hp rfl
  exact ⟨keep p.1 p.2 ne nf nch e n,free p.1 p.2 nch e n,ne,nf,d⟩
theorem Inv.un {t' : Nat} (I : Inv X pins σ H s) (u : Un X.fs [] H H' s.heap h') (hok : HOk X.prog X.w H' h') : Inv X pins σ H' { s with heap := h',toks := t' } := by
 obtain ⟨m,⟨o,es,ep,ho,r⟩,_⟩ := id I.loc
 obtain ⟨sl,hL⟩ := u.any ho I.free (by simp)
 exact I.step (g' := s.gens) (d' := s.drawn) (ch := []) (fun _ z => nomatch z) (fun b o _ hb _ e n => u.keep b o e n hb (by simp)) (fun b o _ hb _ e n => u.slot b o e n hb (by simp)) (fun b o _ e n => u.free b o e n (by simp)) (fun b o _ e => u.there b o e (by simp)) u.tups u.frzs u.tbls (fun m' hm => by
  obtain ⟨o',es',ep',ho',r'⟩ := hm
  rw [ho] at ho';cases ho'
  exact ⟨_,es',ep',hL,r'⟩) hok I.bare
theorem Inv.call {g' : Array GenState} {t' : Nat} {d' : Drawn} {ch : List Addr} (I : Inv X pins σ H s) (u : Un (frs X.stack) ch H H' s.heap h') (hok : HOk X.prog X.w H' h') (hg : AllBare g')
  (hch : ∀ b ∈ ch,(b ∈ X.ex ∨ X.s_0.heap.objs.size ≤ b) ∧ b ≠ X.env.locals ∧ (∀ x c,X.env.cells.lookup x = some c → c ≠ b) ∧ ∀ p ∈ X.pn ++ pins,p.1 ≠ b) :
  Inv X pins σ H' { s with heap := h',gens := g',drawn := d',toks := t' } := by
 obtain ⟨m,⟨o,es,ep,ho,r⟩,_⟩ := id I.loc
 obtain ⟨sl,hL⟩ := u.any ho I.free fun z => (hch _ z).2.1 rfl
 exact I.step (ch := ch) hch (fun b o hL hb hc e n => u.keep b o e n (fun z => (List.mem_cons.mp (I.stkSub b z)).elim hL hb) hc) (fun b o _ _ hc e n => u.any e n hc) (fun b o hc e n => u.free b o e n hc) (fun b o hc e => u.there b o e hc) u.tups u.frzs u.tbls (fun m' hm => by
  obtain ⟨o',es',ep',ho',r'⟩ := hm
  rw [ho] at ho';cases ho'
  exact ⟨_,es',ep',hL,r'⟩) hok hg
theorem Inv.turned {t' : Nat} {it : Addr} (I : Inv X pins σ H s) (k : ∀ b o,b ≠ it → s.heap.get? b = some o → h'.get? b = some o) (hn : H it = none) (hL : it ≠ X.env.locals)
  (h1 : it ∈ X.ex ∨ X.s_0.heap.objs.size ≤ it) (h2 : ∀ x c,X.env.cells.lookup x = some c → c ≠ it) (h3 : ∀ p ∈ X.pn ++ pins,p.1 ≠ it) : Inv X pins σ H { s with heap := h',toks := t' } := by
 have nit : ∀ b u,H b = some u → b ≠ it := fun b u e z => by rw [z,hn] at e;cases e
 refine I.step (g' := s.gens) (d' := s.drawn) (ch := [it]) (fun b hb => ?_) (fun b o _ _ hc e _ => k b o (fun z => hc (by simp [z])) e) (fun b o _ _ hc e _ => ⟨o.slots,k b o (fun z => hc (by simp [z])) e⟩) (fun _ _ _ _ n => n)
  (fun b o hc e => ⟨o,k b o (fun z => hc (by simp [z])) e⟩) (fun _ _ e => e) (fun _ _ _ e => e) (fun b ps e => ⟨#[],by rw [e];simp⟩) (fun m hm => ?_) (fun b u e => ?_) I.bare
 ·have e : b = it := by simpa using hb
  subst e
  exact ⟨h1,hL,h2,h3⟩
 ·obtain ⟨o,es,ep,ho,r⟩ := hm
  exact ⟨o,es,ep,k _ o (Ne.symm hL) ho,r⟩
 ·refine (I.hok b u e).stay (fun c v hc q => k c v ?_ q) (fun _ q => q) fun _ _ q => q
  rcases hc with z | z
  ·rw [z];exact nit b u e
  ·exact nit c _ z
theorem Inv.tok (I : Inv X pins σ H s) (t : Nat) : Inv X pins σ H { s with toks := t } := I.un (h' := s.heap) (t' := t) Un.refl I.hok
theorem Inv.kept {t' : Nat} (I : Inv X pins σ H s) (k : ∀ b u,s.heap.get? b = some u → h'.get? b = some u) : Inv X pins σ H { s with heap := h',toks := t' } := I.un (Un.kept k) (I.hok.kept k)
theorem Inv.laid {a : Addr} {o : HO} {t' : Nat} (I : Inv X pins σ H s) (k : ∀ b u,s.heap.get? b = some u → h'.get? b = some u) (hp : s.heap.objs.size ≤ a) (new : ObjOk X.prog X.w (upd H a o) h' a o) :
  Inv X pins σ (upd H a o) { s with heap := h',toks := t' } := I.un (Un.laid k hp (I.hok.fresh hp)) (I.hok.laid k hp new)
theorem Inv.write {x e : Addr} {o : HO} {t' : Nat} (I : Inv X pins σ H s) (mu : Mut (H x)) (he : e = x ∨ H e = some (.own x)) (k : ∀ b u,b ≠ e → s.heap.get? b = some u → h'.get? b = some u) (heo : ∃ u,h'.get? e = some u)
  (new : ObjOk X.prog X.w (upd H x o) h' x o) : Inv X pins σ (upd H x o) { s with heap := h',toks := t' } := I.un (Un.write mu he k heo) (I.hok.write mu he k heo new)
theorem Inv.weak {σ' : List (Option V)} (I : Inv X pins σ H s) (hl : σ'.length = σ.length) (w : ∀ (i : Nat) v,σ'[i]? = some (some v) → σ[i]? = some (some v)) : Inv X pins σ' H s :=
 ⟨I.ok,I.os,I.bare,I.base,let ⟨m,hn,hl'⟩ := I.loc;⟨m,hn,fun i x v e1 e2 e3 => hl' i x v e1 (w i v e2) e3⟩,I.cell,I.free,I.freeC,I.pin,I.hok,hl.trans I.len⟩
theorem Inv.pins_of {pins' : List (Addr × Obj)} (I : Inv X pins σ H s) (h : ∀ p ∈ pins',s.heap.get? p.1 = some p.2 ∧ H p.1 = none ∧ p.1 ≠ X.env.locals ∧ p.1 ∉ X.fs ∧ ∀ v,p.2.data ≠ .cell v) : Inv X pins' σ H s :=
 ⟨I.ok,I.os,I.bare,I.base,I.loc,I.cell,I.free,I.freeC,fun p hp => (List.mem_append.mp hp).elim (fun z => I.pin p (List.mem_append_left _ z)) (h p),I.hok,I.len⟩
theorem jfa {N : List Str} (hN : N.Nodup) {i j : Nat} {x : Str} (a : N[i]? = some x) (b : N[j]? = some x) : i = j := by
 obtain ⟨h1,e1⟩ := List.getElem?_eq_some_iff.mp a
 obtain ⟨h2,e2⟩ := List.getElem?_eq_some_iff.mp b
 exact (List.getElem_inj hN).mp (e1.trans e2.symm)
theorem jfQ {M : Model} {A : Around} {E : Value → Shared → Prop} {i : Nat} {x : Str} {v : V} {u : Value} {Q : Unit → Shared → Prop} (I : Inv X pins σ H s) (hN : X.N.Nodup) (hi : X.N[i]? = some x) (hx : Loc X.env.scope x) (r : RelV v u)
  (h : ∀ s',Inv X pins (σ.set i (some v)) H s' → (∃ a,Heap.SameBut a s.heap s'.heap ∧ (a = X.env.locals ∨ X.env.cells.lookup x = some a)) → Q () s') (hf : X.fn x = true ∨ X.env.scope.names.lookup x = some .local := by first | exact .inl rfl | exact .inr rfl | assumption) : wpAny M A (storeName X.env x u) Q E s := by
 obtain ⟨m,hn,hl⟩ := id I.loc
 have hcls : (X.env.scope.kind == .class || (X.env.scope.kind == .module && X.env.locals != X.env.globals)) = false := by rw [I.ok.kind];rfl
 have hiσ : i < σ.length := by rw [I.len];exact (List.getElem?_eq_some_iff.mp hi).1
 have cne := I.cne
 have tracked : ∀ {a : Addr} {h' : Heap},(∃ o,s.heap.get? a = some o ∧ H a = none) → Heap.SameBut a s.heap h' → HOk X.prog X.w H h' := fun {a h'} ha hs b ob e => by
  obtain ⟨_,_,hfree⟩ := ha
  refine (I.hok b ob e).stay (fun c w' hc q => (hs.2 c ?_).trans q) (fun _ q => q) fun _ _ q => q
  rintro rfl
  rcases hc with rfl | hc
  ·rw [hfree] at e;cases e
  ·rw [hfree] at hc;cases hc
 rcases hx with hk | hk
 ·refine wpAny_storeName_local hk hn (fun h' hn' hs => ?_) hcls
  obtain ⟨oL,_,_,hoL,_⟩ := id hn
  refine h _ ⟨I.ok,I.os,I.bare,⟨fun b o e n hb hx => ?_,fun b o e n hb hx => ?_,I.base.free,fun b o e hx => ?_,I.base.tups,I.base.frzs,I.base.tbls⟩,⟨_,hn',fun j y v' e1 e2 e3 => ?_⟩,fun y c e => ?_,I.free,I.freeC,fun p hp => ?_,tracked ⟨oL,hoL,I.free⟩ hs,by simpa using I.len⟩ ⟨_,hs,.inl rfl⟩
  ·exact (hs.2 b (Nat.ne_of_lt (Nat.lt_of_lt_of_le (Heap.lt_size e) I.ok.above))).trans (I.base.keep b o e n hb hx)
  ·obtain ⟨sl,e1⟩ := I.base.slot b o e n hb hx
   exact ⟨sl,(hs.2 b (Nat.ne_of_lt (Nat.lt_of_lt_of_le (Heap.lt_size e) I.ok.above))).trans e1⟩
  ·obtain ⟨o',e1⟩ := I.base.there b o e hx
   exact ⟨o',(hs.2 b (Nat.ne_of_lt (Nat.lt_of_lt_of_le (Heap.lt_size e) I.ok.above))).trans e1⟩
  ·by_cases hj : j = i
   ·subst hj
    rw [hi] at e1;cases e1
    rw [List.getElem?_set_self hiσ] at e2
    cases e2
    exact ⟨u,r,.inl ⟨hk,by simp⟩⟩
   ·rw [List.getElem?_set_ne (Ne.symm hj)] at e2
    obtain ⟨u',r',q⟩ := hl j y v' e1 e2 e3
    refine ⟨u',r',?_⟩
    rcases q with ⟨k,e⟩ | ⟨k,c,e,z⟩
    ·refine .inl ⟨k,?_⟩
     have : y ≠ x := fun e => hj (jfa hN e1 (e ▸ hi))
     simp [this,e]
    ·exact .inr ⟨k,c,e,z.sameBut hs (cne y c e)⟩
  ·obtain ⟨w',z⟩ := I.cell y c e
   exact ⟨w',z.sameBut hs (cne y c e)⟩
  ·obtain ⟨e,n,ne,nf,d⟩ := I.pin p hp
   exact ⟨(hs.2 p.1 ne).trans e,n,ne,nf,d⟩
 ·have hfn : X.fn x = true := by
   rcases hf with z | z
   ·exact z
   ·rw [z] at hk;cases hk
  obtain ⟨c,hc⟩ := I.ok.has x (.inl hk)
  obtain ⟨w',z⟩ := I.cell x c hc
  refine wpAny_storeName_cell I.ok.kind hk hc z (fun h' hc' hs => ?_)
  obtain ⟨oc,hoc,hocd⟩ := id z
  refine h { s with heap := h' } ⟨I.ok,I.os,I.bare,⟨fun b o e n hb hx => ?_,fun b o e n hb hx => ?_,I.base.free,fun b o e hx => ?_,I.base.tups,I.base.frzs,I.base.tbls⟩,⟨m,hn.sameBut hs (Ne.symm (cne x c hc)),fun j y v' e1 e2 e3 => ?_⟩,fun y c' e => ?_,I.free,I.freeC,fun p hp => ?_,tracked ⟨oc,hoc,I.freeC x c hc⟩ hs,by simpa using I.len⟩ ⟨c,hs,.inr hc⟩
  ·exact (hs.2 b (Nat.ne_of_lt (Nat.lt_of_lt_of_le (Heap.lt_size e) (I.ok.cab x c hfn hc)))).trans (I.base.keep b o e n hb hx)
  ·obtain ⟨sl,e1⟩ := I.base.slot b o e n hb hx
   exact ⟨sl,(hs.2 b (Nat.ne_of_lt (Nat.lt_of_lt_of_le (Heap.lt_size e) (I.ok.cab x c hfn hc)))).trans e1⟩
  ·obtain ⟨o',e1⟩ := I.base.there b o e hx
   exact ⟨o',(hs.2 b (Nat.ne_of_lt (Nat.lt_of_lt_of_le (Heap.lt_size e) (I.ok.cab x c hfn hc)))).trans e1⟩
  ·by_cases hj : j = i
   ·subst hj
    rw [hi] at e1;cases e1
    rw [List.getElem?_set_self hiσ] at e2
    cases e2
    exact ⟨u,r,.inr ⟨.inl hk,c,hc,hc'⟩⟩
   ·rw [List.getElem?_set_ne (Ne.symm hj)] at e2
    obtain ⟨u',r',q⟩ := hl j y v' e1 e2 e3
    refine ⟨u',r',?_⟩
    rcases q with q | ⟨k,c',e,z'⟩
    ·exact .inl q
    ·refine .inr ⟨k,c',e,z'.sameBut hs ?_⟩
     rintro rfl
     exact hj (jfa hN e1 (I.ok.inj _ _ _ e hc ▸ hi))
  ·by_cases hcc : c' = c
   ·subst hcc;exact ⟨_,hc'⟩
   ·obtain ⟨w2,z2⟩ := I.cell y c' e
    exact ⟨w2,z2.sameBut hs hcc⟩
  ·obtain ⟨e,n,ne,nf,d⟩ := I.pin p hp
   refine ⟨(hs.2 p.1 ?_).trans e,n,ne,nf,d⟩
   intro q
   rw [q,hoc] at e
   have q' : oc = p.2 := Option.some.inj e
   exact d w' (by rw [← q'];exact hocd)
theorem jeW {M : Model} {A : Around} {E : Value → Shared → Prop} {i : Nat} {x : Str} {v : V} {u : Value} {Q : Unit → Shared → Prop} (I : Inv X pins σ H s) (hN : X.N.Nodup) (hi : X.N[i]? = some x) (hx : Loc X.env.scope x) (r : RelV v u)
  (h : ∀ s',Inv X pins (σ.set i (some v)) H s' → Q () s') (hf : X.fn x = true ∨ X.env.scope.names.lookup x = some .local := by first | exact .inl rfl | exact .inr rfl | assumption) : wpAny M A (storeName X.env x u) Q E s :=
 jfQ I hN hi hx r (fun s' I' _ => h s' I') hf
theorem Inv.call' {s' : Shared} {ch : List Addr} (I : Inv X pins σ H s) (ho : s'.os = s.os) (u : Un (frs X.stack) ch H H' s.heap s'.heap) (hok : HOk X.prog X.w H' s'.heap) (hg : AllBare s'.gens)
  (hch : ∀ b ∈ ch,(b ∈ X.ex ∨ X.s_0.heap.objs.size ≤ b) ∧ b ≠ X.env.locals ∧ (∀ x c,X.env.cells.lookup x = some c → c ≠ b) ∧ ∀ p ∈ X.pn ++ pins,p.1 ≠ b) : Inv X pins σ H' s' := by
 obtain ⟨h',g',d',t',o'⟩ := s'
 have e : o' = s.os := ho
 subst e
 exact I.call (g' := g') (t' := t') (d' := d') u hok hg hch
end
abbrev XK := Value → Option Addr → Hp → Prop
abbrev St := List (Option V)
abbrev VK := V → Hp → Prop
abbrev TE := St → Hp → VK → Prop
abbrev TT := St → Hp → (Bool → Hp → Prop) → Prop
abbrev TA := St → Hp → (List V → Hp → Prop) → Prop
structure Ends where
 nx : St → Hp → Prop
 rt : VK
 bk : St → Hp → Prop := fun _ _ => False
 ct : St → Hp → Prop := fun _ _ => False
abbrev TS := Ends → St → Hp → Prop
def EP (X : Cx) (pins : List (Addr × Obj)) (σ : St) (Q : VK) (u : Value) (s' : Shared) : Prop := ∃ v H',Inv X pins σ H' s' ∧ RelV v u ∧ Q v H'
def TP (X : Cx) (pins : List (Addr × Obj)) (σ : St) (Q : Bool → Hp → Prop) (b : Bool) (s' : Shared) : Prop := ∃ H',Inv X pins σ H' s' ∧ Q b H'
def AP (X : Cx) (pins : List (Addr × Obj)) (σ : St) (Q : List V → Hp → Prop) (us : List Value) (s' : Shared) : Prop := ∃ vs H',Inv X pins σ H' s' ∧ Vals vs us ∧ Q vs H'
def SP (X : Cx) (pins : List (Addr × Obj)) (D : Ends) (f : Flow) (s' : Shared) : Prop :=
 match f with
 | .next => ∃ σ' H',Inv X pins σ' H' s' ∧ D.nx σ' H'
 | .brk => ∃ σ' H',Inv X pins σ' H' s' ∧ D.bk σ' H'
 | .cont => ∃ σ' H',Inv X pins σ' H' s' ∧ D.ct σ' H'
 | .ret u => ∃ v σ' H',Inv X pins σ' H' s' ∧ RelV v u ∧ D.rt v H'
def PE (X : Cx) (e : Expr) (t : TE) : Prop :=
 ∀ (pins : List (Addr × Obj)) (s : Shared) (σ : St) (H : Hp) (Q : VK),Inv X pins σ H s → t σ H Q → wpAny (model X.prog X.w) X.A (eval e X.env) (EP X pins σ Q) X.xe s
def PT (X : Cx) (e : Expr) (t : TT) : Prop :=
 ∀ (pins : List (Addr × Obj)) (s : Shared) (σ : St) (H : Hp) (Q : Bool → Hp → Prop),Inv X pins σ H s → t σ H Q → wpAny (model X.prog X.w) X.A (isTrue e X.env (eval e X.env)) (TP X pins σ Q) X.xe s
def PW (X : Cx) (e : Expr) (t : TT) : Prop :=
 ∀ (whole : Sem Value) (pins : List (Addr × Obj)) (s : Shared) (σ : St) (H : Hp) (Q : Bool → Hp → Prop),Inv X pins σ H s → t σ H Q → wpAny (model X.prog X.w) X.A (isTrue e X.env whole) (TP X pins σ Q) X.xe s
theorem PW.pt {X : Cx} {e : Expr} {t : TT} (h : PW X e t) : PT X e t := h _
def PA (X : Cx) (es : List Expr) (t : TA) : Prop :=
 ∀ (pos : Pos) (pins : List (Addr × Obj)) (s : Shared) (σ : St) (H : Hp) (Q : List V → Hp → Prop),Inv X pins σ H s → t σ H Q → wpAny (model X.prog X.w) X.A (spliced (backTo pos (starEach es X.env))) (AP X pins σ Q) X.xe s
def PS (X : Cx) (st : Stmt) (t : TS) : Prop :=
 ∀ (pins : List (Addr × Obj)) (s : Shared) (σ : St) (H : Hp) (D : Ends),Inv X pins σ H s → t D σ H → wpAny (model X.prog X.w) X.A (exec st X.env) (SP X pins D) X.xe s
def PSs (X : Cx) (st : List Stmt) (t : TS) : Prop :=
 ∀ (pins : List (Addr × Obj)) (s : Shared) (σ : St) (H : Hp) (D : Ends),Inv X pins σ H s → t D σ H → wpAny (model X.prog X.w) X.A (execs st X.env) (SP X pins D) X.xe s
theorem thn {α : Type} {t : Sem α} {Q Q' : α → Shared → Prop} {M : Model} {A : Around} {E : Value → Shared → Prop} {s : Shared} (h : wpAny M A t Q E s) (hQ : ∀ a s,Q a s → Q' a s) : wpAny M A t Q' E s := wpAny_mono h hQ fun _ _ x => x
end L2
namespace L2
open PySem PySem.Spec PyProof.Rows
section
variable {X : Cx}
theorem bin {a b : Expr} {ta tb : TE} (ha : PE X a ta) (hb : PE X b tb) {pins : List (Addr × Obj)} {s : Shared} {σ : St} {H : Hp} {R : V → V → Hp → Prop} (I : Inv X pins σ H s) (h : ta σ H fun x H1 => tb σ H1 fun y H2 => R x y H2)
  {α : Type} {Q : α → Shared → Prop} {f : Value → Value → Sem α}
  (hf : ∀ v u s2 x y H2,Inv X pins σ H2 s2 → RelV x v → RelV y u → R x y H2 → wpAny (model X.prog X.w) X.A (f v u) Q X.xe s2) :
  wpAny (model X.prog X.w) X.A (eval a X.env) (fun v s₁ => wpAny (model X.prog X.w) X.A (eval b X.env) (fun u s₂ => wpAny (model X.prog X.w) X.A (f v u) Q X.xe s₂) X.xe s₁) X.xe s := by
 refine thn (ha pins s σ H _ I h) fun v s1 ⟨x,H1,I1,r1,q1⟩ => ?_
 refine thn (hb pins s1 σ H1 _ I1 q1) fun u s2 ⟨y,H2,I2,r2,q2⟩ => ?_
 exact hf v u s2 x y H2 I2 r1 r2 q2
def tVar (i : Nat) : TE := fun σ H Q => ∃ v,σ[i]? = some (some v) ∧ Q v H
def tC (v : V) : TE := fun _ H Q => Q v H
theorem pe_var {i : Nat} {x : Str} {pos : Pos} (hN : X.N[i]? = some x) (hv : Vis X.env.scope x) (hd : (x == ("__debug__" : Str)) = false := by decide) (hcd : (x == ("__classdict__" : Str)) = false := by decide) : PE X (.Name x pos) (tVar i) := by
 intro pins s σ H Q I h
 obtain ⟨v,e,h⟩ := h
 obtain ⟨m,hn,hl⟩ := I.loc
 obtain ⟨u,r,l⟩ := hl i x v hN e hv
 have fin : EP X pins σ Q u s := ⟨v,H,I,r,h⟩
 rcases l with ⟨hk,hm⟩ | ⟨hk,c,hc,hcell⟩
 ·exact wpAny_Name (wpAny_loadName_local I.ok.kind hk hn hm fin) hd
 ·rcases hk with hk | hk
  ·exact wpAny_Name (wpAny_loadName_cell I.ok.kind hk hc hcell fin) hd
  ·exact wpAny_Name (wpAny_loadName_free I.ok.kind hk hc hcell fin hcd) hd
theorem pe_int {i j pos} : PE X (.Constant (.int i) j pos) (tC (.int i)) := fun _ _ _ H _ I h => wpAny_Constant_int ⟨.int i,H,I.tok _,⟨_,rfl⟩,h⟩
theorem pe_bl {b j pos} : PE X (.Constant (.bool b) j pos) (tC (.bl b)) := fun _ _ _ H _ I h => Constant_bool ⟨.bl b,H,I,rfl,h⟩
theorem pe_non {j pos} : PE X (.Constant .none j pos) (tC .non) := fun _ _ _ H _ I h => Constant_none ⟨.non,H,I,rfl,h⟩
theorem pe_str {x j pos} : PE X (.Constant (.str x) j pos) (tC (.str x)) := fun _ _ _ H _ I h => Calls.Constant_str ⟨.str x,H,I.tok _,⟨_,rfl⟩,h⟩
def Gl (X : Cx) (x : Str) : Prop := X.env.kindOf x = some .globalImplicit
theorem jjc {E : Value → Shared → Prop} {pins : List (Addr × Obj)} {s : Shared} {σ : St} {H : Hp} {x : Str} {u : Value} {pos : Pos} {Q : Value → Shared → Prop} (I : Inv X pins σ H s) (hg : Gl X x) (hm : X.mg x = some u) (h : Q u s)
  (hd : (x == ("__debug__" : Str)) = false := by decide) : wpAny (model X.prog X.w) X.A (eval (.Name x pos) X.env) Q E s :=
 Calls.Name_function_global I.ok.kind hg (Calls.loadGlobal_global (by rw [I.ok.glob];exact I.mod.glob.keeps I.bk) hm h) hd
theorem jcM {E : Value → Shared → Prop} {pins : List (Addr × Obj)} {s : Shared} {σ : St} {H : Hp} {x : Str} {u : Value} {pos : Pos} {Q : Value → Shared → Prop} (I : Inv X pins σ H s) (hg : Gl X x) (hm : X.mg x = none) (hv : bootBuiltins x = some u) (h : Q u s)
  (hn : x ≠ "__name__" := by decide) (hd : (x == ("__debug__" : Str)) = false := by decide) : wpAny (model X.prog X.w) X.A (eval (.Name x pos) X.env) Q E s := by
 obtain ⟨mb,h1,h2⟩ := I.mod.blt
 exact Calls.Name_function_global I.ok.kind hg (Calls.loadGlobal_builtin (by rw [I.ok.glob];exact I.mod.glob.keeps I.bk) hm (by rw [I.ok.blt];exact h1.keeps I.bk) ((h2 x hn).trans hv) h) hd
theorem pe_glob {x : Str} {v : V} {u : Value} {pos : Pos} (hg : Gl X x) (hm : X.mg x = some u) (r : RelV v u) (hd : (x == ("__debug__" : Str)) = false := by decide) : PE X (.Name x pos) (tC v) :=
 fun _ _ _ H _ I h => jjc I hg hm ⟨v,H,I,r,h⟩ hd
theorem pe_bltn {x : Str} {v : V} {u : Value} {pos : Pos} (hg : Gl X x) (hm : X.mg x = none) (hv : bootBuiltins x = some u) (r : RelV v u) (hn : x ≠ "__name__" := by decide) (hd : (x == ("__debug__" : Str)) = false := by decide) : PE X (.Name x pos) (tC v) :=
 fun _ _ _ H _ I h => jcM I hg hm hv ⟨v,H,I,r,h⟩ hn hd
variable {a b : Expr} {ta tb : TE} {pos : Pos}
def PC (X : Cx) (op : CmpOp) (a b : Expr) (t : TE) : Prop :=
 ∀ (pins : List (Addr × Obj)) (s : Shared) (σ : St) (H : Hp) (Q : VK),Inv X pins σ H s → t σ H Q →
  wpAny (model X.prog X.w) X.A (eval a X.env) (fun v s₁ => wpAny (model X.prog X.w) X.A (eval b X.env) (fun u s₂ => wpAny (model X.prog X.w) X.A (compareOp op v u) (EP X pins σ Q) X.xe s₂) X.xe s₁) X.xe s
theorem jkb (b : Expr) {op : CmpOp} (h : op ≠ .In) (h2 : op ≠ .NotIn) : behindInMarks op b = false := by
 have e1 : (op == CmpOp.In) = false := by cases op <;> first | rfl | exact absurd rfl h
 have e2 : (op == CmpOp.NotIn) = false := by cases op <;> first | rfl | exact absurd rfl h2
 cases b <;> simp [behindInMarks,e1,e2]
def tB (t : TE) : TT := fun σ H Q => t σ H fun x H1 => ∃ c,x = .bl c ∧ Q c H1
theorem pt_cmp {op : CmpOp} {t : TE} (h : PC X op a b t) (h1 : behindInMarks op b = false := by first | exact jkb _ (by decide) (by decide) | rfl) : PT X (.Compare a [op] [b] pos) (tB t) := by
 intro pins s σ H Q I hw
 refine wpAny_isTrue_Compare1 (thn (h pins s σ H _ I hw) fun v s1 h1 => thn h1 fun u s2 h2 => thn h2 fun c s3 ⟨x,H1,I1,r1,q1⟩ => ?_) h1
 obtain ⟨d,rfl,q⟩ := q1
 cases r1
 exact wpAny_truthy_bool ⟨H1,I1,q⟩
theorem pt_val {e : Expr} {t : TE} (h : PE X e t) (he : ∀ whole,isTrue e X.env whole = (do let v ← whole;standAt e.pos;holding [v] (truthy v)) := by intro _;rfl) : PT X e (tB t) := by
 intro pins s σ H Q I hw
 refine isTrue_plain (thn (h pins s σ H _ I hw) fun v s1 ⟨x,H1,I1,r1,q1⟩ => ?_) (he _)
 obtain ⟨d,rfl,q⟩ := q1
 cases r1
 exact wpAny_truthy_bool ⟨H1,I1,q⟩
variable {tA tB' : TT} {rest : List Expr}
def tAnd (t u : TT) : TT := fun σ H Q => t σ H fun c H1 => if c = true then u σ H1 Q else Q false H1
def tOr (t u : TT) : TT := fun σ H Q => t σ H fun c H1 => if c = true then Q true H1 else u σ H1 Q
def tNot (t : TT) : TT := fun σ H Q => t σ H fun c H1 => Q (!c) H1
theorem pw_and1 (ha : PT X a tA) : PW X (.BoolOp .And [a] pos) tA := by
 intro wh pins s σ H Q I h
 refine isTrue_and (thn (ha pins s σ H Q I h) fun c s1 e => ?_)
 cases c with
 | true => exact isTrue_and_nil e
 | false => exact e
theorem pw_or1 (ha : PT X a tA) : PW X (.BoolOp .Or [a] pos) tA := by
 intro wh pins s σ H Q I h
 refine isTrue_or (thn (ha pins s σ H Q I h) fun c s1 e => ?_)
 cases c with
 | false => exact isTrue_or_nil e
 | true => exact e
theorem pw_and (ha : PT X a tA) (hb : PW X (.BoolOp .And (b :: rest) pos) tB') : PW X (.BoolOp .And (a :: b :: rest) pos) (tAnd tA tB') := by
 intro wh pins s σ H Q I h
 refine isTrue_and (thn (ha pins s σ H _ I h) fun c s1 ⟨H1,I1,q1⟩ => ?_)
 cases c with
 | true => exact hb wh pins s1 σ H1 Q I1 q1
 | false => exact ⟨H1,I1,q1⟩
theorem pw_or (ha : PT X a tA) (hb : PW X (.BoolOp .Or (b :: rest) pos) tB') : PW X (.BoolOp .Or (a :: b :: rest) pos) (tOr tA tB') := by
 intro wh pins s σ H Q I h
 refine isTrue_or (thn (ha pins s σ H _ I h) fun c s1 ⟨H1,I1,q1⟩ => ?_)
 cases c with
 | true => exact ⟨H1,I1,q1⟩
 | false => exact hb wh pins s1 σ H1 Q I1 q1
theorem pt_not (ha : PT X a tA) : PT X (.UnaryOp .Not a pos) (tNot tA) := by
 intro pins s σ H Q I h
 exact isTrue_not (ha pins s σ H (fun c H1 => Q (!c) H1) I h)
def tAndV (ta tb : TE) : TE := fun σ H Q => ta σ H fun x H1 => ∃ c,x = .bl c ∧ if c = true then tb σ H1 Q else Q (.bl false) H1
def tOrV (ta tb : TE) : TE := fun σ H Q => ta σ H fun x H1 => ∃ c,x = .bl c ∧ if c = true then Q (.bl true) H1 else tb σ H1 Q
def tNotV (ta : TE) : TE := fun σ H Q => ta σ H fun x H1 => ∃ c,x = .bl c ∧ Q (.bl (!c)) H1
theorem pe_one {op} {t : TE} (h : PE X a t) : PE X (.BoolOp op [a] pos) t := fun pins s σ H Q I hw => BoolOp_one (h pins s σ H Q I hw)
theorem pe_and (ha : PE X a ta) (hb : PE X (.BoolOp .And (b :: rest) pos) tb) : PE X (.BoolOp .And (a :: b :: rest) pos) (tAndV ta tb) := by
 intro pins s σ H Q I h
 refine BoolOp_and (thn (ha pins s σ H _ I h) fun v s1 ⟨x,H1,I1,r1,q1⟩ => ?_)
 obtain ⟨c,rfl,q1⟩ := q1
 cases r1
 refine wpAny_truthy_bool ?_
 cases c with
 | true => exact hb pins s1 σ H1 Q I1 q1
 | false => exact ⟨.bl false,H1,I1,rfl,q1⟩
theorem pe_or (ha : PE X a ta) (hb : PE X (.BoolOp .Or (b :: rest) pos) tb) : PE X (.BoolOp .Or (a :: b :: rest) pos) (tOrV ta tb) := by
 intro pins s σ H Q I h
 refine BoolOp_or (thn (ha pins s σ H _ I h) fun v s1 ⟨x,H1,I1,r1,q1⟩ => ?_)
 obtain ⟨c,rfl,q1⟩ := q1
 cases r1
 refine wpAny_truthy_bool ?_
 cases c with
 | false => exact hb pins s1 σ H1 Q I1 q1
 | true => exact ⟨.bl true,H1,I1,rfl,q1⟩
theorem pe_not (ha : PE X a ta) : PE X (.UnaryOp .Not a pos) (tNotV ta) := by
 intro pins s σ H Q I h
 refine UnaryOp_ (thn (ha pins s σ H _ I h) fun v s1 ⟨x,H1,I1,r1,q1⟩ => ?_)
 obtain ⟨c,rfl,q1⟩ := q1
 cases r1
 exact not_of (wpAny_truthy_bool ⟨.bl (!c),H1,I1,rfl,q1⟩)
def tIf (t : TT) (ta tb : TE) : TE := fun σ H Q => t σ H fun c H1 => if c = true then ta σ H1 Q else tb σ H1 Q
theorem pe_ifExp {c : Expr} (hc : PT X c tA) (ha : PE X a ta) (hb : PE X b tb) : PE X (.IfExp c a b pos) (tIf tA ta tb) := by
 intro pins s σ H Q I h
 refine wpAny_IfExp (thn (hc pins s σ H _ I h) fun d s1 ⟨H1,I1,q1⟩ => ?_)
 cases d with
 | true => exact ha pins s1 σ H1 Q I1 q1
 | false => exact hb pins s1 σ H1 Q I1 q1
end
end L2
namespace L2
open PySem PySem.Spec PyProof.Rows
def SqL (K : PySem.W.Frag) (H : Hp) (a : Addr) (xs : List V) : Prop :=
 Rd H a (.lst xs) ∨
  ∃ (o : Obj) (its : Array Value) (n : Nat),K.lookup a = some o ∧ o.cls = .type "list" ∧ o.dict = none ∧ o.data = .seq its n ∧ its.size ≤ sizeLine ∧ Vals xs its.toList
def SqT (K : PySem.W.Frag) (H : Hp) (a : Addr) (xs : List V) : Prop :=
 Rd H a (.tup xs) ∨
  ∃ (o : Obj) (its : Array Value) (n : Nat),K.lookup a = some o ∧ o.cls = .type "tuple" ∧ o.data = .seq its n ∧ its.size ≤ sizeLine ∧ Vals xs its.toList
def absV : Value → Option V
 | .none => some .non
 | .bool b => some (.bl b)
 | .int i _ => some (.int i)
 | .str x _ => some (.str x)
 | .bytes b _ => some (.byt b)
 | .float b _ => some (.flt b)
 | .ref a => some (.ref a)
 | .type n => some (.ty n)
 | _ => none
theorem RelV.abs {x : V} {u : Value} (r : RelV x u) : absV u = some x := by
 cases x with
 | non => cases r;rfl
 | bl _ => cases r;rfl
 | int _ => obtain ⟨t,rfl⟩ := r;rfl
 | str _ => obtain ⟨t,rfl⟩ := r;rfl
 | byt _ => obtain ⟨t,rfl⟩ := r;rfl
 | flt _ => obtain ⟨t,rfl⟩ := r;rfl
 | ref _ => cases r;rfl
 | ty _ => cases r;rfl
theorem RelV.inj {x y : V} {u : Value} (r : RelV x u) (q : RelV y u) : x = y := Option.some.inj (r.abs.symm.trans q.abs)
theorem Vals.inj : ∀ {xs ys : List V} {us : List Value},Vals xs us → Vals ys us → xs = ys
 | _,_,_,.nil,.nil => rfl
 | _,_,_,.cons r t,.cons r' t' => by rw [r.inj r',Vals.inj t t']
section
variable {X : Cx} {pins : List (Addr × Obj)} {σ : St} {H : Hp} {s : Shared} {a : Addr} {xs ys : List V}
theorem SqL.of {K : PySem.W.Frag} (h : H a = some (.lst xs)) : SqL K H a xs := .inl (.inl h)
theorem SqT.of {K : PySem.W.Frag} (h : H a = some (.tup xs)) : SqT K H a xs := .inl (.inl h)
theorem Inv.list (I : Inv X pins σ H s) (h : SqL X.K H a xs) : ∃ its : List Value,Vals xs its ∧ PlainL s.heap a its.toArray ∧ xs.length ≤ sizeLine := by
 rcases h with h | ⟨o,its,n,hk,hc,hd,hs,hz,r⟩
 ·obtain ⟨z,its,n,r,e⟩ := h.ok I.hok
  exact ⟨its,r,⟨_,n,e,rfl,rfl,rfl⟩,z⟩
 ·refine ⟨its.toList,r,⟨o,n,I.kIn a o hk,hc,hd,by simpa using hs⟩,?_⟩
  have e := r.length
  simp only [Array.length_toList] at e
  omega
theorem Inv.tuple (I : Inv X pins σ H s) (h : SqT X.K H a xs) : ∃ its : List Value,Vals xs its ∧ IsTup s.heap a its.toArray ∧ xs.length ≤ sizeLine := by
 rcases h with h | ⟨o,its,n,hk,hc,hs,hz,r⟩
 ·obtain ⟨z,its,r,p⟩ := h.ok I.hok
  exact ⟨its,r,p,z⟩
 ·refine ⟨its.toList,r,⟨o,I.kIn a o hk,hc,n,by simpa using hs⟩,?_⟩
  have e := r.length
  simp only [Array.length_toList] at e
  omega
theorem Inv.list_inj (I : Inv X pins σ H s) (h : SqL X.K H a xs) (h' : SqL X.K H a ys) : xs = ys := by
 obtain ⟨its,r,⟨o,n,e,_,_,d⟩,_⟩ := I.list h
 obtain ⟨its',r',⟨o',n',e',_,_,d'⟩,_⟩ := I.list h'
 rw [e] at e';cases e'
 rw [d] at d'
 injection d' with d1 _
 have : its = its' := by simpa using congrArg Array.toList d1
 subst this
 exact r.inj r'
theorem Inv.tuple_inj (I : Inv X pins σ H s) (h : SqT X.K H a xs) (h' : SqT X.K H a ys) : xs = ys := by
 obtain ⟨its,r,⟨o,e,_,n,d⟩,_⟩ := I.tuple h
 obtain ⟨its',r',⟨o',e',_,n',d'⟩,_⟩ := I.tuple h'
 rw [e] at e';cases e'
 rw [d] at d'
 injection d' with d1 _
 have : its = its' := by simpa using congrArg Array.toList d1
 subst this
 exact r.inj r'
end
abbrev Cx.wish (X : Cx) (E : Value → Shared → Prop) : Cx := { X with xe := E }
abbrev Cx.nox (X : Cx) : Cx := X.wish fun _ _ => False
theorem Cx.Ok.wish {X : Cx} (ok : X.Ok) (E : Value → Shared → Prop) : (X.wish E).Ok :=
 ⟨ok.mod,ok.kind,ok.glob,ok.blt,ok.above,ok.inj,ok.has,ok.cab,ok.hd,ok.frames,ok.stk,ok.exf,ok.bs,ok.bsz,ok.noex,ok.exfs,ok.funs,ok.frf⟩
theorem Cx.Ok.unwish {X : Cx} {E : Value → Shared → Prop} (ok : (X.wish E).Ok) : X.Ok :=
 ⟨ok.mod,ok.kind,ok.glob,ok.blt,ok.above,ok.inj,ok.has,ok.cab,ok.hd,ok.frames,ok.stk,ok.exf,ok.bs,ok.bsz,ok.noex,ok.exfs,ok.funs,ok.frf⟩
section
variable {X : Cx} {pins : List (Addr × Obj)} {σ : St} {H : Hp} {s : Shared} {E : Value → Shared → Prop}
theorem Inv.wish (I : Inv X pins σ H s) (E : Value → Shared → Prop) : Inv (X.wish E) pins σ H s := ⟨I.ok.wish E,I.os,I.bare,I.base,I.loc,I.cell,I.free,I.freeC,I.pin,I.hok,I.len⟩
theorem Inv.unwish (I : Inv (X.wish E) pins σ H s) : Inv X pins σ H s := ⟨I.ok.unwish,I.os,I.bare,I.base,I.loc,I.cell,I.free,I.freeC,I.pin,I.hok,I.len⟩
theorem SP.unwish {D : Ends} {f : Flow} {s' : Shared} (h : SP (X.wish E) pins D f s') : SP X pins D f s' := by
 cases f with
 | next => obtain ⟨σ',H',I,q⟩ := h;exact ⟨σ',H',I.unwish,q⟩
 | brk => obtain ⟨σ',H',I,q⟩ := h;exact ⟨σ',H',I.unwish,q⟩
 | cont => obtain ⟨σ',H',I,q⟩ := h;exact ⟨σ',H',I.unwish,q⟩
 | ret u => obtain ⟨v,σ',H',I,r,q⟩ := h;exact ⟨v,σ',H',I.unwish,r,q⟩
theorem PSs.nox {st : List Stmt} {t : TS} (h : PSs X.nox st t) : PSs X st t := fun pins s σ H D I hw =>
 wpAny_mono (h pins s σ H D (I.wish _) hw) (fun _ _ q => q.unwish) fun _ _ z => False.elim z
end
section
variable {X : Cx} {st : Stmt} {rest : List Stmt} {t u : TS} {e : Expr} {te : TE} {pos : Pos}
def tNext : TS := fun D σ H => D.nx σ H
def tSeq (t u : TS) : TS := fun D σ H => t { D with nx := u D } σ H
theorem pss_nil : PSs X [] tNext := fun _ _ σ H _ I h => wpAny_execs_nil ⟨σ,H,I,h⟩
theorem pss_cons (h1 : PS X st t) (h2 : PSs X rest u) : PSs X (st :: rest) (tSeq t u) := by
 intro pins s σ H D I h
 refine wpAny_execs_cons (thn (h1 pins s σ H { D with nx := u D } I h) fun f s1 q => ?_)
 cases f with
 | next =>
  obtain ⟨σ',H',I',q⟩ := q
  exact h2 pins s1 σ' H' D I' q
 | ret v => exact q
 | brk => exact q
 | cont => exact q
theorem pss_one (h1 : PS X st t) : PSs X [st] t := by
 intro pins s σ H D I h
 refine wpAny_execs_cons (thn (h1 pins s σ H D I h) fun f s1 q => ?_)
 cases f with
 | next => exact wpAny_execs_nil q
 | ret v => exact q
 | brk => exact q
 | cont => exact q
theorem Inv.quiet {pins : List (Addr × Obj)} {σ : St} {H : Hp} {s : Shared} (I : Inv X pins σ H s) : interactive X.env = false := by simp [interactive,I.ok.kind]
def tDrop (te : TE) : TS := fun D σ H => te σ H fun _ H1 => D.nx σ H1
theorem ps_expr (he : PE X e te) (hs : swapsWith e none pos.line X.env = pure false := by rfl) : PS X (.Expr e pos) (tDrop te) := by
 intro pins s σ H D I h
 exact wpAny_Expr_any (thn (he pins s σ H _ I h) fun v s1 ⟨x,H1,I1,r1,q1⟩ => ⟨σ,H1,I1,q1⟩) I.quiet hs
def tRet (te : TE) : TS := fun D σ H => te σ H D.rt
theorem ps_ret (he : PE X e te) : PS X (.Return (some e) pos) (tRet te) := by
 intro pins s σ H D I h
 exact wpAny_Return_some (thn (he pins s σ H _ I h) fun v s1 ⟨x,H1,I1,r1,q1⟩ => ⟨x,σ,H1,I1,r1,q1⟩)
def jdo : TS := fun D _ H => D.rt .non H
def tIfS (c : TT) (t u : TS) : TS := fun D σ H => c σ H fun b H1 => if b = true then t D σ H1 else u D σ H1
theorem ps_if {c : Expr} {a b : List Stmt} {tc : TT} (hc : PT X c tc) (ha : PSs X a t) (hb : PSs X b u) : PS X (.If c a b pos) (tIfS tc t u) := by
 intro pins s σ H D I h
 refine wpAny_If (thn (hc pins s σ H _ I h) fun d s1 ⟨H1,I1,q1⟩ => ?_)
 cases d with
 | true => exact ha pins s1 σ H1 D I1 q1
 | false => exact hb pins s1 σ H1 D I1 q1
def tNever : TS := fun _ _ _ => False
theorem ps_never : PS X st tNever := fun _ _ _ _ _ _ h => h.elim
theorem jfX {sts : List Stmt} : PSs X sts tNever := fun _ _ _ _ _ _ h => h.elim
end
abbrev TG := V → St → Hp → (St → Hp → Prop) → Prop
abbrev TGs := List V → St → Hp → (St → Hp → Prop) → Prop
def PG (X : Cx) (target : Expr) (t : TG) : Prop :=
 ∀ (pins : List (Addr × Obj)) (s : Shared) (σ : St) (H : Hp) (v : V) (u : Value) (Q : St → Hp → Prop),Inv X pins σ H s → RelV v u → t v σ H Q →
  wpAny (model X.prog X.w) X.A (assign target X.env u) (fun _ s' => ∃ σ' H',Inv X pins σ' H' s' ∧ Q σ' H') X.xe s
def PGs (X : Cx) (ts : List Expr) (t : TGs) : Prop :=
 ∀ (pins : List (Addr × Obj)) (s : Shared) (σ : St) (H : Hp) (vs : List V) (us : List Value) (Q : St → Hp → Prop),Inv X pins σ H s → Vals vs us → t vs σ H Q →
  wpAny (model X.prog X.w) X.A (assignInOrder ((assignEach ts X.env).map (·.2)) us) (fun _ s' => ∃ σ' H',Inv X pins σ' H' s' ∧ Q σ' H') X.xe s
abbrev TSet := V → V → V → Hp → (Hp → Prop) → Prop
def PSet (X : Cx) (t : TSet) : Prop :=
 ∀ (pins : List (Addr × Obj)) (s : Shared) (σ : St) (H : Hp) (o i v : V) (ov iv u : Value) (Q : Hp → Prop),Inv X pins σ H s → RelV o ov → RelV i iv → RelV v u → t o i v H Q →
  wpAny (model X.prog X.w) X.A (setItem ov iv u) (fun _ s' => ∃ H',Inv X pins σ H' s' ∧ Q H') X.xe s
abbrev TIp := V → V → Hp → VK → Prop
def PIp (X : Cx) (op : Operator) (t : TIp) : Prop :=
 ∀ (pins : List (Addr × Obj)) (s : Shared) (σ : St) (H : Hp) (x y : V) (v u : Value) (Q : VK),Inv X pins σ H s → RelV x v → RelV y u → t x y H Q →
  wpAny (model X.prog X.w) X.A (inplaceOp op v u) (EP X pins σ Q) X.xe s
section
variable {X : Cx} {pos : Pos}
def gName (i : Nat) : TG := fun v σ H Q => Q (σ.set i (some v)) H
theorem pg_name {i : Nat} {x : Str} (hN : X.N.Nodup) (hi : X.N[i]? = some x) (hx : Loc X.env.scope x) (hf : X.fn x = true ∨ X.env.scope.names.lookup x = some .local := by first | exact .inl rfl | exact .inr rfl | assumption) : PG X (.Name x pos) (gName i) := by
 intro pins s σ H v u Q I r h
 exact wpAny_assign_Name (jeW I hN hi hx r (fun s' I' => ⟨_,H,I',h⟩) hf)
def gNil : TGs := fun vs σ H Q => vs = [] ∧ Q σ H
def gCons (t : TG) (u : TGs) : TGs := fun vs σ H Q => ∃ v r,vs = v :: r ∧ t v σ H fun σ' H' => u r σ' H' Q
theorem pgs_nil : PGs X [] gNil := by
 intro pins s σ H vs us Q I r h
 obtain ⟨e,h⟩ := h
 subst e
 cases r
 exact assignInOrder_nil ⟨σ,H,I,h⟩
theorem pgs_cons {e : Expr} {es : List Expr} {t : TG} {u : TGs} (h1 : PG X e t) (h2 : PGs X es u)
  (hs : (assignEach (e :: es) X.env).map (·.2) = assign e X.env :: (assignEach es X.env).map (·.2) := by rfl) : PGs X (e :: es) (gCons t u) := by
 intro pins s σ H vs us Q I r h
 obtain ⟨v,vr,e1,h⟩ := h
 subst e1
 cases r with
 | cons r rr =>
  rw [hs]
  refine assignInOrder_cons (thn (h1 pins s σ H _ _ _ I r h) fun _ s1 ⟨σ1,H1,I1,q1⟩ => ?_)
  exact h2 pins s1 σ1 H1 _ _ Q I1 rr q1
def gTup (K : PySem.W.Frag) (n : Nat) (t : TGs) : TG := fun v σ H Q => ∃ a xs,v = .ref a ∧ SqT K H a xs ∧ xs.length = n ∧ t xs σ H Q
theorem pg_tup {es : List Expr} {k : Nat} {t : TGs} {n : Nat} (hc : X.calm = true) (h : PGs X es t)
  (hn : (assignEach es X.env).length = n := by rfl) (hst : (assignEach es X.env).findIdx? (·.1) = none := by rfl) : PG X (.Tuple es k pos) (gTup X.K n t) := by
 intro pins s σ H v u Q I r hw
 obtain ⟨a,xs,e1,hq,hl,hw⟩ := hw
 subst e1
 cases r
 obtain ⟨its,rv,ht,hz⟩ := I.tuple hq
 refine assign_Tuple_tuple (I.ok.hd hc) ht (by simp [hn,← hl,rv.length]) hst fun h' hx => ?_
 have I1 : Inv X pins σ H { s with heap := h' } := I.kept (t' := s.toks) fun b o e => hx b o (Nat.ne_of_lt (Heap.lt_size e)) e
 exact h pins _ σ H xs _ Q I1 (by simpa using rv) hw
def gSub (to ti : TE) (t : TSet) : TG := fun v σ H Q => to σ H fun o H1 => ti σ H1 fun i H2 => t o i v H2 fun H3 => Q σ H3
theorem pg_sub {o i : Expr} {to ti : TE} {t : TSet} (ho : PE X o to) (hi : PE X i ti) (hs : PSet X t)
  (ha : ∀ v,assign (.Subscript o i pos) X.env v = (do
   let ov ← holding [v] (eval o X.env)
   let iv ← holding [v,ov] (eval i X.env)
   standAt pos
   holding [v,ov,iv] (setItem ov iv v)
   release [v,ov,iv] []) := by intro _;rfl) : PG X (.Subscript o i pos) (gSub to ti t) := by
 intro pins s σ H v u Q I r h
 rw [ha]
 refine wpAny_bind (wpAny_holding (thn (ho pins s σ H _ I h) fun ov s1 ⟨x,H1,I1,r1,q1⟩ => ?_))
 refine wpAny_bind (wpAny_holding (thn (hi pins s1 σ H1 _ I1 q1) fun iv s2 ⟨y,H2,I2,r2,q2⟩ => ?_))
 refine wpAny_bind (wpAny_standAt (wpAny_bind (wpAny_holding (thn (hs pins s2 σ H2 x y v ov iv u _ I2 r1 r2 r q2) fun _ s3 ⟨H3,I3,q3⟩ => ?_))))
 exact wpAny_release ⟨σ,H3,I3,q3⟩
def tAsg (te : TE) (g : TG) : TS := fun D σ H => te σ H fun x H1 => g x σ H1 D.nx
theorem ps_asg {tg e : Expr} {te : TE} {g : TG} (he : PE X e te) (hg : PG X tg g) (hs : swapsWithSole [tg] e pos.line X.env = pure false := by rfl) (hw : swappedStores [tg] e X.env = pure none := by rfl)
  (h1 : (assignEach [tg] X.env).map (·.2) = [assign tg X.env] := by rfl) : PS X (.Assign [tg] e pos) (tAsg te g) := by
 intro pins s σ H D I h
 refine wpAny_Assign_stores (thn (he pins s σ H _ I h) fun v s1 ⟨x,H1,I1,r1,q1⟩ => ?_) hs hw
 rw [h1]
 exact thn (hg pins s1 σ H1 x v _ I1 r1 q1) fun _ s2 q => q
theorem ps_set {i : Nat} {x : Str} {e : Expr} {te : TE} {pos' : Pos} (hN : X.N.Nodup) (hi : X.N[i]? = some x) (hx : Loc X.env.scope x) (he : PE X e te) (hs : swapsWith e (some (.Name x pos')) pos.line X.env = pure false := by rfl) (hf : X.fn x = true ∨ X.env.scope.names.lookup x = some .local := by first | exact .inl rfl | exact .inr rfl | assumption) :
  PS X (.Assign [.Name x pos'] e pos) (tAsg te (gName i)) := by
 intro pins s σ H D I h
 refine wpAny_Assign_Name (thn (he pins s σ H _ I h) fun v s1 ⟨y,H1,I1,r1,q1⟩ => ?_) hs
 exact jeW I1 hN hi hx r1 (fun s2 I2 => ⟨_,H1,I2,q1⟩) hf
def tPar (i j : Nat) (ta : TA) : TS := fun D σ H => ta σ H fun vs H1 => ∃ v w,vs = [v,w] ∧ D.nx ((σ.set i (some v)).set j (some w)) H1
def tAug (i : Nat) (te : TE) (ti : TIp) : TS := fun D σ H => ∃ x,σ[i]? = some (some x) ∧ te σ H fun y H1 => ti x y H1 fun z H2 => D.nx (σ.set i (some z)) H2
theorem ps_aug {i : Nat} {x : Str} {e : Expr} {te : TE} {op : Operator} {ti : TIp} {pos' : Pos} (hN : X.N.Nodup) (hi : X.N[i]? = some x) (hx : Loc X.env.scope x) (he : PE X e te) (ho : PIp X op ti) (hf : X.fn x = true ∨ X.env.scope.names.lookup x = some .local := by first | exact .inl rfl | exact .inr rfl | assumption) :
  PS X (.AugAssign (.Name x pos') op e pos) (tAug i te ti) := by
 intro pins s σ H D I h
 obtain ⟨v,e1,h⟩ := h
 obtain ⟨m,hn,hl⟩ := I.loc
 have vis : Vis X.env.scope x := by rcases hx with k | k;exact .inl k;exact .inr (.inl k)
 obtain ⟨u,r,l⟩ := hl i x v hi e1 vis
 refine wpAny_AugAssign_Name ?_
 have go : wpAny (model X.prog X.w) X.A (eval e X.env) (fun w s₂ => wpAny (model X.prog X.w) X.A (inplaceOp op u w) (fun r s₃ => wpAny (model X.prog X.w) X.A (storeName X.env x r) (fun _ => SP X pins D .next) X.xe s₃) X.xe s₂) X.xe s := by
  refine thn (he pins s σ H _ I h) fun w s1 ⟨y,H1,I1,r1,q1⟩ => ?_
  refine thn (ho pins s1 σ H1 v y u w _ I1 r r1 q1) fun z s2 ⟨zv,H2,I2,r2,q2⟩ => ?_
  exact jeW I2 hN hi hx r2 (fun s3 I3 => ⟨_,H2,I3,q2⟩) hf
 rcases l with ⟨hk,hm⟩ | ⟨hk,c,hc,hcell⟩
 ·exact wpAny_loadName_local I.ok.kind hk hn hm go
 ·rcases hk with hk | hk
  ·exact wpAny_loadName_cell I.ok.kind hk hc hcell go
  ·rcases hx with k | k
   ·have : X.env.scope.names.lookup x = some .free := hk
    rw [k] at this;cases this
   ·have : X.env.scope.names.lookup x = some .free := hk
    rw [k] at this;cases this
def ipI (f : Int → Int → Int) : TIp := fun x y H Q => ∃ i j,x = .int i ∧ y = .int j ∧ Q (.int (f i j)) H
end
section
variable {X : Cx} {pos : Pos}
end
structure It where
 go : Nat → Hp → Prop
 yld : Nat → Hp → V → Hp → Prop
 stop : Nat → Hp → Prop
def FpOk (X : Cx) (pins : List (Addr × Obj)) (H : Hp) (b : Addr) : Prop :=
 H b = none ∧ b ≠ X.env.locals ∧ b ∉ X.fs ∧ (b ∈ X.ex ∨ X.s_0.heap.objs.size ≤ b) ∧ (∀ x c,X.env.cells.lookup x = some c → c ≠ b) ∧ ∀ p ∈ X.pn ++ pins,p.1 ≠ b
theorem Inv.fpOk {X : Cx} {pins : List (Addr × Obj)} {σ : St} {H H' : Hp} {s : Shared} {b : Addr} (I : Inv X pins σ H s) (hb : s.heap.objs.size ≤ b) (hn : H' b = none) : FpOk X pins H' b := by
 refine ⟨hn,Nat.ne_of_gt (Nat.lt_of_lt_of_le I.lt hb),I.nofs hb,.inr (Nat.le_trans I.sz hb),fun x c e z => ?_,fun p hp z => ?_⟩
 ·obtain ⟨v,q⟩ := I.cell x c e
  exact absurd (Nat.lt_of_lt_of_le q.lt (by rw [z];exact hb)) (Nat.lt_irrefl _)
 ·exact absurd (Nat.lt_of_lt_of_le (Heap.lt_size (I.pin p hp).1) (by rw [z];exact hb)) (Nat.lt_irrefl _)
structure Turn (P : Program) (w : World) (K : PySem.W.Frag) (tg : Expr) (J : It) (fp : List Addr) (it : Addr) (tn : Nat → Heap → Prop) : Prop where
 mem : it ∈ fp
 obj : ∀ i h,tn i h → ∀ b ∈ fp,∃ o,h.get? b = some o ∧ ∀ v,o.data ≠ .cell v
 keep : ∀ i h h',tn i h → (∀ b ∈ fp,∀ o,h.get? b = some o → h'.get? b = some o) → tn i h'
 item : ∀ (X : Cx),X.prog = P → X.w = w → X.K = K → X.calm = true → ∀ (i : Nat) (pins : List (Addr × Obj)) (s : Shared) (σ : St) (H : Hp) (E : Value → Shared → Prop),Inv X pins σ H s → (∀ b ∈ fp,FpOk X pins H b) → tn i s.heap → J.go i H →
  wpAny (model P w) X.A (pyNext (.ref it)) (fun r s1 => ∃ u,r = some u ∧
   wpAny (model P w) X.A (letOwnedTupleGo tg (.ref it) u) (fun _ s2 => ∃ x H',Inv X pins σ H' s2 ∧ RelV x u ∧ J.yld i H x H' ∧ tn (i + 1) s2.heap ∧ ∀ b ∈ fp,H' b = none) E s1) E s
 done : ∀ (X : Cx),X.prog = P → X.w = w → X.K = K → X.calm = true → ∀ (i : Nat) (pins : List (Addr × Obj)) (s : Shared) (σ : St) (H : Hp) (E : Value → Shared → Prop),Inv X pins σ H s → (∀ b ∈ fp,FpOk X pins H b) → tn i s.heap → J.stop i H →
  wpAny (model P w) X.A (pyNext (.ref it)) (fun r s1 => r = none ∧ Inv X pins σ H s1) E s
 self : ∀ (A : Around) (i : Nat) (s : Shared) (Q : Value → Shared → Prop) (E : Value → Shared → Prop),tn i s.heap → Q (.ref it) s → wpAny (model P w) A (pyIter (.ref it)) Q E s
abbrev TI := St → Hp → (It → Hp → Prop) → Prop
def PIE (X : Cx) (pins : List (Addr × Obj)) (σ : St) (tg : Expr) (R : It → Hp → Prop) (itv : Value) (s2 : Shared) : Prop :=
 ∃ (it : Addr) (fp : List Addr) (tn : Nat → Heap → Prop) (J : It) (H' : Hp),itv = .ref it ∧ Inv X pins σ H' s2 ∧ Turn X.prog X.w X.K tg J fp it tn ∧ tn 0 s2.heap ∧ (∀ b ∈ fp,FpOk X pins H' b) ∧ R J H'
def PI (X : Cx) (tg iter : Expr) (wi : TI) : Prop :=
 ∀ (pins : List (Addr × Obj)) (s : Shared) (σ : St) (H : Hp) (R : It → Hp → Prop),Inv X pins σ H s → wi σ H R →
  wpAny (model X.prog X.w) X.A (eval iter X.env) (fun v s1 => wpAny (model X.prog X.w) X.A (pyIter v) (PIE X pins σ tg R) X.xe s1) X.xe s
theorem jkj {M : Model} {A : Around} {E : Value → Shared → Prop} {s : Shared} {tg : Expr} {it : Addr} {u : Value} {o : Obj} {n : String} {vs : Array Value} {Q : Unit → Shared → Prop} (ho : s.heap.get? it = some o) (hc : o.cls = .type n) (hd : o.data = .fields vs)
    (hn : ["enumerate", "zip", "dict_itemiterator", "dict_reverseitemiterator", "odict_iterator", "itertools.zip_longest", "itertools.pairwise"].contains n = false) (hQ : Q () s) : wpAny M A (letOwnedTupleGo tg (.ref it) u) Q E s := by
  unfold letOwnedTupleGo
  cases tg <;> first
    | exact wpAny_pure hQ
    | (cases u <;> first
        | exact wpAny_pure hQ
        | (refine wpAny_bind (wpAny_load ho ?_)
           rw [hc, hd]
           show wpAny M A (if (["enumerate", "zip", "dict_itemiterator", "dict_reverseitemiterator", "odict_iterator", "itertools.zip_longest", "itertools.pairwise"].contains n && vs[0]? == some (rawInt _)) = true then _ else _) Q E s
           rw [if_neg (by intro h; rw [hn, Bool.false_and] at h; cases h)]
           exact wpAny_pure hQ))
def Itl (K : PySem.W.Frag) (a : Addr) : It :=
 ⟨fun i H => ∃ xs x,SqL K H a xs ∧ xs[i]? = some x,fun i H x H' => H' = H ∧ ∀ xs,SqL K H a xs → xs[i]? = some x,fun i H => ∃ xs,SqL K H a xs ∧ xs.length ≤ i⟩
def Itt (K : PySem.W.Frag) (a : Addr) : It :=
 ⟨fun i H => ∃ xs x,SqT K H a xs ∧ xs[i]? = some x,fun i H x H' => H' = H ∧ ∀ xs,SqT K H a xs → xs[i]? = some x,fun i H => ∃ xs,SqT K H a xs ∧ xs.length ≤ i⟩
def Itr (lo : Int) (n : Nat) : It := ⟨fun i _ => i < n,fun i H x H' => H' = H ∧ x = .int (lo + i),fun i _ => n ≤ i⟩
theorem jiF {P : Program} {w : World} {K : PySem.W.Frag} {tg : Expr} (a it : Addr) : Turn P w K tg (Itl K a) [it] it (fun i h => h.IsListIter it a i) where
 mem := by simp
 obj := fun i h st b hb => by
  have e : b = it := by simpa using hb
  subst e
  obtain ⟨o,e,c,d⟩ := st
  exact ⟨o,e,fun v z => by rw [d] at z;cases z⟩
 keep := fun i h h' st k => st.at fun o e => k it (by simp) o e
 item := by
  intro X hP hw hK hc i pins s σ H E I hf st hg
  subst hP hw hK
  obtain ⟨xs,x,hq,hx⟩ := hg
  obtain ⟨its,rv,p,hz⟩ := I.list hq
  obtain ⟨u,hu,ru⟩ := rv.get hx
  obtain ⟨f0,f1,f2,f3,f4,f5⟩ := hf it (by simp)
  refine wpAny_pyNext_list_item st p.isList (x := u) (by simpa using hu) fun h' st' sb => ?_
  have I1 : Inv X pins σ H { s with heap := h' } := I.turned (t' := s.toks) (fun b o hb e => (sb.2 b hb).trans e) f0 f1 f3 f4 f5
  obtain ⟨o,e,c,d⟩ := id st'
  exact ⟨u,rfl,jkj (s := { s with heap := h' }) e c d (by decide) ⟨x,H,I1,ru,⟨rfl,fun ys hy => by rw [I.list_inj hy hq];exact hx⟩,st',fun b hb => (hf b hb).1⟩⟩
 done := by
  intro X hP hw hK hc i pins s σ H E I hf st hg
  subst hP hw hK
  obtain ⟨xs,hq,hx⟩ := hg
  obtain ⟨its,rv,p,hz⟩ := I.list hq
  obtain ⟨f0,f1,f2,f3,f4,f5⟩ := hf it (by simp)
  have hl := rv.length
  exact wpAny_pyNext_list_end (I.ok.hd hc) st p.isList (by simp;omega) fun h' eb => ⟨rfl,I.turned (t' := s.toks) (fun b o hb e => eb b o hb e) f0 f1 f3 f4 f5⟩
 self := fun _ _ _ _ _ st h => wpAny_pyIter_listiter st h
theorem jh8 {P : Program} {w : World} {K : PySem.W.Frag} {tg : Expr} (a it : Addr) : Turn P w K tg (Itt K a) [it] it (fun i h => h.IsTupleIter it a i) where
 mem := by simp
 obj := fun i h st b hb => by
  have e : b = it := by simpa using hb
  subst e
  obtain ⟨o,e,c,d⟩ := st
  exact ⟨o,e,fun v z => by rw [d] at z;cases z⟩
 keep := fun i h h' st k => st.at fun o e => k it (by simp) o e
 item := by
  intro X hP hw hK hc i pins s σ H E I hf st hg
  subst hP hw hK
  obtain ⟨xs,x,hq,hx⟩ := hg
  obtain ⟨its,rv,p,hz⟩ := I.tuple hq
  obtain ⟨u,hu,ru⟩ := rv.get hx
  obtain ⟨f0,f1,f2,f3,f4,f5⟩ := hf it (by simp)
  refine wpAny_pyNext_tuple_item st (show s.heap.IsTuple a its.toArray from p) (x := u) (by simpa using hu) fun h' st' sb => ?_
  have I1 : Inv X pins σ H { s with heap := h' } := I.turned (t' := s.toks) (fun b o hb e => (sb.2 b hb).trans e) f0 f1 f3 f4 f5
  obtain ⟨o,e,c,d⟩ := id st'
  exact ⟨u,rfl,jkj (s := { s with heap := h' }) e c d (by decide) ⟨x,H,I1,ru,⟨rfl,fun ys hy => by rw [I.tuple_inj hy hq];exact hx⟩,st',fun b hb => (hf b hb).1⟩⟩
 done := by
  intro X hP hw hK hc i pins s σ H E I hf st hg
  subst hP hw hK
  obtain ⟨xs,hq,hx⟩ := hg
  obtain ⟨its,rv,p,hz⟩ := I.tuple hq
  obtain ⟨f0,f1,f2,f3,f4,f5⟩ := hf it (by simp)
  have hl := rv.length
  exact wpAny_pyNext_tuple_end (I.ok.hd hc) st (show s.heap.IsTuple a its.toArray from p) (by simp;omega) fun h' eb => ⟨rfl,I.turned (t' := s.toks) (fun b o hb e => eb b o hb e) f0 f1 f3 f4 f5⟩
 self := fun _ _ _ _ _ st h => wpAny_pyIter_tupleiter st h
theorem jh9 {P : Program} {w : World} {K : PySem.W.Frag} {tg : Expr} (it : Addr) (lo : Int) (n : Nat) : Turn P w K tg (Itr lo n) [it] it (fun i h => IsRangeIter h it (lo + (i : Nat) * 1) ((n : Int) - (i : Nat)) 1) where
 mem := by simp
 obj := fun i h st b hb => by
  have e : b = it := by simpa using hb
  subst e
  exact ⟨_,st,fun v z => by
   have z' : Data.fields _ = Data.cell v := z
   cases z'⟩
 keep := fun i h h' st k => k it (by simp) _ st
 item := by
  intro X hP hw hK hc i pins s σ H E I hf st hg
  subst hP hw hK
  obtain ⟨f0,f1,f2,f3,f4,f5⟩ := hf it (by simp)
  have W := Walks.range (prog := X.prog) (w := X.w) (I.ok.hd hc) it lo 1 n
  refine W.item i s _ _ hg st fun v h' tk hv st' kk => ?_
  obtain ⟨t,rfl⟩ := hv
  have I1 : Inv X pins σ H { s with heap := h',toks := tk } := I.turned (fun b o hb e => kk b o (by simpa using hb) e) f0 f1 f3 f4 f5
  refine ⟨_,rfl,jkj (s := { s with heap := h',toks := tk }) (n := "range_iterator") st' rfl rfl (by decide) ⟨.int (lo + i),H,I1,⟨t,?_⟩,⟨rfl,rfl⟩,st',fun b hb => (hf b hb).1⟩⟩
  rw [Int.mul_one]
 done := by
  intro X hP hw hK hc i pins s σ H E I hf st hg
  subst hP hw hK
  obtain ⟨f0,f1,f2,f3,f4,f5⟩ := hf it (by simp)
  exact wpAny_pyNext_range_end (I.ok.hd hc) st (by have : n ≤ i := hg;omega) fun h' eb => ⟨rfl,I.turned (t' := s.toks) (fun b o hb e => eb b o hb e) f0 f1 f3 f4 f5⟩
 self := fun _ _ _ _ _ st h => wpAny_pyIter_rangeiter st h
end L2
namespace L2
open PySem PySem.Spec PyProof.Rows
section
variable {X : Cx} {tg : Expr}
def iList (K : PySem.W.Frag) (tl : TE) : TI := fun σ H R => tl σ H fun x H1 => ∃ a,x = .ref a ∧ (∃ xs,SqL K H1 a xs) ∧ R (Itl K a) H1
def iTup (K : PySem.W.Frag) (tl : TE) : TI := fun σ H R => tl σ H fun x H1 => ∃ a,x = .ref a ∧ (∃ xs,SqT K H1 a xs) ∧ R (Itt K a) H1
theorem pi_list {l : Expr} {tl : TE} (hl : PE X l tl) : PI X tg l (iList X.K tl) := by
 intro pins s σ H R I h
 refine thn (hl pins s σ H _ I h) fun v s1 ⟨x,H1,I1,r1,q1⟩ => ?_
 obtain ⟨a,e,⟨xs,hq⟩,q⟩ := q1
 subst e
 cases r1
 obtain ⟨its,rv,p,hz⟩ := I1.list hq
 refine wpAny_pyIter_list p.isList ?_
 refine ⟨s1.heap.objs.size,[s1.heap.objs.size],_,_,H1,rfl,I1.kept (t' := s1.toks) fun b o e => Heap.get?_push_of_some _ e,jiF a _,⟨_,Heap.get?_push_size _ rfl,rfl,rfl⟩,fun b hb => ?_,q⟩
 have e : b = s1.heap.objs.size := by simpa using hb
 subst e
 exact I1.fpOk (Nat.le_refl _) (I1.hok.fresh (Nat.le_refl _))
theorem pi_tup {l : Expr} {tl : TE} (hl : PE X l tl) : PI X tg l (iTup X.K tl) := by
 intro pins s σ H R I h
 refine thn (hl pins s σ H _ I h) fun v s1 ⟨x,H1,I1,r1,q1⟩ => ?_
 obtain ⟨a,e,⟨xs,hq⟩,q⟩ := q1
 subst e
 cases r1
 obtain ⟨its,rv,p,hz⟩ := I1.tuple hq
 refine wpAny_pyIter_tuple (show s1.heap.IsTuple a its.toArray from p) ?_
 refine ⟨s1.heap.objs.size,[s1.heap.objs.size],_,_,H1,rfl,I1.kept (t' := s1.toks) fun b o e => Heap.get?_push_of_some _ e,jh8 a _,⟨_,Heap.get?_push_size _ rfl,rfl,rfl⟩,fun b hb => ?_,q⟩
 have e : b = s1.heap.objs.size := by simpa using hb
 subst e
 exact I1.fpOk (Nat.le_refl _) (I1.hok.fresh (Nat.le_refl _))
theorem jjX {pins : List (Addr × Obj)} {σ : St} {H : Hp} {s : Shared} {R : It → Hp → Prop} {E : Value → Shared → Prop} {lo hi : Int} {t u v : Tok} {tk : Nat} (I : Inv X pins σ H s) (h1 : -(2 ^ 62) ≤ lo) (h2 : lo < 2 ^ 62) (h3 : -(2 ^ 62) ≤ hi) (h4 : hi < 2 ^ 62)
  (q : R (Itr lo (hi - lo).toNat) H) : wpAny (model X.prog X.w) X.A (pyIter (.ref s.heap.objs.size)) (PIE X pins σ tg R) E { s with heap := s.heap.push { cls := .type "range",data := .fields #[.int lo t,.int hi u,.int 1 v] },toks := tk } := by
 refine wpAny_pyIter_range (IsRange.new ..) (small_one h1 h2 h3 h4) ?_
 have I1 : Inv X pins σ H { s with heap := s.heap.push { cls := .type "range",data := .fields #[.int lo t,.int hi u,.int 1 v] },toks := tk } := I.kept fun b o e => Heap.get?_push_of_some _ e
 refine ⟨(s.heap.push { cls := .type "range",data := .fields #[.int lo t,.int hi u,.int 1 v] }).objs.size,[(s.heap.push { cls := .type "range",data := .fields #[.int lo t,.int hi u,.int 1 v] }).objs.size],_,_,H,rfl,
  I1.kept (t' := tk) fun b o e => Heap.get?_push_of_some _ e,jh9 _ lo (hi - lo).toNat,?_,fun b hb => ?_,q⟩
 ·have e1 : lo + ((0 : Nat) : Int) * 1 = lo := by simp
  have e2 : (((hi - lo).toNat : Nat) : Int) - ((0 : Nat) : Int) = Builtin.Range.rangeSize lo hi 1 := by rw [rangeSize_one];split <;> omega
  show IsRangeIter _ _ (lo + ((0 : Nat) : Int) * 1) ((((hi - lo).toNat : Nat) : Int) - ((0 : Nat) : Int)) 1
  rw [e1,e2]
  exact Heap.get?_push_size _ rfl
 ·have e : b = (s.heap.push { cls := .type "range",data := .fields #[.int lo t,.int hi u,.int 1 v] }).objs.size := by simpa using hb
  subst e
  exact I1.fpOk (Nat.le_refl _) (I1.hok.fresh (Nat.le_refl _))
def iRng1 (ta : TA) : TI := fun σ H R => ta σ H fun vs H1 => ∃ j : Int,vs = [.int j] ∧ -(2 ^ 62) ≤ j ∧ j < 2 ^ 62 ∧ R (Itr 0 j.toNat) H1
def jeo (ta : TA) : TI := fun σ H R => ta σ H fun vs H1 => ∃ i j : Int,vs = [.int i,.int j] ∧ (-(2 ^ 62) ≤ i ∧ i < 2 ^ 62 ∧ -(2 ^ 62) ≤ j ∧ j < 2 ^ 62) ∧ R (Itr i (j - i).toNat) H1
theorem jiX {a : Expr} {ta : TA} {p pos : Pos} (hg : Gl X "range") (hm : X.mg "range" = none) (ha : PA X [a] ta) (hs : starEach [a] X.env = [(false,eval a X.env)] := by rfl) : PI X tg (.Call (.Name "range" p) [a] [] pos) (iRng1 ta) := by
 intro pins s σ H R I h
 refine Call_ (jcM I hg hm boot_range (PyProof.Rows.callWith_type1 (thn (ha pos pins s σ H _ I h) fun us s1 ⟨vs,H1,I1,r1,q1⟩ => ?_) hs rfl))
 obtain ⟨j,e,q1,q2,q⟩ := q1
 subst e
 cases r1 with
 | cons r rr =>
  cases rr
  obtain ⟨t,rfl⟩ := r
  exact call_range_1 (jjX I1 (by omega) (by omega) q1 q2 (by simpa using q))
def tFor (wi : TI) (g : TG) (tb : TS) : TS := fun D σ H => wi σ H fun J H1 => ∃ W : Nat → Nat → St → Hp → Prop,(∃ m,W 0 m σ H1) ∧ ∀ i m σ H,W i m σ H →
 (J.stop i H ∧ D.nx σ H) ∨ (J.go i H ∧ ∃ N : St → Hp → Prop,(∀ σ' H',N σ' H' → ∃ m',m' < m ∧ W (i + 1) m' σ' H') ∧ ∀ x H',J.yld i H x H' → g x σ H' fun σ2 H2 => tb { D with nx := N,ct := N,bk := D.nx } σ2 H2)
def jfY (fp : List Addr) (h : Heap) : List (Addr × Obj) := fp.filterMap fun b => (h.get? b).map fun o => (b,o)
theorem jci {fp : List Addr} {h : Heap} {b : Addr} {o : Obj} (hb : b ∈ fp) (e : h.get? b = some o) : (b,o) ∈ jfY fp h := List.mem_filterMap.mpr ⟨b,hb,by rw [e];rfl⟩
theorem ji1 {fp : List Addr} {h : Heap} {p : Addr × Obj} (hp : p ∈ jfY fp h) : p.1 ∈ fp ∧ h.get? p.1 = some p.2 := by
 obtain ⟨b,hb,e⟩ := List.mem_filterMap.mp hp
 cases q : h.get? b with
 | none => rw [q] at e;cases e
 | some o =>
  rw [q] at e
  have e' : (b,o) = p := Option.some.inj e
  subst e'
  exact ⟨hb,q⟩
theorem Inv.pinned {pins : List (Addr × Obj)} {σ : St} {H : Hp} {s : Shared} {fp : List Addr} (I : Inv X pins σ H s) (hf : ∀ b ∈ fp,FpOk X pins H b) (ho : ∀ b ∈ fp,∃ o,s.heap.get? b = some o ∧ ∀ v,o.data ≠ .cell v) : Inv X (pins ++ jfY fp s.heap) σ H s :=
 I.pins_of fun p hp => (List.mem_append.mp hp).elim (fun z => I.pin p (List.mem_append_right _ z)) fun z => by
  obtain ⟨hb,e⟩ := ji1 z
  obtain ⟨f0,f1,f2,_⟩ := hf p.1 hb
  obtain ⟨o,e',d⟩ := ho p.1 hb
  rw [e] at e';cases e'
  exact ⟨e,f0,f1,f2,d⟩
theorem Inv.unpinned {pins pl : List (Addr × Obj)} {σ : St} {H : Hp} {s : Shared} (I : Inv X (pins ++ pl) σ H s) : Inv X pins σ H s := I.pins_of fun p hp => I.pin p (List.mem_append_right _ (List.mem_append_left _ hp))
theorem ps_for {iter : Expr} {body : List Stmt} {wi : TI} {g : TG} {tb : TS} {pos : Pos} (hp : PassesOwn (model X.prog X.w) X.A X.env X.xe) (hc : X.calm = true) (hi : PI X tg iter wi) (hg : PG X tg g) (hb : PSs X body tb)
  (hs : ∀ x,foldedSetIterable iter X.env x = pure x := by intro _;rfl) : PS X (.For tg iter body [] pos) (tFor wi g tb) := by
 intro pins s σ H D I h
 refine wpAny_For (thn (hi pins s σ H _ I h) fun v s1 h1 => thn h1 fun itv s2 h2 => ?_) hs
 obtain ⟨it,fp,tn,J,H2,e,I2,T,st2,f2,W,⟨m0,w0⟩,turn⟩ := h2
 subst e
 have stat : ∀ {H' : Hp},(∀ b ∈ fp,H' b = none) → ∀ b ∈ fp,FpOk X pins H' b := fun hn b hb => ⟨hn b hb,(f2 b hb).2⟩
 refine codeAny_forLoop_any (fun n s' => ∃ i σ' H',Inv X pins σ' H' s' ∧ tn i s'.heap ∧ (∀ b ∈ fp,H' b = none) ∧ W i n σ' H') ?_ m0 ⟨0,σ,H2,I2,st2,fun b hb => (f2 b hb).1,w0⟩
 rintro n s3 ⟨i,σ3,H3,I3,st3,fr3,w3⟩
 rcases turn i n σ3 H3 w3 with ⟨stop,qn⟩ | ⟨go,N,hN,step⟩
 ·refine wpAny_passesOwn hp (thn (T.done X rfl rfl rfl hc i pins s3 σ3 H3 X.xe I3 (stat fr3) st3 stop) fun r s4 ⟨hr,I4⟩ => ?_)
  subst hr
  exact wpAny_execs_nil ⟨σ3,H3,I4,qn⟩
 ·refine wpAny_passesOwn hp (thn (T.item X rfl rfl rfl hc i pins s3 σ3 H3 X.xe I3 (stat fr3) st3 go) fun r s4 ⟨u,hr,h4⟩ => ?_)
  subst hr
  refine wpAny_passesOwn hp (thn h4 fun _ s5 ⟨x,H5,I5,r5,y5,st5,fr5⟩ => ?_)
  have I5' := I5.pinned (stat fr5) (T.obj _ _ st5)
  refine wpAny_passesOwn hp (thn (hg _ s5 σ3 H5 x u _ I5' r5 (step x H5 y5)) fun _ s6 ⟨σ6,H6,I6,q6⟩ => ?_)
  refine wpAny_passesOwn hp (thn (hb _ s6 σ6 H6 _ I6 q6) fun f s7 q7 => ?_)
  have again : ∀ {σ7 : St} {H7 : Hp},Inv X (pins ++ jfY fp s5.heap) σ7 H7 s7 → N σ7 H7 → ∃ m,m < n ∧ ∃ i σ' H',Inv X pins σ' H' s7 ∧ tn i s7.heap ∧ (∀ b ∈ fp,H' b = none) ∧ W i m σ' H' := fun {σ7 H7} I7 n7 => by
   obtain ⟨m',hm,w7⟩ := hN σ7 H7 n7
   refine ⟨m',hm,i + 1,σ7,H7,I7.unpinned,T.keep _ _ _ st5 fun b hb o e => (I7.pin (b,o) (List.mem_append_right _ (List.mem_append_right _ (jci hb e)))).1,fun b hb => ?_,w7⟩
   obtain ⟨o,e,d⟩ := T.obj _ _ st5 b hb
   exact (I7.pin (b,o) (List.mem_append_right _ (List.mem_append_right _ (jci hb e)))).2.1
  cases f with
  | next => obtain ⟨σ7,H7,I7,n7⟩ := q7;exact again I7 n7
  | cont => obtain ⟨σ7,H7,I7,n7⟩ := q7;exact again I7 n7
  | brk => obtain ⟨σ7,H7,I7,q7⟩ := q7;exact ⟨σ7,H7,I7.unpinned,q7⟩
  | ret v => obtain ⟨x7,σ7,H7,I7,r7,q7⟩ := q7;exact ⟨x7,σ7,H7,I7.unpinned,r7,q7⟩
end
theorem jkl {K : PySem.W.Frag} {a : Addr} {xs : List V} {g : TG} {tb : TS} {D : Ends} {σ : St} {H : Hp} (Pv : Nat → St → Hp → Prop) (h0 : Pv 0 σ H) (hl : ∀ i σ H,i ≤ xs.length → Pv i σ H → SqL K H a xs)
  (hs : ∀ i x σ H,xs[i]? = some x → Pv i σ H → g x σ H fun σ2 H2 => tb { D with nx := Pv (i + 1),ct := Pv (i + 1),bk := D.nx } σ2 H2) (hd : ∀ σ H,Pv xs.length σ H → D.nx σ H) :
  ∃ W : Nat → Nat → St → Hp → Prop,(∃ m,W 0 m σ H) ∧ ∀ i m σ H,W i m σ H →
   ((Itl K a).stop i H ∧ D.nx σ H) ∨ ((Itl K a).go i H ∧ ∃ N : St → Hp → Prop,(∀ σ' H',N σ' H' → ∃ m',m' < m ∧ W (i + 1) m' σ' H') ∧ ∀ x H',(Itl K a).yld i H x H' → g x σ H' fun σ2 H2 => tb { D with nx := N,ct := N,bk := D.nx } σ2 H2) := by
 refine ⟨fun i m σ H => m = xs.length - i ∧ i ≤ xs.length ∧ Pv i σ H,⟨xs.length,by simp,Nat.zero_le _,h0⟩,?_⟩
 rintro i m σ H ⟨rfl,hi,p⟩
 have q := hl i σ H hi p
 by_cases hlt : i < xs.length
 ·refine .inr ⟨⟨xs,xs[i],q,by simp [hlt]⟩,Pv (i + 1),fun σ' H' p' => ⟨xs.length - (i + 1),by omega,rfl,hlt,p'⟩,fun x H' y => ?_⟩
  obtain ⟨e,y⟩ := y
  subst e
  exact hs i x σ _ (y xs q) p
 ·have e : i = xs.length := by omega
  subst e
  exact .inl ⟨⟨xs,q,Nat.le_refl _⟩,hd σ H p⟩
theorem jfu {K : PySem.W.Frag} {a : Addr} {xs : List V} {g : TG} {tb : TS} {D : Ends} {σ : St} {H : Hp} (Pv : Nat → St → Hp → Prop) (h0 : Pv 0 σ H) (hl : ∀ i σ H,i ≤ xs.length → Pv i σ H → SqT K H a xs)
  (hs : ∀ i x σ H,xs[i]? = some x → Pv i σ H → g x σ H fun σ2 H2 => tb { D with nx := Pv (i + 1),ct := Pv (i + 1),bk := D.nx } σ2 H2) (hd : ∀ σ H,Pv xs.length σ H → D.nx σ H) :
  ∃ W : Nat → Nat → St → Hp → Prop,(∃ m,W 0 m σ H) ∧ ∀ i m σ H,W i m σ H →
   ((Itt K a).stop i H ∧ D.nx σ H) ∨ ((Itt K a).go i H ∧ ∃ N : St → Hp → Prop,(∀ σ' H',N σ' H' → ∃ m',m' < m ∧ W (i + 1) m' σ' H') ∧ ∀ x H',(Itt K a).yld i H x H' → g x σ H' fun σ2 H2 => tb { D with nx := N,ct := N,bk := D.nx } σ2 H2) := by
 refine ⟨fun i m σ H => m = xs.length - i ∧ i ≤ xs.length ∧ Pv i σ H,⟨xs.length,by simp,Nat.zero_le _,h0⟩,?_⟩
 rintro i m σ H ⟨rfl,hi,p⟩
 have q := hl i σ H hi p
 by_cases hlt : i < xs.length
 ·refine .inr ⟨⟨xs,xs[i],q,by simp [hlt]⟩,Pv (i + 1),fun σ' H' p' => ⟨xs.length - (i + 1),by omega,rfl,hlt,p'⟩,fun x H' y => ?_⟩
  obtain ⟨e,y⟩ := y
  subst e
  exact hs i x σ _ (y xs q) p
 ·have e : i = xs.length := by omega
  subst e
  exact .inl ⟨⟨xs,q,Nat.le_refl _⟩,hd σ H p⟩
theorem gc {lo : Int} {n : Nat} {g : TG} {tb : TS} {D : Ends} {σ : St} {H : Hp} (Pv : Nat → St → Hp → Prop) (h0 : Pv 0 σ H)
  (hs : ∀ i σ H,i < n → Pv i σ H → g (.int (lo + i)) σ H fun σ2 H2 => tb { D with nx := Pv (i + 1),ct := Pv (i + 1),bk := D.nx } σ2 H2) (hd : ∀ σ H,Pv n σ H → D.nx σ H) :
  ∃ W : Nat → Nat → St → Hp → Prop,(∃ m,W 0 m σ H) ∧ ∀ i m σ H,W i m σ H →
   ((Itr lo n).stop i H ∧ D.nx σ H) ∨ ((Itr lo n).go i H ∧ ∃ N : St → Hp → Prop,(∀ σ' H',N σ' H' → ∃ m',m' < m ∧ W (i + 1) m' σ' H') ∧ ∀ x H',(Itr lo n).yld i H x H' → g x σ H' fun σ2 H2 => tb { D with nx := N,ct := N,bk := D.nx } σ2 H2) := by
 refine ⟨fun i m σ H => m = n - i ∧ i ≤ n ∧ Pv i σ H,⟨n,by simp,Nat.zero_le _,h0⟩,?_⟩
 rintro i m σ H ⟨rfl,hi,p⟩
 by_cases hlt : i < n
 ·refine .inr ⟨hlt,Pv (i + 1),fun σ' H' p' => ⟨n - (i + 1),by omega,rfl,hlt,p'⟩,fun x H' y => ?_⟩
  obtain ⟨e,y⟩ := y
  subst e y
  exact hs i σ _ hlt p
 ·have e : i = n := by omega
  subst e
  exact .inl ⟨Nat.le_refl _,hd σ H p⟩
end L2
namespace L2
open PySem PySem.Spec PyProof.Rows
abbrev R2 := V → V → Hp → VK → Prop
def OpR (X : Cx) (f : Value → Value → Sem Value) (r : R2) : Prop :=
 ∀ (pins : List (Addr × Obj)) (s : Shared) (σ : St) (H : Hp) (x y : V) (v u : Value) (Q : VK),Inv X pins σ H s → RelV x v → RelV y u → r x y H Q →
  wpAny (model X.prog X.w) X.A (f v u) (EP X pins σ Q) X.xe s
def UnR (X : Cx) (f : Value → Sem Value) (r : V → Hp → VK → Prop) : Prop :=
 ∀ (pins : List (Addr × Obj)) (s : Shared) (σ : St) (H : Hp) (x : V) (v : Value) (Q : VK),Inv X pins σ H s → RelV x v → r x H Q →
  wpAny (model X.prog X.w) X.A (f v) (EP X pins σ Q) X.xe s
def CallR (X : Cx) (f : Value) (r : List V → Hp → VK → Prop) : Prop :=
 ∀ (pins : List (Addr × Obj)) (s : Shared) (σ : St) (H : Hp) (xs : List V) (us : List Value) (Q : VK),Inv X pins σ H s → Vals xs us → r xs H Q →
  wpAny (model X.prog X.w) X.A (call f us) (EP X pins σ Q) X.xe s
def TruR (X : Cx) (r : V → Hp → (Bool → Hp → Prop) → Prop) : Prop :=
 ∀ (pins : List (Addr × Obj)) (s : Shared) (σ : St) (H : Hp) (x : V) (v : Value) (Q : Bool → Hp → Prop),Inv X pins σ H s → RelV x v → r x H Q →
  wpAny (model X.prog X.w) X.A (truthy v) (TP X pins σ Q) X.xe s
def tOp (r : R2) (ta tb : TE) : TE := fun σ H Q => ta σ H fun x H1 => tb σ H1 fun y H2 => r x y H2 Q
def tUn (r : V → Hp → VK → Prop) (ta : TE) : TE := fun σ H Q => ta σ H fun x H1 => r x H1 Q
def rI (C : Int → Int → Prop) (g : Int → Int → V) : R2 := fun x y H Q => ∃ i j,x = .int i ∧ y = .int j ∧ C i j ∧ Q (g i j) H
def rI0 (g : Int → Int → V) : R2 := fun x y H Q => ∃ i j,x = .int i ∧ y = .int j ∧ Q (g i j) H
def rU (g : Int → V) : V → Hp → VK → Prop := fun x H Q => ∃ i,x = .int i ∧ Q (g i) H
section
variable {X : Cx} {a b c : Expr} {ta tb tc : TE} {pos : Pos}
theorem binT (ha : PE X a ta) (hb : PE X b tb) {pins : List (Addr × Obj)} {s : Shared} {σ : St} {H : Hp} {R : V → V → Hp → Prop} (I : Inv X pins σ H s)
  (h : ta σ H fun x H1 => tb σ H1 fun y H2 => R x y H2) {Q : Value → Shared → Prop} {f : Value → Value → Sem Value}
  (hf : ∀ v u s2 x y H2,Inv X pins σ H2 s2 → RelV x v → RelV y u → R x y H2 → wpAny (model X.prog X.w) X.A (f v u) Q X.xe s2) :
  wpAny (model X.prog X.w) X.A (eval a X.env) (fun v s₁ => wpAny (model X.prog X.w) X.A (eval b X.env) (fun u s₂ => wpAny (model X.prog X.w) X.A (f v u) Q X.xe s₂) X.xe s₁) X.xe s := by
 refine thn (ha pins s σ H _ I h) fun v s1 ⟨x,H1,I1,r1,q1⟩ => ?_
 refine thn (hb pins s1 σ H1 _ I1 q1) fun u s2 ⟨y,H2,I2,r2,q2⟩ => ?_
 exact hf v u s2 x y H2 I2 r1 r2 q2
theorem pe_op {op : Operator} {r : R2} (ho : OpR X (binaryOp op) r) (ha : PE X a ta) (hb : PE X b tb) : PE X (.BinOp a op b pos) (tOp r ta tb) := by
 intro pins s σ H Q I h
 exact wpAny_BinOp (binT ha hb I h fun v u s2 x y H2 I2 rx ry q => ho pins s2 σ H2 x y v u Q I2 rx ry q)
theorem pe_un {op : UnaryOp} {r : V → Hp → VK → Prop} (ho : UnR X (unaryOp op) r) (ha : PE X a ta) : PE X (.UnaryOp op a pos) (tUn r ta) := by
 intro pins s σ H Q I h
 exact UnaryOp_ (thn (ha pins s σ H _ I h) fun v s1 ⟨x,H1,I1,r1,q1⟩ => ho pins s1 σ H1 x v Q I1 r1 q1)
theorem opI {f : Value → Value → Sem Value} {C : Int → Int → Prop} {g : Int → Int → Int}
  (rule : ∀ (i j : Int) (t u : Tok) (s : Shared) (Q : Value → Shared → Prop) (E : Value → Shared → Prop),C i j → Q (.int (g i j) s.toks) { s with toks := s.toks + 1 } → wpAny (model X.prog X.w) X.A (f (.int i t) (.int j u)) Q E s) :
  OpR X f (rI C fun i j => .int (g i j)) := by
 intro pins s σ H x y v u Q I rx ry h
 obtain ⟨i,j,rfl,rfl,hc,q⟩ := h
 obtain ⟨t,rfl⟩ := rx
 obtain ⟨t',rfl⟩ := ry
 exact rule i j t t' s _ _ hc ⟨.int (g i j),H,I.tok _,⟨_,rfl⟩,q⟩
theorem opI0 {f : Value → Value → Sem Value} {g : Int → Int → Int}
  (rule : ∀ (i j : Int) (t u : Tok) (s : Shared) (Q : Value → Shared → Prop) (E : Value → Shared → Prop),Q (.int (g i j) s.toks) { s with toks := s.toks + 1 } → wpAny (model X.prog X.w) X.A (f (.int i t) (.int j u)) Q E s) :
  OpR X f (rI0 fun i j => .int (g i j)) := by
 intro pins s σ H x y v u Q I rx ry h
 obtain ⟨i,j,rfl,rfl,q⟩ := h
 obtain ⟨t,rfl⟩ := rx
 obtain ⟨t',rfl⟩ := ry
 exact rule i j t t' s _ _ ⟨.int (g i j),H,I.tok _,⟨_,rfl⟩,q⟩
theorem opB0 {f : Value → Value → Sem Value} {g : Int → Int → Bool}
  (rule : ∀ (i j : Int) (t u : Tok) (s : Shared) (Q : Value → Shared → Prop) (E : Value → Shared → Prop),Q (.bool (g i j)) s → wpAny (model X.prog X.w) X.A (f (.int i t) (.int j u)) Q E s) :
  OpR X f (rI0 fun i j => .bl (g i j)) := by
 intro pins s σ H x y v u Q I rx ry h
 obtain ⟨i,j,rfl,rfl,q⟩ := h
 obtain ⟨t,rfl⟩ := rx
 obtain ⟨t',rfl⟩ := ry
 exact rule i j t t' s _ _ ⟨.bl (g i j),H,I,rfl,q⟩
def CDiv (i j : Int) : Prop := 0 < j ∧ j < 1073741824
def CPow (i j : Int) : Prop := 0 ≤ j ∧ j ≤ 1000000 ∧ i.natAbs < 2 ^ 64
def CMul (i j : Int) : Prop := (-(2 ^ 64) < i ∧ i < 2 ^ 64) ∨ (-(2 ^ 64) < j ∧ j < 2 ^ 64)
theorem CMul.ok {i j : Int} (h : CMul i j) : IntMulOk i j := by
 rcases h with ⟨h1,h2⟩ | ⟨h1,h2⟩
 ·exact .of_left (intBits_le_64 h1 h2)
 ·exact .of_right (intBits_le_64 h1 h2)
theorem yn : OpR X (binaryOp .Add) (rI0 fun i j => .int (i + j)) := opI0 fun _ _ _ _ _ _ _ q => add_int q
theorem ja7 : OpR X (binaryOp .Sub) (rI0 fun i j => .int (i - j)) := opI0 fun _ _ _ _ _ _ _ q => sub_int q
theorem jcE : OpR X (binaryOp .Mult) (rI CMul fun i j => .int (i * j)) := opI fun _ _ _ _ _ _ _ hc q => mul_int q hc.ok
theorem jgY : OpR X (binaryOp .FloorDiv) (rI CDiv fun i j => .int (i / j)) := opI fun i j _ _ _ _ _ hc q => by
 have h1 : (0 : Int) < j := hc.1
 have h2 : j < 1073741824 := hc.2
 exact floordiv_int (by omega) (by rw [Int.fdiv_eq_ediv_of_nonneg i (by omega)];exact q) (.inl (PyProof.noPylong_small (by omega)))
theorem jeG : OpR X (binaryOp .Mod) (rI (fun _ j => 0 < j) fun i j => .int (i % j)) := opI fun i j _ _ _ _ _ hc q => by
 have h1 : (0 : Int) < j := hc
 exact mod_int' (by omega) (by rw [Int.fmod_eq_emod_of_nonneg i (by omega)];exact q)
theorem jlN : OpR X (binaryOp .Pow) (rI CPow fun i j => .int (i ^ j.toNat)) := opI fun _ _ _ _ _ _ _ hc q => pow_int_small hc.1 hc.2.1 hc.2.2 q
theorem unI {f : Value → Sem Value} {g : Int → Int}
  (rule : ∀ (i : Int) (t : Tok) (s : Shared) (Q : Value → Shared → Prop) (E : Value → Shared → Prop),Q (.int (g i) s.toks) { s with toks := s.toks + 1 } → wpAny (model X.prog X.w) X.A (f (.int i t)) Q E s) :
  UnR X f (rU fun i => .int (g i)) := by
 intro pins s σ H x v Q I rx h
 obtain ⟨i,rfl,q⟩ := h
 obtain ⟨t,rfl⟩ := rx
 exact rule i t s _ _ ⟨.int (g i),H,I.tok _,⟨_,rfl⟩,q⟩
theorem ja5 : UnR X (unaryOp .USub) (rU fun i => .int (-i)) := unI fun _ _ _ _ _ q => neg_int q
end
def scal : V → V → Bool
 | .non,.non => true | .non,.int _ => true | .int _,.non => true | .non,.bl _ => true | .bl _,.non => true | .non,.str _ => true | .str _,.non => true
 | .int _,.int _ => true | .bl _,.bl _ => true | .str _,.str _ => true | .byt _,.byt _ => true
 | .int _,.str _ => true | .str _,.int _ => true | .bl _,.str _ => true | .str _,.bl _ => true
 | _,_ => false
def rEq : R2 := fun x y H Q => scal x y = true ∧ Q (.bl (decide (x = y))) H
def rNe : R2 := fun x y H Q => scal x y = true ∧ Q (.bl (!decide (x = y))) H
theorem jju {i j : Int} : decide (V.int i = V.int j) = (i == j) := by
 rw [Bool.eq_iff_iff]
 simp
theorem jkK {i j : Bool} : decide (V.bl i = V.bl j) = (i == j) := by
 rw [Bool.eq_iff_iff]
 simp
theorem jjt {i j : Str} : decide (V.str i = V.str j) = (i == j) := by
 rw [Bool.eq_iff_iff]
 simp
theorem jjv {i j : Array UInt8} : decide (V.byt i = V.byt j) = (i.toList == j.toList) := by
 rw [Bool.eq_iff_iff]
 cases i
 cases j
 simp
section
variable {X : Cx} {a b c : Expr} {ta tb tc : TE} {pos : Pos}
theorem zB {pins : List (Addr × Obj)} {σ : St} {H : Hp} {s : Shared} {Q : VK} {k k' : Bool} (I : Inv X pins σ H s) (q : Q (.bl k) H) (e : k = k') : EP X pins σ Q (.bool k') s := by
 subst e
 exact ⟨.bl k,H,I,rfl,q⟩
theorem vM : OpR X (compareOp .Eq) rEq := by
 intro pins s σ H x y v u Q I rx ry h
 obtain ⟨hs,q⟩ := h
 cases x with
 | non =>
  cases rx
  cases y with
  | non => cases ry;exact PySem.EqNone.eq_none_none (zB I q (by simp))
  | bl j => cases ry;exact PySem.EqNone.eq_none_bool (zB I q (by simp))
  | int j => obtain ⟨t',rfl⟩ := ry;exact PySem.EqNone.eq_none_int (zB I q (by simp))
  | str j => obtain ⟨t',rfl⟩ := ry;exact PySem.EqNone.eq_none_str (zB I q (by simp))
  | _ => exact absurd (show false = true from hs) Bool.false_ne_true
 | bl i =>
  cases rx
  cases y with
  | non => cases ry;exact PySem.EqNone.eq_bool_none (zB I q (by simp))
  | bl j => cases ry;exact eq_bool (zB I q jkK)
  | str j => obtain ⟨t',rfl⟩ := ry;exact PySem.EqMixed.eq_bool_str (zB I q (by simp))
  | _ => exact absurd (show false = true from hs) Bool.false_ne_true
 | int i =>
  obtain ⟨t,rfl⟩ := rx
  cases y with
  | non => cases ry;exact PySem.EqNone.eq_int_none (zB I q (by simp))
  | int j => obtain ⟨t',rfl⟩ := ry;exact eq_int (zB I q jju)
  | str j => obtain ⟨t',rfl⟩ := ry;exact PySem.EqMixed.eq_int_str (zB I q (by simp))
  | _ => exact absurd (show false = true from hs) Bool.false_ne_true
 | str i =>
  obtain ⟨t,rfl⟩ := rx
  cases y with
  | non => cases ry;exact PySem.EqNone.eq_str_none (zB I q (by simp))
  | bl j => cases ry;exact PySem.EqMixed.eq_str_bool (zB I q (by simp))
  | int j => obtain ⟨t',rfl⟩ := ry;exact PySem.EqMixed.eq_str_int (zB I q (by simp))
  | str j => obtain ⟨t',rfl⟩ := ry;exact eq_str (zB I q jjt)
  | _ => exact absurd (show false = true from hs) Bool.false_ne_true
 | byt i =>
  obtain ⟨t,rfl⟩ := rx
  cases y with
  | byt j => obtain ⟨t',rfl⟩ := ry;exact PySem.W.eq_bytes (zB I q jjv)
  | _ => exact absurd (show false = true from hs) Bool.false_ne_true
 | _ => cases y <;> exact absurd (show false = true from hs) Bool.false_ne_true
theorem jcd : OpR X (compareOp .NotEq) rNe := by
 intro pins s σ H x y v u Q I rx ry h
 obtain ⟨hs,q⟩ := h
 cases x with
 | non =>
  cases rx
  cases y with
  | non => cases ry;exact PySem.EqNone.ne_none_none (zB I q (by simp))
  | bl j => cases ry;exact PySem.EqNone.ne_none_bool (zB I q (by simp))
  | int j => obtain ⟨t',rfl⟩ := ry;exact PySem.EqNone.ne_none_int (zB I q (by simp))
  | str j => obtain ⟨t',rfl⟩ := ry;exact PySem.EqNone.ne_none_str (zB I q (by simp))
  | _ => exact absurd (show false = true from hs) Bool.false_ne_true
 | bl i =>
  cases rx
  cases y with
  | non => cases ry;exact PySem.EqNone.ne_bool_none (zB I q (by simp))
  | bl j => cases ry;exact ne_bool (zB I q (congrArg not jkK))
  | str j => obtain ⟨t',rfl⟩ := ry;exact PySem.EqMixed.ne_bool_str (zB I q (by simp))
  | _ => exact absurd (show false = true from hs) Bool.false_ne_true
 | int i =>
  obtain ⟨t,rfl⟩ := rx
  cases y with
  | non => cases ry;exact PySem.EqNone.ne_int_none (zB I q (by simp))
  | int j => obtain ⟨t',rfl⟩ := ry;exact ne_int (zB I q (congrArg not jju))
  | str j => obtain ⟨t',rfl⟩ := ry;exact PySem.EqMixed.ne_int_str (zB I q (by simp))
  | _ => exact absurd (show false = true from hs) Bool.false_ne_true
 | str i =>
  obtain ⟨t,rfl⟩ := rx
  cases y with
  | non => cases ry;exact PySem.EqNone.ne_str_none (zB I q (by simp))
  | bl j => cases ry;exact PySem.EqMixed.ne_str_bool (zB I q (by simp))
  | int j => obtain ⟨t',rfl⟩ := ry;exact PySem.EqMixed.ne_str_int (zB I q (by simp))
  | str j => obtain ⟨t',rfl⟩ := ry;exact ne_str (zB I q (congrArg not jjt))
  | _ => exact absurd (show false = true from hs) Bool.false_ne_true
 | byt i =>
  obtain ⟨t,rfl⟩ := rx
  cases y with
  | byt j => obtain ⟨t',rfl⟩ := ry;exact PySem.W.ne_bytes (zB I q (congrArg not jjv))
  | _ => exact absurd (show false = true from hs) Bool.false_ne_true
 | _ => cases y <;> exact absurd (show false = true from hs) Bool.false_ne_true
theorem jii : OpR X (compareOp .Lt) (rI0 fun i j => .bl (decide (i < j))) := opB0 fun _ _ _ _ _ _ _ q => lt_int q
theorem je5 : OpR X (compareOp .LtE) (rI0 fun i j => .bl (decide (i ≤ j))) := opB0 fun _ _ _ _ _ _ _ q => le_int q
theorem jf0 : OpR X (compareOp .Gt) (rI0 fun i j => .bl (decide (j < i))) := opB0 fun _ _ _ _ _ _ _ q => gt_int q
theorem jlO : OpR X (compareOp .GtE) (rI0 fun i j => .bl (decide (j ≤ i))) := opB0 fun _ _ _ _ _ _ _ q => ge_int q
theorem jcF : OpR X (compareOp .Is) (fun x y H Q => y = .non ∧ Q (.bl (decide (x = .non))) H) := by
 intro pins s σ H x y v u Q I rx ry h
 obtain ⟨rfl,q⟩ := h
 cases ry
 refine is_none_gen (zB I q ?_)
 cases x <;> first
  | (cases rx;rfl)
  | (obtain ⟨t,rfl⟩ := rx;rfl)
theorem jP (b : Expr) {op : CmpOp} (h : op ≠ .In := by decide) (h2 : op ≠ .NotIn := by decide) : behindInMarks op b = false := by
 have e1 : (op == CmpOp.In) = false := by cases op <;> first | rfl | exact absurd rfl h
 have e2 : (op == CmpOp.NotIn) = false := by cases op <;> first | rfl | exact absurd rfl h2
 cases b <;> simp [behindInMarks,e1,e2]
theorem pe_cmpR {op : CmpOp} {r : R2} (ho : OpR X (compareOp op) r) (ha : PE X a ta) (hb : PE X b tb) (hm : behindInMarks op b = false) : PE X (.Compare a [op] [b] pos) (tOp r ta tb) := by
 intro pins s σ H Q I h
 exact wpAny_Compare1 (binT ha hb I h fun v u s2 x y H2 I2 rx ry q => ho pins s2 σ H2 x y v u Q I2 rx ry q) hm
def tTest (t : TE) : TT := fun σ H Q => t σ H fun x H' => ∃ k,x = .bl k ∧ Q k H'
theorem pt_cmpR {op : CmpOp} {r : R2} (ho : OpR X (compareOp op) r) (ha : PE X a ta) (hb : PE X b tb) (hm : behindInMarks op b = false) : PT X (.Compare a [op] [b] pos) (tTest (tOp r ta tb)) := by
 intro pins s σ H Q I h
 refine wpAny_isTrue_Compare1 (thn (ha pins s σ H _ I h) fun v s1 ⟨x,H1,I1,r1,q1⟩ => thn (hb pins s1 σ H1 _ I1 q1) fun u s2 ⟨y,H2,I2,r2,q2⟩ =>
  thn (ho pins s2 σ H2 x y v u _ I2 r1 r2 q2) fun c s3 ⟨z,H3,I3,r3,k,e,q3⟩ => ?_) hm
 subst e
 cases r3
 exact wpAny_truthy_bool ⟨H3,I3,q3⟩
def tChain (r r' : R2) (ta tb tc : TE) : TE := fun σ H Q => ta σ H fun x H1 => tb σ H1 fun y H2 => r x y H2 fun z H3 => ∃ k,z = .bl k ∧
 (if k = true then tc σ H3 fun w' H4 => r' y w' H4 Q else Q (.bl false) H3)
theorem pe_chain {op op' : CmpOp} {r r' : R2} (ho : OpR X (compareOp op) r) (ho' : OpR X (compareOp op') r') (ha : PE X a ta) (hb : PE X b tb) (hc : PE X c tc)
  (hm : lastMarks [op,op'] [b,c] = false := by with_unfolding_all rfl) : PE X (.Compare a [op,op'] [b,c] pos) (tChain r r' ta tb tc) := by
 intro pins s σ H Q I h
 refine Compare_chain (thn (ha pins s σ H _ I h) fun v s1 ⟨x,H1,I1,r1,q1⟩ => chain_link (thn (hb pins s1 σ H1 _ I1 q1) fun u s2 ⟨y,H2,I2,r2,q2⟩ =>
  thn (ho pins s2 σ H2 x y v u _ I2 r1 r2 q2) fun d s3 ⟨z,H3,I3,r3,k,e,q3⟩ => ?_)) hm
 subst e
 cases r3
 refine wpAny_truthy_bool ?_
 cases k with
 | false => exact ite_ff ⟨.bl false,H3,I3,rfl,q3⟩
 | true => exact ite_tt (chain_last (thn (hc pins s3 σ H3 _ I3 q3) fun w' s4 ⟨z',H4,I4,r4,q4⟩ => ho' pins s4 σ H4 y z' u w' Q I4 r2 r4 q4))
theorem pt_chain {op op' : CmpOp} {r r' : R2} (ho : OpR X (compareOp op) r) (ho' : OpR X (compareOp op') r') (ha : PE X a ta) (hb : PE X b tb) (hc : PE X c tc)
  (hm : lastMarks [op,op'] [b,c] = false := by with_unfolding_all rfl) : PT X (.Compare a [op,op'] [b,c] pos) (tTest (tChain r r' ta tb tc)) := by
 intro pins s σ H Q I h
 refine isTrue_chain (thn (ha pins s σ H _ I h) fun v s1 ⟨x,H1,I1,r1,q1⟩ => test_link (thn (hb pins s1 σ H1 _ I1 q1) fun u s2 ⟨y,H2,I2,r2,q2⟩ =>
  thn (ho pins s2 σ H2 x y v u _ I2 r1 r2 q2) fun d s3 ⟨z,H3,I3,r3,k,e,q3⟩ => ?_)) hm
 subst e
 cases r3
 refine wpAny_truthy_bool ?_
 cases k with
 | false =>
  obtain ⟨k',e',q'⟩ := q3
  cases e'
  exact ite_ff ⟨H3,I3,q'⟩
 | true =>
  refine ite_tt (test_last (thn (hc pins s3 σ H3 _ I3 q3) fun w' s4 ⟨z',H4,I4,r4,q4⟩ => thn (ho' pins s4 σ H4 y z' u w' _ I4 r2 r4 q4) fun d' s5 ⟨z2,H5,I5,r5,k2,e2,q5⟩ => ?_))
  subst e2
  cases r5
  exact wpAny_truthy_bool ⟨H5,I5,q5⟩
def TruV (K : PySem.W.Frag) (x : V) (H : Hp) (k : Bool) : Prop :=
 match x with
 | .non => k = false
 | .bl b => k = b
 | .int i => k = (i != 0)
 | .str y => y.length ≤ sizeLine ∧ k = ((y.length : Int) != 0)
 | .byt y => y.size ≤ sizeLine ∧ k = ((y.size : Int) != 0)
 | .ref p => (∃ xs,SqL K H p xs ∧ k = !xs.isEmpty) ∨ (∃ xs,SqT K H p xs ∧ k = !xs.isEmpty) ∨ ∃ kvs,H p = some (.dK kvs) ∧ k = !kvs.isEmpty
 | _ => False
theorem jil {κ : Type} {kvs : List (κ × V)} {vs : List (κ × Value)} (r : KV kvs vs) : (!vs.isEmpty) = !kvs.isEmpty := by
 cases r <;> rfl
theorem jeN {xs : List V} {its : List Value} (r : Vals xs its) : (!its.toArray.isEmpty) = !xs.isEmpty := by
 cases r <;> simp
theorem jdM : (sizeLine : Nat) < 2 ^ 63 := by rw [sizeLine_eq];decide
theorem jlC : TruR X (fun x H Q => ∃ k,TruV X.K x H k ∧ Q k H) := by
 intro pins s σ H x v Q I rx h
 obtain ⟨k,e,q⟩ := h
 have hl := jdM
 have hs : sizeLine = 16777216 := sizeLine_eq
 cases x with
 | non =>
  cases rx
  have e' : k = false := e
  subst e'
  exact truthy_none ⟨H,I,q⟩
 | bl b =>
  cases rx
  have e' : k = b := e
  subst e'
  exact wpAny_truthy_bool ⟨H,I,q⟩
 | int i =>
  obtain ⟨t,rfl⟩ := rx
  have e' : k = (i != 0) := e
  subst e'
  exact PySem.P.truthy_int ⟨H,I,q⟩
 | str y =>
  obtain ⟨t,rfl⟩ := rx
  obtain ⟨hy,e'⟩ : y.length ≤ sizeLine ∧ k = ((y.length : Int) != 0) := e
  subst e'
  exact PySem.P.truthy_str (by omega) ⟨H,I.tok _,q⟩
 | byt y =>
  obtain ⟨t,rfl⟩ := rx
  obtain ⟨hy,e'⟩ : y.size ≤ sizeLine ∧ k = ((y.size : Int) != 0) := e
  subst e'
  exact PySem.W.truthy_bytes (by omega) ⟨H,I.tok _,q⟩
 | ref p =>
  cases rx
  have e' : (∃ xs,SqL X.K H p xs ∧ k = !xs.isEmpty) ∨ (∃ xs,SqT X.K H p xs ∧ k = !xs.isEmpty) ∨ ∃ kvs,H p = some (.dK kvs) ∧ k = !kvs.isEmpty := e
  rcases e' with ⟨xs,hx,e'⟩ | ⟨xs,hx,e'⟩ | ⟨kvs,hx,e'⟩
  ·subst e'
   obtain ⟨its,r,pl,hz⟩ := I.list hx
   have hlen := r.length
   exact wpAny_truthy_list pl.isList (by simp only [List.size_toArray];omega) ⟨H,I.tok _,by rw [jeN r];exact q⟩
  ·subst e'
   obtain ⟨its,r,pl,hz⟩ := I.tuple hx
   have hlen := r.length
   exact truthy_tuple pl (by simp only [List.size_toArray];omega) ⟨H,I.tok _,by rw [jeN r];exact q⟩
  ·subst e'
   obtain ⟨hz,hS,vs,r,m⟩ : kvs.length ≤ sizeLine ∧ (p == sysModules) = false ∧ ∃ vs,KV kvs vs ∧ s.heap.DictOf (zV X.prog X.w) p vs := I.hok p _ hx
   have hlen : kvs.length = vs.length := Paired.length r
   exact wpAny_truthy_dict hS m (by omega) ⟨H,I.tok _,by rw [jil r];exact q⟩
 | _ => exact (show False from e).elim
theorem jj1 (ha : PE X a ta) (he : ∀ whole,isTrue a X.env whole = (do let v ← whole;standAt a.pos;holding [v] (truthy v))) :
  PT X a (fun σ H Q => ta σ H fun x H' => ∃ k,TruV X.K x H' k ∧ Q k H') := by
 intro pins s σ H Q I h
 exact isTrue_plain (thn (ha pins s σ H _ I h) fun v s1 ⟨x,H1,I1,r1,q1⟩ => jlC pins s1 σ H1 x v Q I1 r1 q1) (he _)
theorem vV : OpR X (binaryOp .Add) (fun x y H Q => ∃ i j,x = .str i ∧ y = .str j ∧ i.length + j.length ≤ sizeLine ∧ Q (.str (i ++ j)) H) := by
 intro pins s σ H x y v u Q I rx ry h
 obtain ⟨i,j,rfl,rfl,hz,q⟩ := h
 obtain ⟨t,rfl⟩ := rx
 obtain ⟨t',rfl⟩ := ry
 exact add_str (fun t' tk => ⟨.str (i ++ j),H,I.tok _,⟨_,rfl⟩,q⟩) hz
theorem jgO {x : V} {us : List Value} (r : Vals [x] us) : ∃ u,us = [u] ∧ RelV x u := by
 cases r with
 | cons r1 r2 => cases r2;exact ⟨_,rfl,r1⟩
theorem jjP {x y : V} {us : List Value} (r : Vals [x,y] us) : ∃ u w',us = [u,w'] ∧ RelV x u ∧ RelV y w' := by
 cases r with
 | cons r1 r2 =>
  cases r2 with
  | cons r3 r4 => cases r4;exact ⟨_,_,rfl,r1,r3⟩
theorem jjD (hc : X.calm = true) : CallR X (.builtin "max") (fun xs H Q => ∃ i j,xs = [.int i,.int j] ∧ Q (.int (if j > i then j else i)) H) := by
 intro pins s σ H xs us Q I r h
 obtain ⟨i,j,rfl,q⟩ := h
 obtain ⟨u,w',rfl,⟨t,rfl⟩,⟨t',rfl⟩⟩ := jjP r
 refine max_two_ints (I.ok.hd hc) fun h' tk k => ⟨_,H,I.kept k,?_,q⟩
 by_cases hj : j > i
 ·rw [if_pos hj,if_pos hj];exact ⟨_,rfl⟩
 ·rw [if_neg hj,if_neg hj];exact ⟨_,rfl⟩
theorem jb9 : CallR X (.type "int") (fun xs H Q => (∃ i,xs = [.int i] ∧ Q (.int i) H) ∨ ∃ k,xs = [.bl k] ∧ Q (.int (if k then 1 else 0)) H) := by
 intro pins s σ H xs us Q I r h
 rcases h with ⟨i,rfl,q⟩ | ⟨k,rfl,q⟩
 ·obtain ⟨u,rfl,t,rfl⟩ := jgO r
  exact call_int_int ⟨.int i,H,I,⟨_,rfl⟩,q⟩
 ·obtain ⟨u,rfl,r1⟩ := jgO r
  cases r1
  exact call_int_bool ⟨.int (if k then 1 else 0),H,I.tok _,⟨_,rfl⟩,q⟩
theorem vJ : CallR X (.type "str") (fun xs H Q => ∃ i,xs = [.int i] ∧ i.natAbs.log2 < 1920 ∧ Q (.str (toString i)) H) := by
 intro pins s σ H xs us Q I r h
 obtain ⟨i,rfl,hz,q⟩ := h
 obtain ⟨u,rfl,t,rfl⟩ := jgO r
 exact PySem.P.str_of_int hz ⟨.str _,H,I.tok _,⟨_,rfl⟩,q⟩
def LenV (K : PySem.W.Frag) (x : V) (H : Hp) (n : Nat) : Prop :=
 match x with
 | .str y => y.length ≤ sizeLine ∧ n = y.length
 | .byt y => y.size ≤ sizeLine ∧ n = y.size
 | .ref p => (∃ xs,SqL K H p xs ∧ n = xs.length) ∨ ∃ xs,SqT K H p xs ∧ n = xs.length
 | _ => False
theorem jkx : CallR X (.builtin "len") (fun xs H Q => ∃ x n,xs = [x] ∧ LenV X.K x H n ∧ Q (.int n) H) := by
 intro pins s σ H xs us Q I r h
 obtain ⟨x,n,rfl,e,q⟩ := h
 obtain ⟨u,rfl,rx⟩ := jgO r
 have hl := jdM
 have hs : sizeLine = 16777216 := sizeLine_eq
 cases x with
 | str y =>
  obtain ⟨t,rfl⟩ := rx
  obtain ⟨hy,e'⟩ : y.length ≤ sizeLine ∧ n = y.length := e
  subst e'
  exact len_str (by omega) ⟨.int _,H,I.tok _,⟨_,rfl⟩,q⟩
 | byt y =>
  obtain ⟨t,rfl⟩ := rx
  obtain ⟨hy,e'⟩ : y.size ≤ sizeLine ∧ n = y.size := e
  subst e'
  exact PySem.W.len_bytes (by omega) ⟨.int _,H,I.tok _,⟨_,rfl⟩,q⟩
 | ref p =>
  cases rx
  have e' : (∃ xs,SqL X.K H p xs ∧ n = xs.length) ∨ ∃ xs,SqT X.K H p xs ∧ n = xs.length := e
  rcases e' with ⟨xs,hx,e'⟩ | ⟨xs,hx,e'⟩
  ·subst e'
   obtain ⟨its,r',pl,hz⟩ := I.list hx
   have hlen := r'.length
   exact Calls.call_len_list pl.isList (by simp only [List.size_toArray];omega) ⟨.int xs.length,H,I.tok _,⟨_,by simp only [List.size_toArray];rw [hlen]⟩,q⟩
  ·subst e'
   obtain ⟨its,r',pl,hz⟩ := I.tuple hx
   have hlen := r'.length
   exact len_tuple pl (by simp only [List.size_toArray];omega) ⟨.int xs.length,H,I.tok _,⟨_,by simp only [List.size_toArray];rw [hlen]⟩,q⟩
 | _ => exact (show False from e).elim
end
end L2
namespace L2
open PySem PySem.Spec PyProof.Rows
structure ObjM (h : Heap) (x dx C : Addr) (mA : Str → Option Value) : Prop where
 obj : h.get? x = some (PySem.W.instObj C dx)
 ns : h.Ns1 dx mA
 ne : dx ≠ x
theorem jjb {h : Heap} {dx : Addr} {mA : Str → Option Value} (n : h.Ns1 dx mA) : ∃ od,h.get? dx = some od ∧ ∀ name,PySem.W.lookIn name od = some (mA name) := by
 obtain ⟨o,es,ep,ho,hd,hk,_,hm⟩ := n
 refine ⟨o,ho,fun name => ?_⟩
 have e := hm name
 unfold nsFind findBy at e
 rw [← Array.find?_toList] at e
 unfold PySem.W.lookIn
 rw [hd]
 dsimp only
 split
 ·rename_i y q
  rw [q] at e
  exact congrArg some e
 ·rename_i q
  rw [q] at e
  have a : es.toList.any (·.refKey) = false := by
   rw [List.any_eq_false]
   intro y hy
   obtain ⟨z,t,hkey⟩ := hk y (Array.mem_toList_iff.mp hy)
   simp [DictEntry.refKey,hkey]
  have a' : ¬ es.toList.any (·.refKey) = true := by rw [a];exact Bool.false_ne_true
  rw [if_neg a']
  exact congrArg some e
theorem ObjM.look {h : Heap} {x dx C : Addr} {mA : Str → Option Value} (I : ObjM h x dx C mA) : ∃ od,PySem.W.InstAt h x (PySem.W.instObj C dx) C (some od) ∧ ∀ name,PySem.W.lookIn name od = some (mA name) :=
 let ⟨od,ho,hl⟩ := jjb I.ns
 ⟨od,⟨I.obj,rfl,rfl,ho⟩,hl⟩
section
variable {prog : Program} {w : World} {A : Around} {E : Value → Shared → Prop} {s : Shared} {K : PySem.W.Frag} {x dx C f : Addr} {mA : Str → Option Value} {name : Str} {v : Value}
end
def putF (f : Str) (v : V) : List (Str × V) → List (Str × V)
 | [] => [(f,v)]
 | (g,x) :: r => if g = f then (g,v) :: r else (g,x) :: putF f v r
theorem RelO.some_of {v : V} {o : Option Value} (r : RelO (some v) o) : ∃ u,o = some u ∧ RelV v u := by
 cases o with
 | none => exact (show False from r).elim
 | some u => exact ⟨u,rfl,r⟩
section
variable {P : Program} {w : World} {H H' : Hp} {h h' : Heap} {a C dx : Addr} {fs fs' : List (Str × V)}
theorem jln (hok : HOk P w H h) (e : H a = some (.ins C dx fs)) : ∃ mA,ObjM h a dx C mA ∧ (∀ f,RelO (fs.lookup f) (mA f)) ∧ PySem.Within mA (fs.map (·.1)) ∧ fs.length ≤ 1000 ∧ H dx = some (.own a) := by
 obtain ⟨d,z,ne,ob,mA,n,r,q⟩ := (show ObjOk P w H h a (.ins C dx fs) from hok a _ e)
 exact ⟨mA,⟨ob,n,ne⟩,r,q,z,d⟩
end
structure Cls (K : PySem.W.Frag) (C : Addr) : Prop where
 pg : PySem.W.plainGet K C Str.empty = true
 hd : PySem.W.hasDictIn K C = true
 po : PySem.W.plainOver K C = true
 sa : PySem.W.findIn K (.ref C) "__setattr__" = some (some (.builtin "object.__setattr__"))
theorem Cls.get {K : PySem.W.Frag} {C : Addr} (c : Cls K C) (f : Str) : PySem.W.plainGet K C f = true := c.pg
def jjK (K : PySem.W.Frag) (C : Addr) (f : Str) : Prop := PySem.W.findIn K (.ref C) f = some none
section
variable {X : Cx} {pins : List (Addr × Obj)} {σ : St} {H : Hp} {s : Shared} {a C dx : Addr} {fs : List (Str × V)} {f : Str} {v : V} {A : Around} {E : Value → Shared → Prop}
end
def tFld (K : PySem.W.Frag) (ta : TE) (f : Str) : TE := fun σ H Q => ta σ H fun x H1 => ∃ a C dx fs v,x = .ref a ∧ H1 a = some (.ins C dx fs) ∧ Cls K C ∧ jjK K C f ∧ fs.lookup f = some v ∧ Q v H1
def sFld (K : PySem.W.Frag) (ta tv : TE) (f : Str) : TS := fun D σ H => tv σ H fun y H1 => ta σ H1 fun x H2 => ∃ a C dx fs,x = .ref a ∧ H2 a = some (.ins C dx fs) ∧ Cls K C ∧ jjK K C f ∧ fs.length < 1000 ∧
 D.nx σ (upd H2 a (.ins C dx (putF f y fs)))
def v7 (K : PySem.W.Frag) (ta tv : TE) (rd : V → V → Hp → VK → Prop) (f : Str) : TS := fun D σ H => ta σ H fun x H1 => ∃ a C dx fs v,x = .ref a ∧ H1 a = some (.ins C dx fs) ∧ Cls K C ∧ jjK K C f ∧ fs.lookup f = some v ∧
 tv σ H1 fun y H2 => rd v y H2 fun z H3 => ∃ dx' fs',H3 a = some (.ins C dx' fs') ∧ fs'.length < 1000 ∧ D.nx σ (upd H3 a (.ins C dx' (putF f z fs')))
section
variable {X : Cx} {o e value : Expr} {f : Str} {pos pos' tpos : Pos} {ta tv : TE}
def rAdd : V → V → Hp → VK → Prop := fun x y H Q => ∃ i j,x = .int i ∧ y = .int j ∧ Q (.int (i + j)) H
def rSub : V → V → Hp → VK → Prop := fun x y H Q => ∃ i j,x = .int i ∧ y = .int j ∧ Q (.int (i - j)) H
end
section
variable {X : Cx} {pins : List (Addr × Obj)} {σ : St} {H : Hp} {s : Shared} {A : Around} {E : Value → Shared → Prop} {Q : Value → Shared → Prop} {c : Value} {b : Bool}
inductive TyOf (K : PySem.W.Frag) (H : Hp) : V → Value → Prop where
 | non : TyOf K H .non (.type "NoneType")
 | bl (x : Bool) : TyOf K H (.bl x) (.type "bool")
 | int (i : Int) : TyOf K H (.int i) (.type "int")
 | str (x : Str) : TyOf K H (.str x) (.type "str")
 | flt (x : UInt64) : TyOf K H (.flt x) (.type "float")
 | lst {a : Addr} {xs : List V} (e : H a = some (.lst xs)) : TyOf K H (.ref a) (.type "list")
 | frz {a : Addr} {o : Obj} {xs : List V} (e : H a = some (.frz o (.lst xs))) : TyOf K H (.ref a) (.type "list")
 | tup {a : Addr} {xs : List V} (e : H a = some (.tup xs)) : TyOf K H (.ref a) (.type "tuple")
 | dK {a : Addr} {kvs : List (Key × V)} (e : H a = some (.dK kvs)) : TyOf K H (.ref a) (.type "dict")
 | dT {a : Addr} {kvs : List (List Key × V)} (e : H a = some (.dT kvs)) : TyOf K H (.ref a) (.type "dict")
 | ins {a C dx : Addr} {fs : List (Str × V)} (e : H a = some (.ins C dx fs)) (cl : Cls K C) (ha : PySem.W.findIn K (.ref C) "__class__" = some (some (.builtin "object.__class__")))
   (hn : PySem.W.specialIn K (.builtin "object.__class__") "__get__" = some (some (.builtin "getset_descriptor.__get__"))) (htk : PySem.W.takesIn K (.builtin "object.__class__") = some true)
   (hm : PySem.W.mroIn K C (.type "object") = some true) : TyOf K H (.ref a) (.ref C)
theorem jjj {x : V} {u t : Value} (I : Inv X pins σ H s) (rx : RelV x u) (ty : TyOf X.K H x t) (e : PySem.W.kitOne X.K t c = some b) (h : ∀ tk,Q (.bool b) { s with toks := tk }) :
  wpAny (model X.prog X.w) A (call (.builtin "isinstance") [u,c]) Q E s := by
 cases ty with
 | non => cases (show u = Value.none from rx);exact PySem.W.kia_one PySem.W.kitx_none I.kIn True.intro e (fun z => nomatch z) h
 | bl y => cases (show u = Value.bool y from rx);exact PySem.W.kia_one PySem.W.kitx_bool I.kIn True.intro e (fun z => nomatch z) h
 | int i => obtain ⟨t,q⟩ := (show ∃ t,u = Value.int i t from rx);cases q;exact PySem.W.kia_one PySem.W.kitx_int I.kIn True.intro e (fun z => nomatch z) h
 | str y => obtain ⟨t,q⟩ := (show ∃ t,u = Value.str y t from rx);cases q;exact PySem.W.kia_one PySem.W.kitx_str I.kIn True.intro e (fun z => nomatch z) h
 | flt y => obtain ⟨t,q⟩ := (show ∃ t,u = Value.float y t from rx);cases q;exact PySem.W.kia_one PySem.W.kitx_float I.kIn True.intro e (fun z => nomatch z) h
 | @lst a xs ea =>
  cases (show u = Value.ref a from rx)
  obtain ⟨_,_,n,_,h1⟩ := (show ObjOk X.prog X.w H s.heap a (.lst xs) from I.hok a _ ea)
  exact PySem.W.kia_one PySem.W.kitx_list I.kIn ⟨_,h1,rfl⟩ e (fun z => nomatch z) h
 | @frz a ob xs ea =>
  cases (show u = Value.ref a from rx)
  obtain ⟨_,_,_,n,_,h1⟩ := (show ObjOk X.prog X.w H s.heap a (.frz ob (.lst xs)) from I.hok a _ ea)
  exact PySem.W.kia_one PySem.W.kitx_list I.kIn ⟨_,h1,rfl⟩ e (fun z => nomatch z) h
 | @tup a xs ea =>
  cases (show u = Value.ref a from rx)
  obtain ⟨_,_,_,p⟩ := (show ObjOk X.prog X.w H s.heap a (.tup xs) from I.hok a _ ea)
  obtain ⟨o,h1,h2,_⟩ := p
  exact PySem.W.kia_one PySem.W.kitx_tuple I.kIn ⟨o,h1,h2⟩ e (fun z => nomatch z) h
 | @dK a kvs ea =>
  cases (show u = Value.ref a from rx)
  obtain ⟨_,_,vs,_,p⟩ := (show ObjOk X.prog X.w H s.heap a (.dK kvs) from I.hok a _ ea)
  obtain ⟨o,es,ep,h1,h2,_⟩ := p
  exact PySem.W.kia_one PySem.W.kitx_dict I.kIn ⟨o,h1,h2.1⟩ e (fun z => nomatch z) h
 | @dT a kvs ea =>
  cases (show u = Value.ref a from rx)
  obtain ⟨_,_,xs,_,o,es,ep,h1,h2,_⟩ := (show ObjOk X.prog X.w H s.heap a (.dT kvs) from I.hok a _ ea)
  exact PySem.W.kia_one PySem.W.kitx_dict I.kIn ⟨o,h1,h2.1⟩ e (fun z => nomatch z) h
 | @ins a C dx fs ea cl ha hn htk hm =>
  cases (show u = Value.ref a from rx)
  obtain ⟨mA,O,_⟩ := jln I.hok ea
  obtain ⟨od,J,_⟩ := O.look
  exact PySem.W.kia_one (PySem.W.kitx_own (cl.get _) cl.hd ha hn htk hm) I.kIn J e (fun z => nomatch z) h
end
end L2
namespace L2
open PySem PySem.Spec PyProof.Rows
structure Room (k : Nat) (A : Around) : Prop where
 hd : A.handled = none
 dp : A.depth + 3 * k + 5 < recursionLimit
 un : A.units + 16 * k + 200 < cLine
theorem Room.mono {j k : Nat} {A : Around} (r : Room k A) (h : j ≤ k) : Room j A := ⟨r.hd,by have := r.dp;omega,by have := r.un;omega⟩
theorem Room.deeper {k : Nat} {A : Around} (r : Room (k + 1) A) (env : Env) : Room k (A.deeper env) :=
 ⟨r.hd,by have := r.dp;show A.depth + 1 + 3 * k + 5 < _;omega,by have := r.un;show A.units + 3 + 16 * k + 200 < _;omega⟩
theorem Room.depth {k : Nat} {A : Around} (r : Room k A) : A.depth < recursionLimit := by have := r.dp;omega
theorem Room.units {k : Nat} {A : Around} (r : Room k A) : A.units + 64 < cLine := by have := r.un;omega
def tNil : TA := fun _ H Q => Q [] H
def tCons (ta : TE) (tr : TA) : TA := fun σ H Q => ta σ H fun x H1 => tr σ H1 fun xs H2 => Q (x :: xs) H2
section
variable {X : Cx} {e : Expr} {es : List Expr} {te : TE} {t : TA} {pos : Pos}
theorem pa_nil : PA X [] tNil := fun _ _ _ _ H Q I h => Calls.spliced_nil ⟨[],H,I,.nil,h⟩
theorem jk3 (ha : PE X e te) (hr : PA X es t) (hs : starEach (e :: es) X.env = (false,eval e X.env) :: starEach es X.env := by rfl) : PA X (e :: es) (tCons te t) := by
 intro pos pins s σ H Q I h
 rw [hs]
 show wpAny _ _ (spliced ((false,eval e X.env) :: backTo pos (starEach es X.env))) _ _ s
 refine Calls.spliced_cons (thn (ha pins s σ H _ I h) fun u s1 ⟨x,H1,I1,r1,q1⟩ => ?_)
 exact thn (hr pos pins s1 σ H1 _ I1 q1) fun us s2 ⟨xs,H2,I2,r2,q2⟩ => ⟨x :: xs,H2,I2,.cons r1 r2,q2⟩
def tTup (t : TA) : TE := fun σ H Q => t σ H fun xs H1 => xs.length ≤ sizeLine ∧ ∀ p,H1 p = none → Q (.ref p) (upd H1 p (.tup xs))
def tLst (t : TA) : TE := fun σ H Q => t σ H fun xs H1 => xs.length ≤ sizeLine ∧ ∀ p,H1 p = none → Q (.ref p) (upd H1 p (.lst xs))
theorem jlK {x1} (h : PA X es t) : PE X (.Tuple es x1 pos) (tTup t) := by
 intro pins s σ H Q I hq
 refine wpAny_Tuple_spliced (thn (h pos pins s σ H _ I hq) fun us s1 ⟨xs,H1,I1,r,z,q⟩ => ⟨by rw [← r.length];exact z,?_⟩)
 have hf : H1 s1.heap.objs.size = none := I1.hok.fresh (Nat.le_refl _)
 refine ⟨.ref s1.heap.objs.size,upd H1 s1.heap.objs.size (.tup xs),I1.laid (t' := s1.toks) (fun b u e => Heap.get?_push_of_some _ e) (Nat.le_refl _) ?_,rfl,q _ hf⟩
 exact ⟨z,us,r,⟨_,Heap.get?_push_size _ rfl,rfl,_,rfl⟩⟩
theorem pe_lst (h : PA X es t) : PE X (.List es pos) (tLst t) := by
 intro pins s σ H Q I hq
 refine wpAny_List_spliced (thn (h pos pins s σ H _ I hq) fun us s1 ⟨xs,H1,I1,r,z,q⟩ => ⟨by rw [← r.length];exact z,?_⟩)
 have hf : H1 s1.heap.objs.size = none := I1.hok.fresh (Nat.le_refl _)
 refine ⟨.ref s1.heap.objs.size,upd H1 s1.heap.objs.size (.lst xs),I1.laid (t' := s1.toks) (fun b u e => Heap.get?_push_of_some _ e) (Nat.le_refl _) ?_,rfl,q _ hf⟩
 exact ⟨z,us,0,r,Heap.get?_push_size _ rfl⟩
end
abbrev Sp := List V → Hp → VK → XK → Prop
abbrev CXT := List Env → Hp → Shared → XK → Value → Shared → Prop
structure Env0 (P : Program) (w : World) (K : PySem.W.Frag) (mg : Str → Option Value) (base : Heap) (A : Around) (outer : List Env) (s : Shared) (H : Hp) : Prop where
 frames : A.frames = some outer
 mod : Mod K mg base
 bs : ∀ b o,base.get? b = some o → s.heap.get? b = some o ∧ H b = none
 bsz : base.objs.size ≤ s.heap.objs.size
 funs : s.heap.FunFrames base outer
 frf : ∀ b ∈ frs outer,H b = none
 hok : HOk P w H s.heap
 bare : AllBare s.gens
def CE (outer : List Env) (P : Program) (w : World) (H : Hp) (s : Shared) (Q : VK) (u : Value) (s' : Shared) : Prop :=
 ∃ v H',s'.os = s.os ∧ AllBare s'.gens ∧ Un (frs outer) [] H H' s.heap s'.heap ∧ HOk P w H' s'.heap ∧ RelV v u ∧ Q v H'
def CR (CX : CXT) (outer : List Env) (P : Program) (w : World) (H : Hp) (s : Shared) (Q : VK) (E : XK) (r : Result) (s' : Shared) : Prop :=
 match r with
 | .ok (.ret u) => CE outer P w H s Q u s'
 | .ok _ => False
 | .error e => CX outer H s E e s'
structure FnOk (P : Program) (w : World) (K : PySem.W.Frag) (mg : Str → Option Value) (base : Heap) (CX : CXT) (k : Nat) (f : Addr) (fd : FuncData) (ps : List Str) (sp : Sp) : Prop where
 len : ∀ vs H Q E,sp vs H Q E → vs.length = ps.length
 run : ∀ (A : Around) (outer : List Env) (s : Shared) (H : Hp) (args : Args) (us : List Value) (vs : List V) (Q : VK) (E : XK),Room k A → Env0 P w K mg base A outer s H → BindsTo s fd args (ps.zip us) → Vals vs us → sp vs H Q E →
  codeAny (model P w) A (.call (.ref f) args) (CR CX outer P w H s Q E) s
section
variable {X : Cx} {pins : List (Addr × Obj)} {σ : St} {H : Hp} {s s' : Shared}
theorem Inv.env0 (I : Inv X pins σ H s) : Env0 X.prog X.w X.K X.mg X.base X.A X.stack s H :=
 ⟨I.ok.frames,I.ok.mod,I.bs,Nat.le_trans I.ok.bsz I.sz,I.stack,I.stkFree,I.hok,I.bare⟩
theorem Inv.after {Q : VK} {u : Value} (I : Inv X pins σ H s) (h : CE X.stack X.prog X.w H s Q u s') : EP X pins σ Q u s' := by
 obtain ⟨v,H',os,bare,un,hok,r,q⟩ := h
 obtain ⟨hh,g,d,t,os'⟩ := s'
 obtain rfl : os' = s.os := os
 exact ⟨v,H',I.call (h' := hh) (g' := g) (d' := d) (t' := t) (ch := []) un hok bare (fun b z => absurd z (by simp)),r,q⟩
end
def jlE (sp : Sp) (dvs : List V) (E : XK) (t : TA) : TE := fun σ H Q => t σ H fun vs H1 => sp (vs ++ dvs) H1 Q E
def jdp (C : Addr) (sp : Sp) (dvs : List V) (E : XK) (t : TA) : TE := fun σ H Q => t σ H fun vs H1 => ∀ x dx,H1 x = none → H1 dx = none → dx ≠ x →
 sp (.ref x :: (vs ++ dvs)) (upd (upd H1 dx (.own x)) x (.ins C dx [])) (fun v H2 => v = .non ∧ Q (.ref x) H2) E
def Binds (K : PySem.W.Frag) (fd : FuncData) (ps : List Str) (ds : List Value) : Prop :=
 ∀ (s : Shared) (us : List Value),K.In s.heap → (us ++ ds).length = ps.length → BindsTo s fd ⟨us,[]⟩ (ps.zip (us ++ ds))
theorem Binds.all {K : PySem.W.Frag} {fd : FuncData} {ps : List Str} (h : ∀ us : List Value,us.length = ps.length → bindArgs fd ⟨us,[]⟩ = pure (ps.zip us)) : Binds K fd ps [] := fun s us _ hl => by
 rw [List.append_nil] at hl ⊢
 exact .of_eq (h us hl)
def Passes (CX : CXT) (X : Cx) (E : XK) : Prop := ∀ (pins : List (Addr × Obj)) (σ : St) (H : Hp) (s : Shared) (e : Value) (s' : Shared),Inv X pins σ H s → CX X.stack H s E e s' → X.xe e s'
section
variable {X : Cx} {CX : CXT} {k : Nat} {f C : Addr} {fd : FuncData} {ps : List Str} {sp : Sp} {dvs : List V} {ds : List Value} {E : XK} {x m : Str} {p pos apos : Pos} {e o : Expr} {es : List Expr} {ta : TE} {t : TA}
theorem jlG {pins : List (Addr × Obj)} {σ : St} {H : Hp} {s : Shared} {Q : VK} {us : List Value} {vs : List V} (F : FnOk X.prog X.w X.K X.mg X.base CX k f fd ps sp) (hr : Room k X.A) (hb : Binds X.K fd ps ds) (hd : Vals dvs ds) (hx : Passes CX X E)
  (I : Inv X pins σ H s) (r : Vals vs us) (h : sp (vs ++ dvs) H Q E) : wpAny (model X.prog X.w) X.A (call (.ref f) us) (EP X pins σ Q) X.xe s := by
 have r2 : Vals (vs ++ dvs) (us ++ ds) := r.append hd
 have hl : (us ++ ds).length = ps.length := by rw [← r2.length];exact F.len _ _ _ _ h
 refine wpAny_call (codeAny_mono (F.run X.A X.stack s H ⟨us,[]⟩ (us ++ ds) (vs ++ dvs) Q E hr I.env0 (hb s us I.kIn hl) r2 h) fun r s' hq => ?_)
 cases r with
 | error e => exact hx pins σ H s e s' I hq
 | ok fl =>
  cases fl with
  | ret u => exact I.after hq
  | next => exact False.elim hq
  | brk => exact False.elim hq
  | cont => exact False.elim hq
theorem jk2 (F : FnOk X.prog X.w X.K X.mg X.base CX k f fd ps sp) (hr : Room k X.A) (hg : Gl X x) (hm : X.mg x = some (.ref f)) (hk : PySem.W.keepIn X.K (.ref f) = true) (hb : Binds X.K fd ps ds) (hd : Vals dvs ds) (hx : Passes CX X E)
  (ha : PA X (e :: es) t) (hdb : (x == ("__debug__" : Str)) = false := by decide) (he : starEach (e :: es) X.env = (false,eval e X.env) :: starEach es X.env := by rfl) (hpl : (backTo pos (starEach es X.env)).any (·.1) = false := by rfl) :
  PE X (.Call (.Name x p) (e :: es) [] pos) (jlE sp dvs E t) := by
 intro pins s σ H Q I h
 refine wpAny_Call_Name_kw (jjc I hg hm ?_ hdb)
 refine PySem.W.callWith_K (h₀ := X.base) I.ok.mod.kin hk (thn (ha pos pins s σ H _ I h) fun us s1 ⟨vs,H1,I1,r,q⟩ => ⟨I1.kIn,?_⟩) he hpl
 exact jlG F hr hb hd hx I1 r q
end
section
variable {X : Cx} {CX : CXT} {k : Nat} {f C : Addr} {fd : FuncData} {ps ks : List Str} {sp : Sp} {E : XK} {x m : Str} {p pos apos kpos : Pos} {e o : Expr} {es : List Expr} {kws : List Keyword} {te ta : TE} {t tk : TA} {nm : Option Str}
variable {g : List Value → List Value → List Value} {gV : List V → List V → List V}
end
structure FnScope (N P : List Str) (sc : Scope) : Prop where
 kind : sc.kind = .function
 co : sc.isCoroutine = false
 gen : sc.isGenerator = false
 nd : N.Nodup
 pre : N.take P.length = P
 par : ∀ x ∈ P,sc.names.lookup x = some .local ∨ sc.names.lookup x = some .cell
 nofree : ∀ y ∈ sc.names,y.2 ≠ .free
theorem jgG {kindOf : Str → Option NameKind} {x : Str} : ∀ {binds : List (Str × Value)} {m : Str → Option Value},(∀ v,(x,v) ∉ binds) → bindL kindOf binds m x = m x
 | [],_,_ => rfl
 | (n,v) :: r,m,h => by
  unfold bindL
  rw [jgG fun w hw => h w (List.mem_cons_of_mem _ hw)]
  split
  ·have : x ≠ n := by rintro rfl;exact h v List.mem_cons_self
   simp [this]
  ·rfl
theorem jgI {kindOf : Str → Option NameKind} {x : Str} : ∀ {binds : List (Str × Value)} {m : Str → Option Value},(∀ v,(x,v) ∉ binds) → bindC kindOf binds m x = m x
 | [],_,_ => rfl
 | (n,v) :: r,m,h => by
  unfold bindC
  rw [jgI fun w hw => h w (List.mem_cons_of_mem _ hw)]
  split
  ·rfl
  ·have : x ≠ n := by rintro rfl;exact h v List.mem_cons_self
   simp [this]
theorem jgH {kindOf : Str → Option NameKind} {x : Str} {v : Value} : ∀ {P : List Str} {vs : List Value} {i : Nat} {m : Str → Option Value},P.Nodup → P[i]? = some x → vs[i]? = some v → kindOf x = some .local →
  bindL kindOf (P.zip vs) m x = some v
 | [],_,_,_,_,h,_,_ => by simp at h
 | _ :: _,[],_,_,_,_,h,_ => by simp at h
 | p :: P,w :: vs,0,m,nd,h1,h2,hk => by
  simp at h1 h2;subst h1;subst h2
  show bindL kindOf ((p,w) :: P.zip vs) m p = _
  unfold bindL
  rw [jgG fun v hv => (List.nodup_cons.mp nd).1 (List.of_mem_zip hv).1,if_pos hk]
  simp
 | p :: P,w :: vs,i + 1,m,nd,h1,h2,hk => by
  show bindL kindOf ((p,w) :: P.zip vs) m x = _
  unfold bindL
  exact jgH (i := i) (List.nodup_cons.mp nd).2 (by simpa using h1) (by simpa using h2) hk
theorem jgJ {kindOf : Str → Option NameKind} {x : Str} {v : Value} : ∀ {P : List Str} {vs : List Value} {i : Nat} {m : Str → Option Value},P.Nodup → P[i]? = some x → vs[i]? = some v → kindOf x ≠ some .local →
  bindC kindOf (P.zip vs) m x = some v
 | [],_,_,_,_,h,_,_ => by simp at h
 | _ :: _,[],_,_,_,_,h,_ => by simp at h
 | p :: P,w :: vs,0,m,nd,h1,h2,hk => by
  simp at h1 h2;subst h1;subst h2
  show bindC kindOf ((p,w) :: P.zip vs) m p = _
  unfold bindC
  rw [jgI fun v hv => (List.nodup_cons.mp nd).1 (List.of_mem_zip hv).1,if_neg hk]
  simp
 | p :: P,w :: vs,i + 1,m,nd,h1,h2,hk => by
  show bindC kindOf ((p,w) :: P.zip vs) m x = _
  unfold bindC
  exact jgJ (i := i) (List.nodup_cons.mp nd).2 (by simpa using h1) (by simpa using h2) hk
def start (N : List Str) (vs : List V) : St := vs.map some ++ List.replicate (N.length - vs.length) none
def cxOf (CX : CXT) (P : Program) (w : World) (K : PySem.W.Frag) (mg : Str → Option Value) (base : Heap) (N : List Str) (qual : Str) (scope : Scope) (f : Addr) (cd : Value) (A : Around) (outer : List Env) (s : Shared) (H : Hp) (E : XK) : Cx where
 prog := P
 w := w
 K := K
 mg := mg
 base := base
 A := A.deeper (envOfC qual scope s.heap.objs.size f cd)
 N := N
 s_0 := s
 H_0 := H
 env := envOfC qual scope s.heap.objs.size f cd
 outer := outer
 stack := envOfC qual scope s.heap.objs.size f cd :: outer
 ex := []
 calm := true
 fn := fun _ => true
 pn := []
 xe := fun e s' => wpAny (model P w) (A.deeper (envOfC qual scope s.heap.objs.size f cd)) (leaving (envOfC qual scope s.heap.objs.size f cd) e) (fun _ s'' => CX outer H s E e s'') (fun e' s'' => CX outer H s E e' s'') s'
theorem jh4 {sc : Scope} {n : Nat} {x : Str} (h : sc.names.lookup x = some .cell) : ∃ c,(cellsFrom n sc.names []).lookup x = some c := by
 have q := PySem.W.cellsFrom_some sc.names n [] (.inl h)
 exact Option.isSome_iff_exists.mp q
theorem jjk {CX : CXT} {P : Program} {w : World} {K : PySem.W.Frag} {mg : Str → Option Value} {base : Heap} {N ps : List Str} {qual : Str} {scope : Scope} {f : Addr} {cd : Value} {A : Around} {outer : List Env} {s s1 : Shared} {H : Hp} {E : XK} {us : List Value} {vs : List V}
  (S : FnScope N ps scope) (hd : A.handled = none) (e0 : Env0 P w K mg base A outer s H) (hl : vs.length = ps.length) (r : Vals vs us)
  (x : InCallC s s.heap.objs.size (bindL (envOfC qual scope s.heap.objs.size f cd).kindOf (ps.zip us) fun _ => none) (cellsFrom (s.heap.objs.size + 1) scope.names []) (bindC (envOfC qual scope s.heap.objs.size f cd).kindOf (ps.zip us) fun _ => none) s1) :
  Inv (cxOf CX P w K mg base N qual scope f cd A outer s H E) [] (start N vs) H s1 := by
 have hpl : ps.length ≤ N.length := by have := congrArg List.length S.pre;rw [List.length_take] at this;omega
 obtain ⟨h1,tk,rfl,hk⟩ := x.done
 have noA : ∀ b : Addr,b ∉ (cxOf CX P w K mg base N qual scope f cd A outer s H E).ex := fun b z => absurd (show b ∈ ([] : List Addr) from z) (by simp)
 refine ⟨⟨e0.mod,S.kind,rfl,rfl,Nat.le_refl _,fun y z c h1 h2 => ?_,fun y hy => ?_,fun y c _ h => ?_,fun _ => hd,Around.frames_deeper e0.frames,.inr ⟨rfl,rfl⟩,fun b z => absurd z (noA b),e0.bs,e0.bsz,fun b _ _ => noA b,fun b z => absurd z (noA b),e0.funs,e0.frf⟩,
  rfl,e0.bare,Un.kept hk,⟨_,x.toInCall.ns,fun i y v h1 h2 h3 => ?_⟩,fun y c h => ⟨_,x.cell y c h⟩,e0.hok.fresh (Nat.le_refl _),fun y c h => ?_,fun p hp => absurd (show p ∈ ([] : List (Addr × Obj)) from hp) (by simp),e0.hok.kept hk,?_⟩
 ·exact name_of_addr x.apart (PySem.mem_of_lookup h1) (PySem.mem_of_lookup h2)
 ·have hy : scope.names.lookup y = some .cell ∨ scope.names.lookup y = some .free := hy
  rcases hy with hy | hy
  ·exact jh4 hy
  ·exact absurd rfl (S.nofree _ (PySem.mem_of_lookup hy))
 ·exact Nat.le_of_lt (x.above y c (PySem.mem_of_lookup h))
 ·have hi : i < vs.length := by
   unfold start at h2
   by_cases hi : i < vs.length
   ·exact hi
   ·rw [List.getElem?_append_right (by simpa using hi)] at h2
    rw [List.getElem?_replicate] at h2
    split at h2 <;> cases h2
  have ha : vs[i]? = some v := by
   unfold start at h2
   rw [List.getElem?_append_left (by simpa using hi),List.getElem?_map] at h2
   cases e : vs[i]? with
   | none => rw [e] at h2;cases h2
   | some a => rw [e] at h2;cases h2;rfl
  obtain ⟨u,hu,rv⟩ := r.get ha
  have hp : ps[i]? = some y := by
   rw [← S.pre,List.getElem?_take_of_lt (by omega)];exact h1
  have ndP : ps.Nodup := by rw [← S.pre];exact S.nd.sublist (List.take_sublist _ _)
  refine ⟨u,rv,?_⟩
  rcases S.par y (List.mem_of_getElem? hp) with k | k
  ·exact .inl ⟨k,jgH ndP hp hu k⟩
  ·obtain ⟨c,e⟩ := jh4 (n := s.heap.objs.size + 1) k
   refine .inr ⟨.inl k,c,e,?_⟩
   have q := x.cell y c e
   rw [jgJ ndP hp hu (by show scope.names.lookup y ≠ _;rw [k];decide)] at q
   exact q
 ·exact e0.hok.fresh (Nat.le_of_lt (x.above y c (PySem.mem_of_lookup h)))
 ·unfold start
  show _ = N.length
  rw [List.length_append,List.length_map,List.length_replicate]
  omega
theorem jmZ {CX : CXT} {P : Program} {w : World} {K : PySem.W.Frag} {mg : Str → Option Value} {base : Heap} {k : Nat} {f : Addr} {name qual : Str} {params : Arguments} {body : List Stmt} {scope : Scope} {dV kV doc pm cdv ct oc : Value} {an od : Option Addr}
  {osl : Array (Option Value)} {N ps : List Str} {sp : Sp} (lk : K.lookup f = some ⟨oc,od,.func (PySem.W.fnOf name qual params body scope dV kV doc pm an cdv ct),osl⟩) (hcd : PySem.W.codeIn K cdv qual = true) (S : FnScope N ps scope)
  (len : ∀ vs H Q E,sp vs H Q E → vs.length = ps.length)
  (hbody : ∀ (A : Around) (outer : List Env) (s : Shared) (H : Hp) (vs : List V) (Q : VK) (E : XK),Room k (A.deeper (envOfC qual scope s.heap.objs.size f cdv)) → sp vs H Q E →
   ∃ t,PSs (cxOf CX P w K mg base N qual scope f cdv A outer s H E) body t ∧ t { nx := fun _ H' => Q .non H',rt := Q } (start N vs) H) :
  FnOk P w K mg base CX (k + 1) f (PySem.W.fnOf name qual params body scope dV kV doc pm an cdv ct) ps sp := by
 refine ⟨len,fun A outer s H args us vs Q E hr e0 hb r hsp => ?_⟩
 have hl := len _ _ _ _ hsp
 have KX : K.In s.heap := e0.mod.kin.keeps fun b o e => (e0.bs b o e).1
 have lim : s.heap.NoLimit := e0.mod.nolimit.keeps fun b o e => (e0.bs b o e).1
 have hkind : ∀ y ∈ ps.zip us,scope.names.lookup y.1 = some .local ∨ (scope.names.lookup y.1 = some .cell ∧ ((cellsFrom (s.heap.objs.size + 1) scope.names []).lookup y.1).isSome = true) := fun ⟨n,v⟩ hy => by
  rcases S.par n (List.of_mem_zip hy).1 with q | q
  ·exact .inl q
  ·exact .inr ⟨q,PySem.W.cellsFrom_some _ _ _ (.inl q)⟩
 refine codeAny_call_function hr.depth (KX _ _ lk) rfl S.co S.gen rfl (PySem.W.codeRec_of KX hcd) (hb _ _ _ _ ?_)
 refine wpAny_newFunctionEnv_cells S.kind hkind fun env he s1 x => ?_
 subst he
 refine ⟨lim.keeps x.toInCall.keep,codeAny_func ?_⟩
 obtain ⟨t,ht,hq⟩ := hbody A outer s H vs Q E (hr.deeper _) hsp
 have I : Inv (cxOf CX P w K mg base N qual scope f cdv A outer s H E) [] (start N vs) H s1 := jjk S hr.hd e0 hl r x
 refine wpAny_mono (ht [] s1 (start N vs) H _ I hq) (fun fl s' hs => ?_) fun e s' hs => hs
 have fin : ∀ {σ' : St} {H' : Hp} {v : V} {u : Value},Inv (cxOf CX P w K mg base N qual scope f cdv A outer s H E) [] σ' H' s' → RelV v u → Q v H' → CE outer P w H s Q u s' :=
  fun {σ' H' v u} J rv q => ⟨v,H',J.os,J.bare,J.base,J.hok,rv,q⟩
 cases fl with
 | ret u =>
  obtain ⟨v,σ',H',J,rv,q⟩ := hs
  exact fin J rv q
 | next =>
  obtain ⟨σ',H',J,q⟩ := hs
  exact fin (v := V.non) (u := Value.none) J rfl q
 | brk =>
  obtain ⟨_,_,_,q⟩ := hs
  exact False.elim q
 | cont =>
  obtain ⟨_,_,_,q⟩ := hs
  exact False.elim q
end L2
namespace L2
open PySem PySem.Spec PyProof.Rows
section
variable {X : Cx} {x : Str} {p pos : Pos} {e : Expr} {es : List Expr} {t : TA} {id T : String} {r : List V → Hp → VK → Prop}
def tCB (r : List V → Hp → VK → Prop) (t : TA) : TE := fun σ H Q => t σ H fun vs H1 => r vs H1 Q
theorem jj7 (hc : CallR X (.builtin id) r) (hg : Gl X x) (hm : X.mg x = none) (hv : bootBuiltins x = some (.builtin id)) (ha : PA X (e :: es) t) (hn : x ≠ "__name__" := by decide) (hdb : (x == ("__debug__" : Str)) = false := by decide)
  (he : starEach (e :: es) X.env = (false,eval e X.env) :: starEach es X.env := by rfl) (hpl : (backTo pos (starEach es X.env)).any (·.1) = false := by rfl) : PE X (.Call (.Name x p) (e :: es) [] pos) (tCB r t) := by
 intro pins s σ H Q I h
 refine wpAny_Call_Name_kw (jcM I hg hm hv ?_ hn hdb)
 exact PyProof.Rows.callWith_builtin1 (thn (ha pos pins s σ H _ I h) fun us s1 ⟨vs,H1,I1,r1,q1⟩ => hc pins s1 σ H1 vs us Q I1 r1 q1) he hpl
theorem jiY (hc : CallR X (.type T) r) (hg : Gl X x) (hm : X.mg x = none) (hv : bootBuiltins x = some (.type T)) (ha : PA X (e :: es) t) (hn : x ≠ "__name__" := by decide) (hdb : (x == ("__debug__" : Str)) = false := by decide)
  (he : starEach (e :: es) X.env = (false,eval e X.env) :: starEach es X.env := by rfl) (hpl : (backTo pos (starEach es X.env)).any (·.1) = false := by rfl) : PE X (.Call (.Name x p) (e :: es) [] pos) (tCB r t) := by
 intro pins s σ H Q I h
 refine wpAny_Call_Name_kw (jcM I hg hm hv ?_ hn hdb)
 exact PyProof.Rows.callWith_type1 (thn (ha pos pins s σ H _ I h) fun us s1 ⟨vs,H1,I1,r1,q1⟩ => hc pins s1 σ H1 vs us Q I1 r1 q1) he hpl
end
end L2
namespace HT
open PySem PyProof.Rows
section
open PySem.SeqAt
open PySem.AutoSeq1 (wpAny_loadPart')
open PySem.MeetsSeq PySem.MeetsSeq2 PySem.MeetsSeq3
end
section
variable {prog : Program} {w : World} {A : Around} {E : Value → Shared → Prop} {s : Shared}
theorem cat_tup {t b : Addr} {vs ws : List Value} {Q : Value → Shared → Prop} (ht : IsTup s.heap t vs.toArray) (hb : IsTup s.heap b ws.toArray) (hv : vs ≠ [])
  (h1 : ws = [] → Q (.ref t) s) (h2 : ws ≠ [] → Q (.ref s.heap.objs.size) { s with heap := s.heap.push { cls := .type "tuple",data := .seq (vs ++ ws).toArray } })
  (hsz : vs.length + ws.length ≤ sizeLine) : wpAny (model prog w) A (binaryOp .Add (.ref t) (.ref b)) Q E s := by
 obtain ⟨⟨cls,dd,data,sl⟩,ho,hc,n,hd⟩ := id ht
 obtain ⟨⟨cls2,dd2,data2,sl2⟩,ho2,hc2,n2,hd2⟩ := id hb
 simp only at hc hd hc2 hd2
 subst hc hd hc2 hd2
 have e : vs.toArray ++ ws.toArray = (vs ++ ws).toArray := by simp
 by_cases hw : ws = []
 ·exact concat_meets ⟨_,ho,rfl⟩ ⟨_,ho2,rfl⟩ noFill_tuple_add seq_tuple_add PySem.F.slot_tuple_add PySem.F.entry_tuple_add (PySem.F.args_tuple_add_2 _ _)
   (tuple_addW1 t b vs.toArray ws.toArray n n2 dd dd2 sl sl2 (by simpa using hv) (by simp [hw])) ⟨ho,ho2,h1 hw⟩
 ·refine concat_meets ⟨_,ho,rfl⟩ ⟨_,ho2,rfl⟩ noFill_tuple_add seq_tuple_add PySem.F.slot_tuple_add PySem.F.entry_tuple_add (PySem.F.args_tuple_add_2 _ _)
   (tuple_addW2 t b vs.toArray ws.toArray n n2 dd dd2 sl sl2 (by simpa using hv) (by simpa using hw) (by rw [List.size_toArray,List.size_toArray];exact hsz)) ⟨ho,ho2,?_⟩
  rw [e]
  exact h2 hw
def sIx (n d : Nat) : Option Int → Nat
 | none => d
 | some v => if v < 0 then (v + (n : Int)).toNat else min v.toNat n
theorem sIx_nat (n d k : Nat) : sIx n d (some (k : Int)) = min k n := by
 show (if (k : Int) < 0 then ((k : Int) + (n : Int)).toNat else min (k : Int).toNat n) = min k n
 rw [if_neg (by omega),Int.toNat_natCast]
theorem jlF (n d : Nat) (hd : d ≤ n) (o : Option Int) : sIx n d o ≤ n := by
 cases o with
 | none => exact hd
 | some v =>
  show (if v < 0 then (v + (n : Int)).toNat else min v.toNat n) ≤ n
  by_cases hv : v < 0
  ·rw [if_pos hv];omega
  ·rw [if_neg hv];exact Nat.min_le_right _ _
theorem jjB (v : Int) (n d : Nat) : (if v < 0 then max (v + (n : Int)) 0 else min v (n : Int)) = ((sIx n d (some v) : Nat) : Int) := by
 show (if v < 0 then max (v + (n : Int)) 0 else min v (n : Int)) = (((if v < 0 then (v + (n : Int)).toNat else min v.toNat n) : Nat) : Int)
 by_cases hv : v < 0
 ·simp only [if_pos hv];omega
 ·simp only [if_neg hv];omega
theorem jit (lo hi : Option Int) (n : Nat) : Builtin.Slice.sliceAdjust lo hi 1 (n : Int) = (((sIx n 0 lo : Nat) : Int),((sIx n n hi : Nat) : Int)) := by
 have h1 : ¬ ((1 : Int) < 0) := by omega
 unfold Builtin.Slice.sliceAdjust
 simp only [h1,if_false]
 refine Prod.ext ?_ ?_
 ·cases lo with
  | none => rfl
  | some v => exact jjB v n 0
 ·cases hi with
  | none => rfl
  | some v => exact jjB v n n
theorem jih (i j : Nat) : Builtin.Slice.slicePlaces (i : Int) (j : Int) 1 = j - i := by
 unfold Builtin.Slice.slicePlaces
 have h1 : (1 : Int) > 0 := by omega
 simp only [h1,if_true,Int.ediv_one]
 split <;> omega
theorem jcb {v : Value} {o : Option Int} {Q : Option Int → Shared → Prop} (p : IsPart v o) (h : Q o s) : wpAny (model prog w) A (Builtin.Slice.slicePartIndex v) Q E s := by
 cases p with
 | none => exact slicePart_none h
 | int i t => exact slicePart_int h
theorem jcX {sl : Addr} {vl vu : Value} {lo hi : Option Int} {n : Nat} {Q : Int × Int × Nat → Shared → Prop} (hs : s.heap.IsSliceOf sl vl vu .none) (pl : IsPart vl lo) (pu : IsPart vu hi)
  (h : Q (((sIx n 0 lo : Nat) : Int),1,sIx n n hi - sIx n 0 lo) s) : wpAny (model prog w) A (Builtin.Slice.sliceApplied (.ref sl) (pure (n : Int))) Q E s := by
 obtain ⟨os,hos,hcs,hds⟩ := id hs
 unfold Builtin.Slice.sliceApplied Builtin.Slice.sliceFields
 refine wpAny_bind (wpAny_bind (wpAny_field hos hds (x := vl) rfl (wpAny_bind (wpAny_field hos hds (x := vu) rfl (wpAny_bind (wpAny_field hos hds (x := .none) rfl (wpAny_pure ?_)))))))
 refine wpAny_bind (slicePart_none ?_)
 show wpAny _ _ (if ((1 : Int) == 0) = true then _ else _) _ _ s
 rw [if_neg (by decide)]
 refine wpAny_bind (jcb pl (wpAny_bind (jcb pu (wpAny_bind (wpAny_pure ?_)))))
 show wpAny _ _ (match Builtin.Slice.sliceAdjust lo hi 1 (n : Int) with | (lo,hi) => pure (lo,(1 : Int),Builtin.Slice.slicePlaces lo hi 1)) _ _ s
 rw [jit lo hi n]
 show wpAny _ _ (pure (((sIx n 0 lo : Nat) : Int),(1 : Int),Builtin.Slice.slicePlaces ((sIx n 0 lo : Nat) : Int) ((sIx n n hi : Nat) : Int) 1)) _ _ s
 rw [jih]
 exact wpAny_pure h
theorem jj4 (xs : Array Value) (i k : Nat) : ((List.range k).filterMap fun (m : Nat) => xs[((i : Int) + (m : Int) * 1).toNat]?).toArray = ((xs.toList.drop i).take k).toArray := by
 have e : (fun (m : Nat) => xs[((i : Int) + (m : Int) * 1).toNat]?) = fun m => xs[i + m]? := by
  funext m
  have : ((i : Int) + (m : Int) * 1).toNat = i + m := by omega
  rw [this]
 rw [e]
 have := pick_run xs i k
 rw [List.filterMap_map] at this
 have e2 : ((fun x => xs[x]?) ∘ fun x => i + x) = fun m => xs[i + m]? := rfl
 rw [e2] at this
 rw [this]
theorem getItem_tuple_cut {t sl : Addr} {items : Array Value} {vl vu : Value} {lo hi : Option Int} {Q : Value → Shared → Prop} (ht : IsTup s.heap t items) (hs : s.heap.IsSliceOf sl vl vu .none) (pl : IsPart vl lo) (pu : IsPart vu hi)
  (hw : ¬ (sIx items.size 0 lo = 0 ∧ sIx items.size items.size hi = items.size))
  (h : Q (.ref s.heap.objs.size) { s with heap := s.heap.push { cls := .type "tuple",data := .seq ((items.toList.drop (sIx items.size 0 lo)).take (sIx items.size items.size hi - sIx items.size 0 lo)).toArray } })
  (hsz : items.size ≤ sizeLine) : wpAny (model prog w) A (getItem (.ref t) (.ref sl)) Q E s := by
 have htake : sizeOk (.seq ((items.toList.drop (sIx items.size 0 lo)).take (sIx items.size items.size hi - sIx items.size 0 lo)).toArray) := by
  show ((items.toList.drop (sIx items.size 0 lo)).take (sIx items.size items.size hi - sIx items.size 0 lo)).toArray.size ≤ sizeLine
  rw [List.size_toArray,List.length_take,List.length_drop,Array.length_toList]
  omega
 have hj : sIx items.size items.size hi ≤ items.size := jlF _ _ (Nat.le_refl _) hi
 obtain ⟨os,hos,hcs,hds⟩ := id hs
 have hTs : s.TypeIs (.ref sl) "slice" := ⟨os,hos,hcs⟩
 unfold getItem
 try with_reducible refine wpAny_holding ?_
 first | refine wpAny_bind (wpAny_pure ?_) | skip
 refine wpAny_bind (wpAny_sequenceKey ht.typeIs (by decide) ?_)
 refine wpAny_bind (wpAny_callSpecial?_slot (name := Str.ofString "__getitem__") ht.typeIs PyProof.Rows.slot_tuple_getitem
  (wpAny_call_entry PyProof.Rows.slot_tuple_getitem ht.typeIs entry_tuple_getitem ?_ (args_tuple_getitem _ _)))
 show wpAny _ _ (Builtin.Tuple.tupleItemsOf (.ref t) >>= _) _ _ s
 refine wpAny_bind (tupleItemsOf_ ht ?_)
 refine wpAny_bind (wpAny_typeOf hTs ?_)
 rw [if_pos (by decide)]
 refine wpAny_bind (jcX hs pl pu ?_)
 have hno : ¬ ((((sIx items.size 0 lo : Nat) : Int) == 0 && (1 : Int) == 1 && (sIx items.size items.size hi - sIx items.size 0 lo) == items.size) = true) := by
  intro q
  rw [Bool.and_eq_true,Bool.and_eq_true] at q
  have q1 : ((sIx items.size 0 lo : Nat) : Int) = 0 := eq_of_beq q.1.1
  have q2 : sIx items.size items.size hi - sIx items.size 0 lo = items.size := eq_of_beq q.2
  exact hw ⟨by omega,by omega⟩
 show wpAny _ _ (if (((sIx items.size 0 lo : Nat) : Int) == 0 && (1 : Int) == 1 && (sIx items.size items.size hi - sIx items.size 0 lo) == items.size) = true then _ else _) _ _ s
 rw [if_neg hno,jj4]
 first
  | exact wpAny_bind (m := Builtin.Tuple.tupleExact _) (wpAny_newObj_type (wpAny_pure ⟨_,rfl,wpAny_pure h⟩) htake)
  | exact wpAny_bind (m := Builtin.Tuple.tupleExact _) (wpAny_newObj_type (wpAny_bind (wpAny_pure (wpAny_pure ⟨_,rfl,wpAny_pure h⟩))) htake)
  | exact wpAny_bind (wpAny_bind (m := Builtin.Tuple.tupleExact _) (wpAny_newObj_type (wpAny_pure (wpAny_pure ⟨_,rfl,wpAny_pure h⟩)) htake))
  | exact wpAny_bind (wpAny_bind (m := Builtin.Tuple.tupleExact _) (wpAny_newObj_type (wpAny_pure ⟨_,rfl,wpAny_pure h⟩) htake))
end
end HT
namespace L2
open PySem PySem.Spec PyProof.Rows
abbrev TO := St → Hp → (Option Int → Hp → Prop) → Prop
def PO (X : Cx) (e : Option Expr) (t : TO) : Prop :=
 ∀ (pins : List (Addr × Obj)) (s : Shared) (σ : St) (H : Hp) (Q : Option Int → Hp → Prop),Inv X pins σ H s → t σ H Q →
  wpAny (model X.prog X.w) X.A (evalPart e X.env) (fun u s' => ∃ o H',Inv X pins σ H' s' ∧ IsPart u o ∧ Q o H') X.xe s
def tNoPart : TO := fun _ H Q => Q none H
def tPart (t : TE) : TO := fun σ H Q => t σ H fun x H1 => ∃ i,x = .int i ∧ Q (some i) H1
section
variable {X : Cx} {e : Expr} {te : TE} {lo hi : Option Expr} {tl th : TO} {pos p2 : Pos}
theorem po_none : PO X none tNoPart := by
 intro pins s σ H Q I h
 rw [evalPart_none]
 exact wpAny_pure ⟨none,H,I,.none,h⟩
theorem po_some (h : PE X e te) : PO X (some e) (tPart te) := by
 intro pins s σ H Q I hw
 rw [evalPart_some]
 refine thn (h pins s σ H _ I hw) fun u s1 ⟨x,H1,I1,r1,q1⟩ => ?_
 obtain ⟨i,rfl,q⟩ := q1
 obtain ⟨t,rfl⟩ := r1
 exact ⟨some i,H1,I1,.int i t,q⟩
def SlR (X : Cx) (r : V → Option Int → Option Int → Hp → VK → Prop) : Prop :=
 ∀ (pins : List (Addr × Obj)) (s : Shared) (σ : St) (H : Hp) (x : V) (v vl vu : Value) (lo hi : Option Int) (sl : Addr) (Q : VK),Inv X pins σ H s → RelV x v → s.heap.IsSliceOf sl vl vu .none → IsPart vl lo → IsPart vu hi → r x lo hi H Q →
  ∃ T id,typeLookup (.type T) "__getitem__" = pure (some (.builtin id)) ∧ s.TypeIs v T ∧ wpAny (model X.prog X.w) X.A (getItem v (.ref sl)) (EP X pins σ Q) X.xe s
def tSl (r : V → Option Int → Option Int → Hp → VK → Prop) (te : TE) (tl th : TO) : TE := fun σ H Q => te σ H fun x H1 => tl σ H1 fun l H2 => th σ H2 fun u H3 => r x l u H3 Q
theorem pe_slice {r : V → Option Int → Option Int → Hp → VK → Prop} (hr : SlR X r) (he : PE X e te) (hl : PO X lo tl) (hu : PO X hi th) : PE X (.Subscript e (.Slice lo hi none p2) pos) (tSl r te tl th) := by
 intro pins s σ H Q I h
 refine Subscript_ (thn (he pins s σ H _ I h) fun v s1 ⟨x,H1,I1,r1,q1⟩ => ?_)
 refine wpAny_Slice (thn (hl pins s1 σ H1 _ I1 q1) fun vl s2 ⟨l,H2,I2,pl,q2⟩ => thn (hu pins s2 σ H2 _ I2 q2) fun vu s3 ⟨u,H3,I3,pu,q3⟩ => ?_)
 rw [evalPart_none]
 refine wpAny_pure ?_
 have I4 : Inv X pins σ H3 { s3 with heap := s3.heap.push { cls := .type "slice",data := .fields #[vl,vu,.none] } } := I3.kept (t' := s3.toks) fun b ob q => Heap.get?_push_of_some _ q
 obtain ⟨T,id,hT,ht,hg⟩ := hr pins { s3 with heap := s3.heap.push { cls := .type "slice",data := .fields #[vl,vu,.none] } } σ H3 x v vl vu l u s3.heap.objs.size Q I4 r1 (Heap.IsSliceOf.new ..) pl pu q3
 show wpAny (model X.prog X.w) X.A (subscriptTail e (.Slice lo hi none p2) v (.ref s3.heap.objs.size)) (EP X pins σ Q) X.xe { s3 with heap := s3.heap.push { cls := .type "slice",data := .fields #[vl,vu,.none] } }
 exact tail_any (ops := [.ref s3.heap.objs.size,v]) ht hT hg (by with_unfolding_all rfl)
def cutV (xs : List V) (lo hi : Option Int) : List V := (xs.drop (HT.sIx xs.length 0 lo)).take (HT.sIx xs.length xs.length hi - HT.sIx xs.length 0 lo)
theorem jd9 (xs : List V) (lo hi : Option Int) : (cutV xs lo hi).length ≤ xs.length := by
 unfold cutV
 rw [List.length_take,List.length_drop]
 omega
def rSlT (K : PySem.W.Frag) : V → Option Int → Option Int → Hp → VK → Prop := fun x lo hi H Q => ∃ a xs,x = .ref a ∧ SqT K H a xs ∧
 ¬ (HT.sIx xs.length 0 lo = 0 ∧ HT.sIx xs.length xs.length hi = xs.length) ∧ ∀ p,H p = none → Q (.ref p) (upd H p (.tup (cutV xs lo hi)))
theorem sl_tup : SlR X (rSlT X.K) := by
 intro pins s σ H x v vl vu lo hi sl Q I rx hs pl pu h
 obtain ⟨a,xs,rfl,hx,hw,q⟩ := h
 cases rx
 obtain ⟨its,r,ht,hz⟩ := I.tuple hx
 have hlen : its.toArray.size = xs.length := by rw [List.size_toArray];exact r.length.symm
 refine ⟨"tuple",_,PyProof.Rows.slot_tuple_getitem.lookup,ht.typeIs,?_⟩
 refine HT.getItem_tuple_cut ht hs pl pu (by rw [hlen];exact hw) ?_ (by rw [hlen];exact hz)
 rw [hlen]
 refine ⟨.ref s.heap.objs.size,_,I.laid (t' := s.toks) (o := .tup (cutV xs lo hi)) (fun b ob q => Heap.get?_push_of_some _ q) (Nat.le_refl _) ?_,rfl,q _ (I.hok.fresh (Nat.le_refl _))⟩
 exact ⟨Nat.le_trans (jd9 xs lo hi) hz,_,(r.drop (HT.sIx xs.length 0 lo)).take (HT.sIx xs.length xs.length hi - HT.sIx xs.length 0 lo),IsTup.new _ _⟩
def jmt (K : PySem.W.Frag) : R2 := fun x y H Q => ∃ a b xs ys,x = .ref a ∧ y = .ref b ∧ SqT K H a xs ∧ SqT K H b ys ∧ xs ≠ [] ∧ xs.length + ys.length ≤ sizeLine ∧
 (ys = [] → Q (.ref a) H) ∧ (ys ≠ [] → ∀ p,H p = none → Q (.ref p) (upd H p (.tup (xs ++ ys))))
theorem Vals.nil_iff {xs : List V} {us : List Value} (r : Vals xs us) : us = [] ↔ xs = [] := by
 cases r with
 | nil => simp
 | cons _ _ => simp
theorem op_catT : OpR X (binaryOp .Add) (jmt X.K) := by
 intro pins s σ H x y v u Q I rx ry h
 obtain ⟨a,b,xs,ys,rfl,rfl,ha,hb,hx,hz,q1,q2⟩ := h
 cases rx
 cases ry
 obtain ⟨its,r1,p1,_⟩ := I.tuple ha
 obtain ⟨its2,r2,p2,_⟩ := I.tuple hb
 refine HT.cat_tup p1 p2 (fun z => hx (r1.nil_iff.mp z)) (fun z => ⟨.ref a,H,I,rfl,q1 (r2.nil_iff.mp z)⟩) (fun z => ?_) (by rw [← r1.length,← r2.length];exact hz)
 refine ⟨.ref s.heap.objs.size,_,I.laid (t' := s.toks) (o := .tup (xs ++ ys)) (fun b ob q => Heap.get?_push_of_some _ q) (Nat.le_refl _) ?_,rfl,q2 (fun w => z (r2.nil_iff.mpr w)) _ (I.hok.fresh (Nat.le_refl _))⟩
 exact ⟨by rw [List.length_append];exact hz,_,r1.append r2,IsTup.new _ _⟩
end
end L2
namespace L2
open PySem PySem.Spec PyProof.Rows
def ixN (n : Nat) (i : Int) : Option Nat := if 0 ≤ i then (if i < n then some i.toNat else none) else if -(n : Int) ≤ i then some (i + n).toNat else none
def atI {α : Type} (xs : List α) (i : Int) : Option α := (ixN xs.length i).bind fun j => xs[j]?
theorem jji {n : Nat} {i : Int} {j : Nat} (h : ixN n i = some j) : seqIndex? i n = some j ∧ j < n ∧ -(n : Int) ≤ i ∧ i < n := by
 unfold ixN at h
 by_cases h0 : 0 ≤ i
 ·rw [if_pos h0] at h
  by_cases h1 : i < n
  ·rw [if_pos h1] at h
   have e : i.toNat = j := Option.some.inj h
   exact ⟨by rw [seqIndex_of h0 h1,e],by omega,by omega,h1⟩
  ·rw [if_neg h1] at h;cases h
 ·rw [if_neg h0] at h
  by_cases h1 : -(n : Int) ≤ i
  ·rw [if_pos h1] at h
   have e : (i + n).toNat = j := Option.some.inj h
   exact ⟨by rw [seqIndex_neg (by omega) h1,e],by omega,h1,by omega⟩
  ·rw [if_neg h1] at h;cases h
theorem jhn {α : Type} {xs : List α} {i : Int} {v : α} (h : atI xs i = some v) : ∃ j,seqIndex? i xs.length = some j ∧ xs[j]? = some v ∧ j < xs.length ∧ -(xs.length : Int) ≤ i ∧ i < xs.length := by
 unfold atI at h
 cases e : ixN xs.length i with
 | none => rw [e] at h;cases h
 | some j =>
  rw [e] at h
  obtain ⟨h1,h2,h3,h4⟩ := jji e
  exact ⟨j,h1,h,h2,h3,h4⟩
theorem jhm {α : Type} {xs : List α} {j : Nat} {v : α} (h : xs[j]? = some v) : atI xs (j : Int) = some v := by
 have hj : j < xs.length := (List.getElem?_eq_some_iff.mp h).1
 have e : ixN xs.length (j : Int) = some j := by
  unfold ixN
  rw [if_pos (by omega),if_pos (by omega)];simp
 unfold atI;rw [e];exact h
theorem jdk {α : Type} (xs : List α) (v : α) : atI (xs ++ [v]) (-1) = some v := by
 have hl : (xs ++ [v]).length = xs.length + 1 := by simp
 have e : ixN (xs ++ [v]).length (-1) = some xs.length := by
  unfold ixN
  rw [hl,if_neg (by decide),if_pos (by omega)]
  congr 1
  omega
 unfold atI
 rw [e]
 show (xs ++ [v])[xs.length]? = some v
 simp
def PlainIx (b : Expr) : Prop := ∀ o i,subscripted b false o i = operate [o,i] (getItem o i)
def IxR (X : Cx) (r : R2) : Prop :=
 ∀ (value slice : Expr) (pins : List (Addr × Obj)) (s : Shared) (σ : St) (H : Hp) (x y : V) (v u : Value) (Q : VK),Inv X pins σ H s → RelV x v → RelV y u → r x y H Q →
  subscripted slice false v u = operate [v,u] (getItem v u) → wpAny (model X.prog X.w) X.A (subscriptTail value slice v u) (EP X pins σ Q) X.xe s
def MtR (X : Cx) (id : String) (r : V → List V → Hp → VK → Prop) : Prop :=
 ∀ (pins : List (Addr × Obj)) (s : Shared) (σ : St) (H : Hp) (x : V) (xs : List V) (v : Value) (us : List Value) (Q : VK),Inv X pins σ H s → RelV x v → Vals xs us → r x xs H Q →
  wpAny (model X.prog X.w) X.A (call (.builtin id) (v :: us)) (EP X pins σ Q) X.xe s
section
variable {X : Cx} {a b : Expr} {ta tb : TE} {pos : Pos}
theorem IxR.or {r r' : R2} (h : IxR X r) (h' : IxR X r') : IxR X (fun x y H Q => r x y H Q ∨ r' x y H Q) := by
 intro value slice pins s σ H x y v u Q I rx ry q hs
 rcases q with q | q
 ·exact h value slice pins s σ H x y v u Q I rx ry q hs
 ·exact h' value slice pins s σ H x y v u Q I rx ry q hs
theorem pe_ix {r : R2} (hr : IxR X r) (ha : PE X a ta) (hb : PE X b tb) (hs : PlainIx b) : PE X (.Subscript a b pos) (tOp r ta tb) := by
 intro pins s σ H Q I h
 exact Subscript_ (binT ha hb I h fun v u s2 x y H2 I2 rx ry q => hr a b pins s2 σ H2 x y v u Q I2 rx ry q (hs _ _))
def rIxL (K : PySem.W.Frag) : R2 := fun x y H Q => ∃ p xs i v,x = .ref p ∧ y = .int i ∧ SqL K H p xs ∧ atI xs i = some v ∧ Q v H
def rIxT (K : PySem.W.Frag) : R2 := fun x y H Q => ∃ p xs i v,x = .ref p ∧ y = .int i ∧ SqT K H p xs ∧ atI xs i = some v ∧ Q v H
def rIxS : R2 := fun x y H Q => ∃ z i c,x = .str z ∧ y = .int i ∧ z.length ≤ sizeLine ∧ atI z.cps.toList i = some c ∧ Q (.str ⟨#[c]⟩) H
theorem ix_list : IxR X (rIxL X.K) := by
 intro value slice pins s σ H x y v u Q I rx ry h hs
 obtain ⟨p,xs,i,z,rfl,rfl,hq,he,q⟩ := h
 cases rx
 obtain ⟨t,rfl⟩ := ry
 obtain ⟨its,r,pl,hz⟩ := I.list hq
 obtain ⟨j,h1,h2,h3,h4,h5⟩ := jhn he
 obtain ⟨w,ew,rw'⟩ := r.get h2
 have hl := r.length
 have hn := jdM
 have fin : EP X pins σ Q w s := ⟨z,H,I,rw',q⟩
 by_cases h0 : 0 ≤ i
 ·have hj : i.toNat = j := by
   rw [seqIndex_of h0 h5] at h1
   exact Option.some.inj h1
  exact item_listR pl.isList h0 (by omega) (by rw [hj];simpa using ew) fin hs
 ·have hj : (i + (its.toArray.size : Int)).toNat = j := by
   rw [seqIndex_neg (by omega) h4] at h1
   rw [List.size_toArray,← hl]
   exact Option.some.inj h1
  exact subscriptTail_builtinR (x := w) pl.isList.typeIs slot_list_getitem.lookup
   (wpAny_getItem_list_neg (Q := fun r s' => r = w ∧ EP X pins σ Q r s') pl.isList (by omega) (by rw [List.size_toArray] <;> omega) (by omega) (by rw [hj];simpa using ew) ⟨rfl,fin⟩) hs
theorem ix_tup : IxR X (rIxT X.K) := by
 intro value slice pins s σ H x y v u Q I rx ry h hs
 obtain ⟨p,xs,i,z,rfl,rfl,hq,he,q⟩ := h
 cases rx
 obtain ⟨t,rfl⟩ := ry
 obtain ⟨its,r,pl,hz⟩ := I.tuple hq
 obtain ⟨j,h1,h2,h3,h4,h5⟩ := jhn he
 obtain ⟨w,ew,rw'⟩ := r.get h2
 have hl := r.length
 have hn := jdM
 have fin : EP X pins σ Q w s := ⟨z,H,I,rw',q⟩
 exact subscriptTail_builtinR (x := w) pl.typeIs slot_tuple_getitem.lookup
  (getItem_tuple (j := j) (Q := fun r s' => r = w ∧ EP X pins σ Q r s') pl (by omega) (by omega) (by rw [List.size_toArray,← hl];exact h1) (by simpa using ew) ⟨rfl,fin⟩) hs
theorem jkE : IxR X rIxS := by
 intro value slice pins s σ H x y v u Q I rx ry h hs
 obtain ⟨z,i,c,rfl,rfl,hz,he,q⟩ := h
 obtain ⟨t,rfl⟩ := rx
 obtain ⟨t',rfl⟩ := ry
 obtain ⟨j,h1,h2,h3,h4,h5⟩ := jhn he
 have hl : z.cps.toList.length = z.length := by simp [Str.length]
 rw [hl] at h1 h4 h5
 have hn := jdM
 exact tail_any (typeIs_str s z t) slot_str_getitem.lookup (getItem_str (c := c) (by
  have e1 : decide (i < -(2 ^ 63 : Int)) = false := decide_eq_false (by omega)
  have e2 : decide (i ≥ 2 ^ 63) = false := decide_eq_false (by omega)
  rw [e1,e2,Bool.or_false]) (by rw [h1];simpa using h2) ⟨.str ⟨#[c]⟩,H,I.tok _,⟨_,rfl⟩,q⟩) hs
def rIx (K : PySem.W.Frag) : R2 := fun x y H Q => rIxL K x y H Q ∨ rIxT K x y H Q ∨ rIxS x y H Q
theorem jkF : IxR X (rIx X.K) := ix_list.or (ix_tup.or jkE)
theorem jik (its : List Value) (n j : Nat) (u : Value) : Obj.mapSeq (·.setIfInBounds j u) { cls := .type "list",data := .seq its.toArray n } = { cls := .type "list",data := .seq (its.set j u).toArray n } := by
 simp [Obj.mapSeq]
theorem Inv.lst {pins : List (Addr × Obj)} {σ : St} {H : Hp} {s : Shared} {p : Addr} {xs : List V} (I : Inv X pins σ H s) (h : H p = some (.lst xs)) :
  ∃ (its : List Value) (n : Nat),Vals xs its ∧ s.heap.get? p = some { cls := .type "list",data := .seq its.toArray n } ∧ xs.length ≤ sizeLine := by
 obtain ⟨z,its,n,r,e⟩ := I.hok p _ h
 exact ⟨its,n,r,e,z⟩
theorem Inv.lstUpd {pins : List (Addr × Obj)} {σ : St} {H : Hp} {s : Shared} {p : Addr} {xs ys : List V} {its its' : List Value} {n n' : Nat} {f : Obj → Obj} (I : Inv X pins σ H s) (h : H p = some (.lst xs))
  (ho : s.heap.get? p = some { cls := .type "list",data := .seq its.toArray n }) (hf : f { cls := .type "list",data := .seq its.toArray n } = { cls := .type "list",data := .seq its'.toArray n' }) (r : Vals ys its') (hz : ys.length ≤ sizeLine) (t : Nat) :
  Inv X pins σ (upd H p (.lst ys)) { s with heap := s.heap.update p f,toks := t } := by
 have e : (s.heap.update p f).get? p = some { cls := .type "list",data := .seq its'.toArray n' } := by
  rw [Heap.get?_update_self f ho (by rw [hf] <;> rfl),hf]
 refine I.write (x := p) (e := p) (by rw [h];trivial) (.inl rfl) (fun b u hb q => (Heap.get?_update_other _ _ (Ne.symm hb)).trans q) ⟨_,e⟩ ?_
 exact ⟨hz,its',n',r,e⟩
def jc1 : V → V → V → Hp → (Hp → Prop) → Prop := fun o i v H Q => ∃ p xs k j,o = .ref p ∧ i = .int k ∧ H p = some (.lst xs) ∧ ixN xs.length k = some j ∧ Q (upd H p (.lst (xs.set j v)))
theorem jde : PSet X jc1 := by
 intro pins s σ H o i v ov iv u Q I ro ri rv h
 obtain ⟨p,xs,k,j,rfl,rfl,hp,hj,q⟩ := h
 cases ro
 obtain ⟨t,rfl⟩ := ri
 obtain ⟨its,n,r,ho,hz⟩ := I.lst hp
 obtain ⟨h1,h2,h3,h4⟩ := jji hj
 have hl := r.length
 have hn := jdM
 have I' : Inv X pins σ (upd H p (.lst (xs.set j v))) { s with heap := s.heap.update p (Obj.mapSeq (·.setIfInBounds j u)) } :=
  I.lstUpd hp ho (jik its n j u) (r.set rv j) (by rw [List.length_set];exact hz) s.toks
 by_cases h0 : 0 ≤ k
 ·have hk : k.toNat = j := by
   rw [seqIndex_of h0 h4] at h1
   exact Option.some.inj h1
  exact PySem.W.ki_setAt ho h0 (by omega) (by rw [List.size_toArray,← hl];exact h4) (by rw [hk];exact ⟨_,I',q⟩)
 ·have hk : (k + (its.toArray.size : Int)).toNat = j := by
   rw [seqIndex_neg (by omega) h3] at h1
   rw [List.size_toArray,← hl]
   exact Option.some.inj h1
  exact PySem.W.ki_setBack ho (by omega) (by rw [List.size_toArray,← hl];exact h3) (by omega) (by rw [hk];exact ⟨_,I',q⟩)
theorem jfR (lo hi : Option Int) (n : Nat) : (sliceBounds lo hi none n).1 = ((HT.sIx n 0 lo : Nat) : Int) ∧ (sliceBounds lo hi none n).2.1 = ((HT.sIx n n hi : Nat) : Int) ∧ (sliceBounds lo hi none n).2.2 = 1 := by
 refine ⟨?_,?_,rfl⟩
 ·cases lo with
  | none => simp [sliceBounds,HT.sIx]
  | some i =>
   simp only [sliceBounds,HT.sIx,Option.getD_none,show (1 : Int) > 0 by decide,if_true]
   by_cases h : i < 0
   ·simp only [h,if_true] <;> omega
   ·simp only [h,if_false] <;> omega
 ·cases hi with
  | none => simp [sliceBounds,HT.sIx]
  | some i =>
   simp only [sliceBounds,HT.sIx,Option.getD_none,show (1 : Int) > 0 by decide,if_true]
   by_cases h : i < 0
   ·simp only [h,if_true] <;> omega
   ·simp only [h,if_false] <;> omega
theorem jeZ (its : List Value) (lo hi : Option Int) : slicePick its.toArray lo hi none = ((its.drop (HT.sIx its.length 0 lo)).take (HT.sIx its.length its.length hi - HT.sIx its.length 0 lo)).toArray := by
 obtain ⟨h1,h2,h3⟩ := jfR lo hi its.toArray.size
 unfold slicePick
 rw [h1,h2,h3]
 simp only [sliceRange_one,pick_run,List.size_toArray] <;> rfl
def rSlL (K : PySem.W.Frag) : V → Option Int → Option Int → Hp → VK → Prop := fun x lo hi H Q => ∃ a xs,x = .ref a ∧ SqL K H a xs ∧ ∀ p,H p = none → Q (.ref p) (upd H p (.lst (cutV xs lo hi)))
theorem sl_list : SlR X (rSlL X.K) := by
 intro pins s σ H x v vl vu lo hi sl Q I rx hs pl pu h
 obtain ⟨a,xs,rfl,hx,q⟩ := h
 cases rx
 obtain ⟨its,r,ht,hz⟩ := I.list hx
 have hlen := r.length
 refine ⟨"list",_,slot_list_getitem.lookup,ht.isList.typeIs,?_⟩
 refine wpAny_getItem_list_slice ht.isList hs pl pu .none (by simp) ?_ (by rw [List.size_toArray] <;> omega)
 rw [jeZ,← hlen]
 refine ⟨.ref s.heap.objs.size,_,I.laid (t' := s.toks) (o := .lst (cutV xs lo hi)) (fun b ob q => Heap.get?_push_of_some _ q) (Nat.le_refl _) ?_,rfl,q _ (I.hok.fresh (Nat.le_refl _))⟩
 exact ⟨Nat.le_trans (jd9 xs lo hi) hz,_,0,(r.drop (HT.sIx xs.length 0 lo)).take (HT.sIx xs.length xs.length hi - HT.sIx xs.length 0 lo),Heap.get?_push_size _ rfl⟩
def jd1 : V → Bool
 | .non => true
 | .bl _ => true
 | .int _ => true
 | .str _ => true
 | _ => false
def eqV : V → V → Bool
 | .non,.non => true
 | .bl a,.bl b => a == b
 | .bl a,.int b => (if a then 1 else 0) == b
 | .int a,.bl b => a == (if b then 1 else 0)
 | .int a,.int b => a == b
 | .str a,.str b => a == b
 | _,_ => false
theorem jmg {A : Around} {s : Shared} {y x : V} {u v : Value} (ry : RelV y u) (rx : RelV x v) (fy : jd1 y = true) (fx : jd1 x = true) : SeqAt.EqAt A s u v (eqV y x) := by
 cases y with
 | non =>
  cases ry
  cases x with
  | non => cases rx;exact SeqAt.EqAt.same _
  | bl b => cases rx;exact SeqAt.EqAt.none_bool b
  | int b => obtain ⟨t,rfl⟩ := rx;exact SeqAt.EqAt.none_int b t
  | str b => obtain ⟨t,rfl⟩ := rx;exact SeqAt.EqAt.none_str b t
  | _ => exact absurd (show false = true from fx) Bool.false_ne_true
 | bl a =>
  cases ry
  cases x with
  | non => cases rx;exact SeqAt.EqAt.bool_none a
  | bl b => cases rx;exact SeqAt.EqAt.bool_bool a b
  | int b => obtain ⟨t,rfl⟩ := rx;exact SeqAt.EqAt.bool_int a b t
  | str b => obtain ⟨t,rfl⟩ := rx;exact SeqAt.EqAt.bool_str a b t
  | _ => exact absurd (show false = true from fx) Bool.false_ne_true
 | int a =>
  obtain ⟨t',rfl⟩ := ry
  cases x with
  | non => cases rx;exact SeqAt.EqAt.int_none a t'
  | bl b => cases rx;exact SeqAt.EqAt.int_bool a t' b
  | int b => obtain ⟨t,rfl⟩ := rx;exact SeqAt.EqAt.int_int a t' b t
  | str b => obtain ⟨t,rfl⟩ := rx;exact SeqAt.EqAt.int_str a t' b t
  | _ => exact absurd (show false = true from fx) Bool.false_ne_true
 | str a =>
  obtain ⟨t',rfl⟩ := ry
  cases x with
  | non => cases rx;exact SeqAt.EqAt.str_none a t'
  | bl b => cases rx;exact SeqAt.EqAt.str_bool a t' b
  | int b => obtain ⟨t,rfl⟩ := rx;exact SeqAt.EqAt.str_int a t' b t
  | str b => obtain ⟨t,rfl⟩ := rx;exact SeqAt.EqAt.str_str a t' b t
  | _ => exact absurd (show false = true from fx) Bool.false_ne_true
 | _ => exact absurd (show false = true from fy) Bool.false_ne_true
def eqU (x : V) (u : Value) : Bool := match u with
 | .none => eqV .non x
 | .bool b => eqV (.bl b) x
 | .int i _ => eqV (.int i) x
 | .str z _ => eqV (.str z) x
 | _ => false
theorem jkJ {x y : V} {u : Value} (r : RelV y u) (f : jd1 y = true) : eqU x u = eqV y x := by
 cases y with
 | non => cases r;rfl
 | bl b => cases r;rfl
 | int i => obtain ⟨t,rfl⟩ := r;rfl
 | str z => obtain ⟨t,rfl⟩ := r;rfl
 | _ => exact absurd (show false = true from f) Bool.false_ne_true
theorem jho {x : V} : ∀ {xs : List V} {us : List Value},Vals xs us → xs.all jd1 = true → us.any (eqU x) = xs.any fun y => eqV y x
 | _,_,.nil,_ => rfl
 | y :: xs,u :: us,.cons r t,f => by
  rw [List.all_cons,Bool.and_eq_true] at f
  rw [List.any_cons,List.any_cons,jkJ r f.1,jho t f.2]
theorem jfi {A : Around} {s : Shared} {x : V} {v : Value} (rx : RelV x v) (fx : jd1 x = true) : ∀ {xs : List V} {us : List Value},Vals xs us → xs.all jd1 = true → ∀ u ∈ us,SeqAt.EqAt A s u v (eqU x u)
 | _,_,.nil,_ => fun u hu => by cases hu
 | y :: xs,u :: us,.cons r t,f => fun u' hu => by
  rw [List.all_cons,Bool.and_eq_true] at f
  rcases List.mem_cons.mp hu with rfl | hu
  ·rw [jkJ r f.1];exact jmg r rx f.1 fx
  ·exact jfi rx fx t f.2 u' hu
def inV (x : V) (xs : List V) : Bool := xs.any fun y => eqV y x
def rIn (K : PySem.W.Frag) (neg : Bool) : R2 := fun x y H Q => ∃ p xs,y = .ref p ∧ (SqL K H p xs ∨ SqT K H p xs) ∧ jd1 x = true ∧ xs.all jd1 = true ∧ Q (.bl (if neg then !inV x xs else inV x xs)) H
theorem ji0 : OpR X (compareOp .In) (rIn X.K false) := by
 intro pins s σ H x y v u Q I rx ry h
 obtain ⟨p,xs,rfl,hq,fx,fs,q⟩ := h
 cases ry
 rcases hq with hq | hq
 ·obtain ⟨its,r,pl,hz⟩ := I.list hq
  refine SeqAt.in_listAt (eqU x) pl.isList (fun w hw => jfi rx fx r fs w (by simpa using hw)) ⟨.bl _,H,I,rfl,?_⟩
  rw [show its.toArray.any (eqU x) = its.any (eqU x) by simp,jho r fs]
  exact q
 ·obtain ⟨its,r,pl,hz⟩ := I.tuple hq
  refine SeqAt.in_tupleAt (eqU x) pl (fun w hw => jfi rx fx r fs w (by simpa using hw)) ⟨.bl _,H,I,rfl,?_⟩
  rw [show its.toArray.any (eqU x) = its.any (eqU x) by simp,jho r fs]
  exact q
theorem jQ : CallR X (.builtin "len") (fun xs H Q => ∃ p ys,xs = [.ref p] ∧ (SqL X.K H p ys ∨ SqT X.K H p ys) ∧ Q (.int ys.length) H) := by
 intro pins s σ H xs us Q I r h
 obtain ⟨p,ys,rfl,hq,q⟩ := h
 obtain ⟨u,rfl,rx⟩ := jgO r
 cases rx
 have hn := jdM
 rcases hq with hq | hq
 ·obtain ⟨its,r',pl,hz⟩ := I.list hq
  have hlen := r'.length
  exact Calls.call_len_list pl.isList (by simp only [List.size_toArray] <;> omega) ⟨.int ys.length,H,I.tok _,⟨s.toks + 1,by rw [List.size_toArray,hlen]⟩,q⟩
 ·obtain ⟨its,r',pl,hz⟩ := I.tuple hq
  have hlen := r'.length
  exact len_tuple pl (by simp only [List.size_toArray] <;> omega) ⟨.int ys.length,H,I.tok _,⟨s.toks + 1,by rw [List.size_toArray,hlen]⟩,q⟩
theorem call_tuple_of : CallR X (.type "tuple") (fun xs H Q => ∃ p ys,xs = [.ref p] ∧ ((SqL X.K H p ys ∧ ∀ l,H l = none → Q (.ref l) (upd H l (.tup ys))) ∨ (SqT X.K H p ys ∧ Q (.ref p) H))) := by
 intro pins s σ H xs us Q I r h
 obtain ⟨p,ys,rfl,h⟩ := h
 obtain ⟨u,rfl,rx⟩ := jgO r
 cases rx
 rcases h with ⟨hq,q⟩ | ⟨hq,q⟩
 ·obtain ⟨its,r',pl,hz⟩ := I.list hq
  have hlen := r'.length
  refine call_tuple_list pl.isList (fun h' kp => ?_) (by simp only [List.size_toArray] <;> omega)
  have I1 : Inv X pins σ H { s with heap := h' } := I.kept (t' := s.toks) kp
  have I2 : Inv X pins σ (upd H h'.objs.size (.tup ys)) { s with heap := h'.push { cls := .type "tuple",data := .seq its.toArray } } :=
   I1.laid (t' := s.toks) (fun b o e => Heap.get?_push_of_some _ e) (Nat.le_refl _) (show ObjOk X.prog X.w _ _ _ (.tup ys) from ⟨hz,its,r',IsTup.new _ _⟩)
  exact ⟨.ref h'.objs.size,_,I2,rfl,q _ (I1.hok.fresh (Nat.le_refl _))⟩
 ·obtain ⟨its,r',pl,hz⟩ := I.tuple hq
  exact call_tuple_same pl ⟨.ref p,H,I,rfl,q⟩
def tyV (K : PySem.W.Frag) (T : String) (x : V) (H : Hp) : Prop := match x with
 | .str _ => T = "str"
 | .int _ => T = "int"
 | .ref p => (T = "list" ∧ ∃ xs,SqL K H p xs) ∨ (T = "tuple" ∧ ∃ o,K.lookup p = some o ∧ o.cls = .type "tuple" ∧ o.dict = none) ∨
   (T = "dict" ∧ ((∃ kvs,H p = some (.dK kvs)) ∨ ∃ kvs,H p = some (.dT kvs))) ∨ (T = "set" ∧ ∃ S n,H p = some (.set S n))
 | _ => False
theorem jlB {pins : List (Addr × Obj)} {σ : St} {H : Hp} {s : Shared} {T : String} {x : V} {v : Value} (I : Inv X pins σ H s) (r : RelV x v) (ty : tyV X.K T x H) :
  s.TypeIs v T ∧ ∀ a,v = .ref a → ∃ ob,s.heap.get? a = some ob ∧ ob.dict = none := by
 cases x with
 | str z =>
  obtain ⟨t,rfl⟩ := r
  cases (show T = "str" from ty)
  exact ⟨typeIs_str s z t,fun _ e => nomatch e⟩
 | int i =>
  obtain ⟨t,rfl⟩ := r
  cases (show T = "int" from ty)
  exact ⟨typeIs_int s i t,fun _ e => nomatch e⟩
 | ref p =>
  cases r
  rcases ty with ⟨rfl,xs,hq⟩ | ⟨rfl,o,hk,hc,hd⟩ | ⟨rfl,hk⟩ | ⟨rfl,S,n,hk⟩
  ·obtain ⟨its,_,pl,_⟩ := I.list hq
   refine ⟨pl.isList.typeIs,fun a e => ?_⟩
   cases e
   obtain ⟨o,n,e,c,hd,_⟩ := pl
   exact ⟨o,e,hd⟩
  ·refine ⟨⟨o,I.kIn p o hk,hc⟩,fun a e => ?_⟩
   cases e
   exact ⟨o,I.kIn _ o hk,hd⟩
  ·have z : ∃ o,s.heap.get? p = some o ∧ o.ExactDict := by
    rcases hk with ⟨kvs,hk⟩ | ⟨kvs,hk⟩
    ·obtain ⟨_,_,_,_,o,_,_,e,ex,_⟩ := I.hok p _ hk
     exact ⟨o,e,ex⟩
    ·obtain ⟨_,_,_,_,o,_,_,e,ex,_⟩ := I.hok p _ hk
     exact ⟨o,e,ex⟩
   obtain ⟨o,e,ex⟩ := z
   refine ⟨⟨o,e,ex.1⟩,fun a e2 => ?_⟩
   cases e2
   exact ⟨o,e,ex.2.1⟩
  ·obtain ⟨o,_,_,_,e,ex,_⟩ := I.hok p _ hk
   refine ⟨⟨o,e,ex.1⟩,fun a e2 => ?_⟩
   cases e2
   exact ⟨o,e,ex.2.1⟩
 | _ => exact False.elim ty
def tBM0 (K : PySem.W.Frag) (T : String) (r : V → List V → Hp → VK → Prop) (to : TE) : TE := fun σ H Q => to σ H fun x H1 => tyV K T x H1 ∧ r x [] H1 Q
def tBM (K : PySem.W.Frag) (T : String) (r : V → List V → Hp → VK → Prop) (to : TE) (t : TA) : TE := fun σ H Q => to σ H fun x H1 => tyV K T x H1 ∧ t σ H1 fun xs H2 => r x xs H2 Q
variable {o e : Expr} {es : List Expr} {to : TE} {t : TA} {name : Str} {apos cpos : Pos} {T id : String} {r : V → List V → Hp → VK → Prop}
theorem jmx (pa : PlainAttrs T) (slot : Slot T name id) (hty : typeOf (.builtin id) = pure (.type "method_descriptor")) (hm : MtR X id r) (ho : PE X o to) (ha : PA X (e :: es) t)
  (hbase : attributeBase o name X.env (eval o X.env) = eval o X.env := by rfl)
  (hfew : ((backTo cpos (starEach (e :: es) X.env)).all (fun x => !x.1) && (backToKw cpos (keywordEach [] X.env)).all (fun x => x.1.isSome)
   && decide ((e :: es).length + ([] : List Keyword).length + (if ([] : List Keyword).isEmpty then 0 else 1) < 30)) = true := by rfl)
  (hline : (apos.endLine == cpos.line) = true := by rfl) (hs : starEach (e :: es) X.env = (false,eval e X.env) :: starEach es X.env := by rfl) (hplain : (backTo cpos (starEach es X.env)).any (·.1) = false := by rfl) :
  PE X (.Call (.Attribute o name apos) (e :: es) [] cpos) (tBM X.K T r to t) := by
 intro pins s σ H Q I h
 refine wpAny_Call_method_late hbase hfew hline rfl (thn (ho pins s σ H _ I h) fun v s1 ⟨x,H1,I1,r1,ty,q1⟩ => ?_)
 obtain ⟨h1,h2⟩ := jlB I1 r1 ty
 refine ⟨T,id,pa,slot,hty,h1,h2,?_⟩
 have hA := ha cpos pins s1 σ H1 _ I1 q1
 rw [hs] at hA ⊢
 refine Calls.callWith_builtin (by show (false || (backTo cpos (starEach es X.env)).any (·.1)) = false;rw [hplain] <;> rfl) (Calls.evalArgs_plain ?_)
 exact thn hA fun us s2 ⟨vs,H2,I2,r2,q2⟩ => hm pins s2 σ H2 x vs v us Q I2 r1 r2 q2
/- xs.append(e),list.index on a module's tuple .. are MtR facts of 06m -/
end
end L2
namespace L2
open PySem PySem.Spec PyProof.Rows
def MtM (X : Cx) (id : String) (r : V → List V → Hp → VK → Prop) : Prop :=
 ∀ (pins : List (Addr × Obj)) (s : Shared) (σ : St) (H : Hp) (x : V) (xs : List V) (v : Value) (us : List Value) (Q : VK),Inv X pins σ H s → RelV x v → Vals xs us → r x xs H Q →
  wpAny (model X.prog X.w) X.A (call (.builtin id) (v :: us)) (EP X pins σ Q) X.xe s
theorem Vals.one : ∀ {x : V} {us : List Value},Vals [x] us → ∃ u,us = [u] ∧ RelV x u
 | _,_,.cons r .nil => ⟨_,rfl,r⟩
theorem Vals.dropLast {xs : List V} {us : List Value} (h : Vals xs us) : Vals xs.dropLast us.dropLast := by
 induction h with
 | nil => exact .nil
 | cons r t ih =>
  cases t with
  | nil => exact .nil
  | cons q t' => exact .cons r ih
theorem Vals.eraseIdx : ∀ {xs : List V} {us : List Value} (i : Nat),Vals xs us → Vals (xs.eraseIdx i) (us.eraseIdx i)
 | _,_,_,.nil => .nil
 | _,_,0,.cons _ t => t
 | _,_,i + 1,.cons r t => .cons r (Vals.eraseIdx i t)
theorem Vals.reverse {xs : List V} {us : List Value} (h : Vals xs us) : Vals xs.reverse us.reverse := by
 induction h with
 | nil => exact .nil
 | cons r t ih => rw [List.reverse_cons,List.reverse_cons];exact Vals.append ih (.cons r .nil)
theorem Vals.rep {xs : List V} {us : List Value} (h : Vals xs us) : ∀ k : Nat,Vals (List.replicate k xs).flatten (List.replicate k us).flatten
 | 0 => .nil
 | k + 1 => by
  rw [List.replicate_succ,List.replicate_succ,List.flatten_cons,List.flatten_cons]
  exact Vals.append h (Vals.rep h k)
theorem foldl_rep (its : List Value) : ∀ (k : Nat) (acc : List Value),
  List.foldl (fun x1 x2 => x1 ++ x2) acc.toArray (List.replicate k its.toArray) = (acc ++ (List.replicate k its).flatten).toArray
 | 0,acc => by simp
 | k + 1,acc => by
  have e : acc.toArray ++ its.toArray = (acc ++ its).toArray := by simp
  have e2 : (acc ++ its) ++ (List.replicate k its).flatten = acc ++ (List.replicate (k + 1) its).flatten := by
   rw [List.replicate_succ,List.flatten_cons,List.append_assoc]
  rw [← e2,← foldl_rep its k (acc ++ its),← e,List.replicate_succ,List.foldl_cons]
section
variable {X : Cx} {pins : List (Addr × Obj)} {σ : St} {H : Hp} {s : Shared} {l b : Addr} {xs ys zs : List V}
theorem Inv.lset {its its' : List Value} {n : Nat} {f : Array Value → Array Value} {t' : Nat} (I : Inv X pins σ H s) (hH : H l = some (.lst xs))
  (e : s.heap.get? l = some { cls := .type "list",data := .seq its.toArray n }) (hf : f its.toArray = its'.toArray) (hv : Vals ys its') (hz : ys.length ≤ sizeLine) :
  Inv X pins σ (upd H l (.lst ys)) { s with heap := s.heap.update l (Obj.mapSeq f),toks := t' } := by
 have q := PySem.IsL.update e f
 rw [hf] at q
 refine I.write (x := l) (e := l) (by rw [hH];exact trivial) (.inl rfl) (fun b' u hb hu => (Heap.get?_update_other s.heap (Obj.mapSeq f) (Ne.symm hb)).trans hu) ⟨_,q⟩ ?_
 exact ⟨hz,its',_,hv,q⟩
theorem Inv.lnew {its : List Value} {t' : Nat} (I : Inv X pins σ H s) (hv : Vals ys its) (hz : ys.length ≤ sizeLine) :
  Inv X pins σ (upd H s.heap.objs.size (.lst ys)) { s with heap := s.heap.push { cls := .type "list",data := .seq its.toArray },toks := t' } :=
 I.laid (fun _ _ q => Heap.get?_push_of_some _ q) (Nat.le_refl _) ⟨hz,its,0,hv,Heap.get?_push_size _ rfl⟩
theorem Inv.fresh (I : Inv X pins σ H s) : H s.heap.objs.size = none := I.hok.fresh (Nat.le_refl _)
theorem Inv.lstM (I : Inv X pins σ H s) (hH : H l = some (.lst xs)) : xs.length ≤ sizeLine ∧ ∃ (its : List Value) (n : Nat),Vals xs its ∧ xs.length = its.length ∧ s.heap.get? l = some { cls := .type "list",data := .seq its.toArray n } := by
 obtain ⟨z,its,n,r,e⟩ := I.hok l _ hH
 exact ⟨z,its,n,r,r.length,e⟩
theorem jhL {n : Nat} (h : n ≤ sizeLine) : Builtin.List.listTooLong n = false := by
 unfold Builtin.List.listTooLong
 exact decide_eq_false (by omega)
end
section
variable {X : Cx}
def vL : V → List V → Hp → VK → Prop := fun x vs H Q => ∃ l xs y,x = .ref l ∧ vs = [y] ∧ H l = some (.lst xs) ∧ xs.length < sizeLine ∧ Q .non (upd H l (.lst (xs ++ [y])))
theorem uY : MtM X "list.append" vL := by
 intro pins s σ H x vs v us Q I rx rv h
 obtain ⟨l,xs,y,rfl,rfl,hH,hz,q⟩ := h
 cases rx
 obtain ⟨u,rfl,ru⟩ := rv.one
 obtain ⟨z,its,n,r,hl,e⟩ := I.lstM hH
 refine call_meets F.slot_list_append ⟨_,e,rfl⟩ F.entry_list_append (F.args_list_append_2 _ _) (PySem.list_append l its.toArray n u (by rw [List.size_toArray];omega)) ⟨e,?_⟩
 refine ⟨.non,_,I.lset (its' := its ++ [u]) hH e (by simp) (r.append (.cons ru .nil)) ?_,rfl,q⟩
 rw [List.length_append,List.length_singleton]
 omega
def jkW : V → List V → Hp → VK → Prop := fun x vs H Q => ∃ l b xs zs,x = .ref l ∧ vs = [.ref b] ∧ H l = some (.lst xs) ∧ H b = some (.lst zs) ∧ xs.length + zs.length ≤ sizeLine ∧ Q .non (upd H l (.lst (xs ++ zs)))
theorem jl2 : MtM X "list.extend" jkW := by
 intro pins s σ H x vs v us Q I rx rv h
 obtain ⟨l,b,xs,zs,rfl,rfl,hH,hB,hz,q⟩ := h
 cases rx
 obtain ⟨u,rfl,ru⟩ := rv.one
 cases ru
 obtain ⟨z,its,n,r,hl,e⟩ := I.lstM hH
 obtain ⟨z2,its2,n2,r2,hl2,e2⟩ := I.lstM hB
 have hsz : its.toArray.size + its2.toArray.size ≤ sizeLine := by rw [List.size_toArray,List.size_toArray];omega
 have hlong : ¬ (!its.toArray.isEmpty && Builtin.List.listTooLong (its.toArray.size + its2.toArray.size)) = true := by
  rw [jhL hsz,Bool.and_false]
  exact Bool.false_ne_true
 refine call_meets F.slot_list_extend ⟨_,e,rfl⟩ F.entry_list_extend (F.args_list_extend_2 _ _)
  (AutoSeq1.list_extend_list_list_0 l its.toArray n b its2.toArray n2 hlong (by rw [List.size_toArray];omega) (by omega)) ⟨e,e2,?_⟩
 refine ⟨.non,_,I.lset (its' := its ++ its2) hH e (by simp) (r.append r2) ?_,rfl,q⟩
 rw [List.length_append]
 omega
def rPop : V → List V → Hp → VK → Prop := fun x vs H Q => ∃ l xs y,x = .ref l ∧ vs = [] ∧ H l = some (.lst xs) ∧ xs[xs.length - 1]? = some y ∧ Q y (upd H l (.lst xs.dropLast))
def ja6 : V → List V → Hp → VK → Prop := fun x vs H Q => ∃ l xs i k y,x = .ref l ∧ vs = [.int i] ∧ H l = some (.lst xs) ∧ -(2 ^ 63) ≤ i ∧ i < 2 ^ 63 ∧ seqIndex? i xs.length = some k ∧ xs[k]? = some y ∧ Q y (upd H l (.lst (xs.eraseIdx k)))
def jag : V → List V → Hp → VK → Prop := fun x vs H Q => ∃ l xs,x = .ref l ∧ vs = [] ∧ H l = some (.lst xs) ∧ Q .non (upd H l (.lst []))
def rCat : R2 := fun x y H Q => ∃ l b xs zs,x = .ref l ∧ y = .ref b ∧ H l = some (.lst xs) ∧ H b = some (.lst zs) ∧ xs.length + zs.length ≤ sizeLine ∧ ∀ p,H p = none → Q (.ref p) (upd H p (.lst (xs ++ zs)))
theorem op_cat : OpR X (binaryOp .Add) rCat := by
 intro pins s σ H x y v u Q I rx ry h
 obtain ⟨l,b,xs,zs,rfl,rfl,hH,hB,hz,q⟩ := h
 cases rx
 cases ry
 obtain ⟨z,its,n,r,hl,e⟩ := I.lstM hH
 obtain ⟨z2,its2,n2,r2,hl2,e2⟩ := I.lstM hB
 refine PySem.P.add_list e e2 ?_ (by rw [List.size_toArray,List.size_toArray];omega)
 have ea : its.toArray ++ its2.toArray = (its ++ its2).toArray := by simp
 rw [ea]
 exact ⟨.ref _,_,I.lnew (t' := s.toks) (r.append r2) (by rw [List.length_append];omega),rfl,q _ I.fresh⟩
def rRep : R2 := fun x y H Q => ∃ l k xs,x = .ref l ∧ y = .int k ∧ H l = some (.lst xs) ∧ -(2 ^ 63) ≤ k ∧ k < 2 ^ 63 ∧ xs.length * k.toNat ≤ sizeLine ∧
 ∀ p,H p = none → Q (.ref p) (upd H p (.lst (List.replicate k.toNat xs).flatten))
theorem len_rep {α : Type} (xs : List α) (k : Nat) : (List.replicate k xs).flatten.length = k * xs.length := by
 induction k with
 | zero => simp
 | succ k ih => rw [List.replicate_succ,List.flatten_cons,List.length_append,ih,Nat.succ_mul,Nat.add_comm]
end
section
variable {prog : Program} {w : World} {A : Around} {E : Value → Shared → Prop} {s : Shared}
end
section
variable {X : Cx}
end
end L2
namespace L2
open PySem PySem.Spec PyProof.Rows
theorem jfL : ∀ {us : List Value} {ns : List Int},IntsAre us ns → Vals (ns.map V.int) us
 | _,_,.nil => by rw [List.map_nil];exact Paired.nil
 | _,_,.cons n t h => by rw [List.map_cons];exact Paired.cons (show RelV (V.int n) (Value.int n t) from ⟨t,rfl⟩) (jfL h)
theorem Vals.bls : ∀ {bs : List Bool} {us : List Value},Vals (bs.map V.bl) us → us = bs.map Value.bool
 | [],us,h => by
  rw [List.map_nil] at h
  cases h
  rfl
 | b :: bs,us,h => by
  rw [List.map_cons] at h
  cases h with
  | cons r t =>
   cases r
   rw [Vals.bls t,List.map_cons]
theorem Vals.ref1 {a : Addr} {us : List Value} (r : Vals [V.ref a] us) : us = [Value.ref a] := by
 cases r with
 | cons r t =>
  cases t
  cases r
  rfl
section
variable {prog : Program} {w : World} {A : Around} {E : Value → Shared → Prop} {s : Shared} {l : Addr} {its : List Value} {ns : List Int} {Q : Value → Shared → Prop}
end
section
variable {X : Cx}
def rMax (K : PySem.W.Frag) : List V → Hp → VK → Prop := fun vs H Q => ∃ (a : Addr) (ns : List Int),vs = [V.ref a] ∧ SqL K H a (ns.map V.int) ∧ 0 < ns.length ∧ ∀ m,m ∈ ns → (∀ y,y ∈ ns → y ≤ m) → Q (.int m) H
end
section
variable {X : Cx}
def jaf (K : PySem.W.Frag) : V → List V → Hp → VK → Prop := fun x xs H Q => ∃ (a : Addr) (ys : List V) (y : V) (j : Nat) (z : V),x = V.ref a ∧ xs = [y] ∧ SqL K H a ys ∧ jd1 y = true ∧ ys.all jd1 = true ∧ ys[j]? = some z ∧ eqV z y = true ∧
 (∀ (m : Nat) (z' : V),m < j → ys[m]? = some z' → eqV z' y = false) ∧ Q (.int (j : Nat)) H
end
section
variable {X : Cx}
end
theorem jkg {prog : Program} {w : World} {A : Around} {E : Value → Shared → Prop} {s : Shared} {l : Addr} {items : Array Value} {Q : Value → Shared → Prop} (hl : s.heap.IsList l items)
  (h : ∀ s₂ : Shared,s₂ = { s with heap := s.heap.push { cls := .type "list_iterator",data := .fields #[.ref l,.int 0 0] } } →
   (s₂.heap.IsListIter s.heap.objs.size l 0 ∧ s₂.heap.IsList l items) → l ≠ s.heap.objs.size → Q (.ref s.heap.objs.size) s₂) : wpAny (model prog w) A (pyIter (.ref l)) Q E s := by
 have hlt : l < s.heap.objs.size := by obtain ⟨_,e,_⟩ := hl;exact Heap.lt_size e
 exact wpAny_pyIter_list hl (h _ rfl ⟨⟨_,Heap.get?_push_size _ rfl,rfl,rfl⟩,hl.push _⟩ (Nat.ne_of_lt hlt))
theorem jgP {prog : Program} {w : World} {A : Around} {bs : List Bool} {its : List Value} (e : its = bs.map Value.bool) :
  TruthOf prog w A (fun i v => its.toArray[i]? = some v) (fun i => bs.getD i false) := fun i v s Q E hv hq => by
 have hv' : its[i]? = some v := by simpa using hv
 rw [e,List.getElem?_map] at hv'
 obtain ⟨b,hb,rfl⟩ := Option.map_eq_some_iff.mp hv'
 have hg : bs.getD i false = b := by rw [List.getD_eq_getElem?_getD,hb] <;> rfl
 have hq' : Q (bs.getD i false) s := hq
 rw [hg] at hq'
 exact wpAny_truthy_bool hq'
theorem jgL : ∀ bs : List Bool,(List.range bs.length).any (fun i => bs.getD i false) = bs.any id
 | [] => rfl
 | b :: bs => by
  rw [List.length_cons,List.range_succ_eq_map,List.any_cons,List.any_map,List.any_cons,← jgL bs]
  all_goals rfl
section
variable {X : Cx}
def rAny (K : PySem.W.Frag) : List V → Hp → VK → Prop := fun vs H Q => ∃ (a : Addr) (bs : List Bool),vs = [V.ref a] ∧ SqL K H a (bs.map V.bl) ∧ Q (.bl (bs.any id)) H
theorem jmk (hc : X.calm = true) : CallR X (.builtin "any") (rAny X.K) := by
 intro pins s σ H vs us Q I r h
 obtain ⟨a,bs,rfl,hs,q⟩ := h
 obtain ⟨its,rv,hl,_⟩ := I.list hs
 rw [Vals.ref1 r]
 have hb := rv.bls
 refine call_any_walk (jkg hl.isList fun s₂ e2 st hne => ?_)
 subst e2
 refine ⟨_,_,_,_,_,_,_,rfl,Walks.list (A := X.A.in1) (I.ok.hd hc) _ a hne its.toArray,st,jgP hb,fun h' tk hk => ?_⟩
 refine ⟨.bl _,H,I.kept fun b o eo => hk b o (fun hmem => ?_) (Heap.get?_push_of_some _ eo),?_,q⟩
 ·rcases List.mem_cons.mp hmem with e1 | hmem
  ·exact absurd (e1 ▸ Heap.lt_size eo) (Nat.lt_irrefl _)
  ·cases hmem
 ·show Value.bool _ = Value.bool _
  rw [← jgL,hb,List.size_toArray,List.length_map]
end
mutual
inductive Dp (K : PySem.W.Frag) (H : Hp) : V → PyData → Prop
 | non : Dp K H .non .none
 | bl (b : Bool) : Dp K H (.bl b) (.bool b)
 | int (i : Int) : Dp K H (.int i) (.int i)
 | str (x : Str) : Dp K H (.str x) (.str x)
 | lst {a : Addr} {xs : List V} {ds : List PyData} : SqL K H a xs → DpAll K H xs ds → Dp K H (.ref a) (.list ds)
 | tup {a : Addr} {xs : List V} {ds : List PyData} : SqT K H a xs → DpAll K H xs ds → Dp K H (.ref a) (.tuple ds)
inductive DpAll (K : PySem.W.Frag) (H : Hp) : List V → List PyData → Prop
 | nil : DpAll K H [] []
 | cons {v : V} {vs : List V} {d : PyData} {ds : List PyData} : Dp K H v d → DpAll K H vs ds → DpAll K H (v :: vs) (d :: ds)
end
section
variable {X : Cx} {pins : List (Addr × Obj)} {σ : St} {H : Hp} {s : Shared}
mutual
theorem Dp.reads (I : Inv X pins σ H s) : ∀ (d : PyData) (v : V) (u : Value),Dp X.K H v d → RelV v u → ∃ as,Reads s.heap u d as
 | .none,_,_,h,r => by
  cases h
  cases r
  exact ⟨_,Reads.none⟩
 | .bool b,_,_,h,r => by
  cases h
  cases r
  exact ⟨_,Reads.bool b⟩
 | .int i,_,_,h,r => by
  cases h
  obtain ⟨t,rfl⟩ := r
  exact ⟨_,Reads.int i t⟩
 | .str x,_,_,h,r => by
  cases h
  obtain ⟨t,rfl⟩ := r
  exact ⟨_,Reads.str x t⟩
 | .list ds,_,_,h,r => by
  cases h with
  | lst hs ha =>
   cases r
   obtain ⟨its,rv,⟨o,n,ho,hc,_,hd⟩,_⟩ := I.list hs
   obtain ⟨as,hr⟩ := Dp.readsAll I ds _ its ha rv
   exact ⟨_,Reads.list ho hc hd hr⟩
 | .tuple ds,_,_,h,r => by
  cases h with
  | tup hs ha =>
   cases r
   obtain ⟨its,rv,⟨o,ho,hc,n,hd⟩,_⟩ := I.tuple hs
   obtain ⟨as,hr⟩ := Dp.readsAll I ds _ its ha rv
   exact ⟨_,Reads.tuple ho hc hd hr⟩
 | .dict _,_,_,h,_ => by cases h
theorem Dp.readsAll (I : Inv X pins σ H s) : ∀ (ds : List PyData) (vs : List V) (us : List Value),DpAll X.K H vs ds → Vals vs us → ∃ as,ReadsAll s.heap us ds as
 | [],_,_,h,r => by
  cases h
  cases r
  exact ⟨_,ReadsAll.nil⟩
 | d :: ds,_,_,h,r => by
  cases h with
  | cons h1 h2 =>
   cases r with
   | cons r1 r2 =>
    obtain ⟨as,q1⟩ := Dp.reads I d _ _ h1 r1
    obtain ⟨bs,q2⟩ := Dp.readsAll I ds _ _ h2 r2
    exact ⟨_,ReadsAll.cons q1 q2⟩
end
end
section
variable {X : Cx}
def rEqD (K : PySem.W.Frag) : R2 := fun x y H Q => ∃ d e,Dp K H x d ∧ Dp K H y e ∧ SeqAt.shaped d = true ∧ SeqAt.shaped e = true ∧ Q (.bl (PyData.eqv d e)) H
def rNeD (K : PySem.W.Frag) : R2 := fun x y H Q => ∃ d e,Dp K H x d ∧ Dp K H y e ∧ SeqAt.shaped d = true ∧ SeqAt.shaped e = true ∧ Q (.bl (!PyData.eqv d e)) H
theorem jlP (hu : X.A.units + 64 < cLine) : OpR X (compareOp .Eq) (rEqD X.K) := by
 intro pins s σ H x y v u Q I rx ry h
 obtain ⟨d,e,hd,he,sd,se,q⟩ := h
 obtain ⟨as,r1⟩ := Dp.reads I d x v hd rx
 obtain ⟨bs,r2⟩ := Dp.reads I e y u he ry
 exact SeqAt.compareEq_shaped r1 r2 sd se hu ⟨.bl _,H,I,rfl,q⟩
end
end L2
namespace L2
open PySem PySem.Spec PyProof.Rows
abbrev jkM (h : Heap) (c : Addr) (v : Option Value) : Prop := h.IsCell c v
def relS (scope sc : Scope) : Scope :=
 { scope with names := scope.names.map fun (n,k) => if (k == .free && sc.kind == .function && sc.names.lookup n == some .cell) then (n,.cell) else (n,k) }
def zK (cells : List (Str × Addr)) : List (Str × NameKind) → List (Str × Addr) → List (Str × Addr)
 | [],acc => acc
 | (n,k) :: r,acc => if k == .free then zK cells r ((n,(cells.lookup n).getD 0) :: acc) else zK cells r acc
theorem jcR (env : Env) (f : Str × NameKind → List (Str × Addr) → Sem (ForInStep (List (Str × Addr))))
  (hf : ∀ n k c,f (n,k) c = if k == .free then (do let a ← cellOf env n;pure (.yield ((n,a) :: c))) else pure (.yield c)) :
  ∀ (names : List (Str × NameKind)) (acc : List (Str × Addr)),(∀ y ∈ names,y.2 = .free → ∃ c,env.cells.lookup y.1 = some c) → forIn names acc f = pure (zK env.cells names acc)
 | [],acc,_ => by rw [List.forIn_nil];rfl
 | (n,k) :: r,acc,h => by
  rw [List.forIn_cons,hf]
  have ih := fun acc => jcR env f hf r acc fun y hy => h y (List.mem_cons_of_mem _ hy)
  unfold zK
  by_cases hk : (k == NameKind.free) = true
  ·rw [if_pos hk,if_pos hk]
   obtain ⟨c,hc⟩ := h (n,k) List.mem_cons_self (by simpa using hk)
   have e : cellOf env n = pure c := by unfold cellOf;rw [hc]
   rw [e]
   have e2 : (env.cells.lookup n).getD 0 = c := by rw [hc];rfl
   rw [e2]
   exact ih _
  ·rw [if_neg hk,if_neg hk]
   exact ih _
theorem jip {scope : Scope} {env : Env} (h : ∀ y ∈ scope.names,y.2 = .free → ∃ c,env.cells.lookup y.1 = some c) : closureFor scope env = pure (zK env.cells scope.names []) := by
 simp only [closureFor]
 rw [jcR env _ (fun n k c => rfl) scope.names [] h]
 rfl
theorem jcj {α : Type} : ∀ {l : List (Str × α)} {n : Str} {c : α},(n,c) ∈ l → ∃ c',l.lookup n = some c'
 | (k,v) :: r,n,c,h => by
  rw [List.lookup_cons]
  cases hb : n == k with
  | true => exact ⟨_,rfl⟩
  | false =>
   rcases List.mem_cons.mp h with e | h
   ·cases e;simp at hb
   ·exact jcj h
theorem gD {cells : List (Str × Addr)} : ∀ {names : List (Str × NameKind)} {acc : List (Str × Addr)} {n : Str} {c : Addr},(n,c) ∈ zK cells names acc → (n,c) ∈ acc ∨ ((n,.free) ∈ names ∧ c = (cells.lookup n).getD 0)
 | [],_,_,_,h => .inl h
 | (m,k) :: r,acc,n,c,h => by
  unfold zK at h
  split at h
  ·rename_i hk
   have hk : k = .free := by simpa using hk
   rcases gD h with h | ⟨h1,h2⟩
   ·rcases List.mem_cons.mp h with e | h
    ·cases e;exact .inr ⟨hk ▸ List.mem_cons_self,rfl⟩
    ·exact .inl h
   ·exact .inr ⟨List.mem_cons_of_mem _ h1,h2⟩
  ·rcases gD h with h | ⟨h1,h2⟩
   ·exact .inl h
   ·exact .inr ⟨List.mem_cons_of_mem _ h1,h2⟩
theorem jbv {cells : List (Str × Addr)} : ∀ {names : List (Str × NameKind)} {acc : List (Str × Addr)} {p : Str × Addr},p ∈ acc → p ∈ zK cells names acc
 | [],_,_,h => h
 | (m,k) :: r,acc,p,h => by
  unfold zK
  split
  ·exact jbv (List.mem_cons_of_mem _ h)
  ·exact jbv h
theorem jbu {cells : List (Str × Addr)} : ∀ {names : List (Str × NameKind)} {acc : List (Str × Addr)} {n : Str},(n,.free) ∈ names → (n,(cells.lookup n).getD 0) ∈ zK cells names acc
 | (m,k) :: r,acc,n,h => by
  unfold zK
  rcases List.mem_cons.mp h with e | h
  ·cases e
   exact jbv List.mem_cons_self
  ·split
   ·exact jbu h
   ·exact jbu h
theorem jaL : ∀ {names : List (Str × NameKind)} {h : Heap} {acc : List (Str × Addr)} {x : Str} {c : Addr},(x,c) ∈ cellsFrom h.objs.size names acc →
  (x,c) ∈ acc ∨ ((x,.cell) ∈ names ∧ h.objs.size ≤ c ∧ jkM (pushCells h names) c none)
 | [],_,_,_,_,h => .inl h
 | (n,k) :: r,h,acc,x,c,hm => by
  unfold cellsFrom at hm
  unfold pushCells
  split at hm
  ·rename_i hk
   rw [if_pos hk]
   have hk : k = .cell := by simpa using hk
   rw [← Heap.size_push h { cls := .type "cell",data := .cell none }] at hm
   rcases jaL hm with hm | ⟨h1,h2,h3⟩
   ·rcases List.mem_cons.mp hm with e | hm
    ·cases e
     exact .inr ⟨hk ▸ List.mem_cons_self,Nat.le_refl _,_,pushCells_keeps r _ _ _ (Heap.get?_push_size _ rfl),rfl⟩
    ·exact .inl hm
   ·rw [Heap.size_push] at h2
    exact .inr ⟨List.mem_cons_of_mem _ h1,Nat.le_of_succ_le h2,h3⟩
  ·rename_i hk
   rw [if_neg hk]
   rcases jaL hm with hm | ⟨h1,h2,h3⟩
   ·exact .inl hm
   ·exact .inr ⟨List.mem_cons_of_mem _ h1,h2,h3⟩
theorem jb8 : ∀ {names : List (Str × NameKind)} {n : Nat} {acc : List (Str × Addr)} {p : Str × Addr},p ∈ acc → p ∈ cellsFrom n names acc
 | [],_,_,_,h => h
 | (m,k) :: r,n,acc,p,h => by
  unfold cellsFrom
  split
  ·exact jb8 (List.mem_cons_of_mem _ h)
  ·exact jb8 h
theorem jec : ∀ {names : List (Str × NameKind)} {n : Nat} {acc : List (Str × Addr)} {x : Str},(x,.cell) ∈ names → ∃ c,(x,c) ∈ cellsFrom n names acc
 | (m,k) :: r,n,acc,x,h => by
  unfold cellsFrom
  rcases List.mem_cons.mp h with e | h
  ·cases e
   exact ⟨n,jb8 List.mem_cons_self⟩
  ·split
   ·exact jec h
   ·exact jec h
theorem jeb : ∀ {names : List (Str × NameKind)} {h : Heap} {acc : List (Str × Addr)} {x y : Str} {c : Addr},(∀ p ∈ acc,p.2 < h.objs.size) → (∀ x y c,(x,c) ∈ acc → (y,c) ∈ acc → x = y) →
  (x,c) ∈ cellsFrom h.objs.size names acc → (y,c) ∈ cellsFrom h.objs.size names acc → x = y
 | [],_,_,_,_,_,_,hi,h1,h2 => hi _ _ _ h1 h2
 | (n,k) :: r,h,acc,x,y,c,hl,hi,h1,h2 => by
  unfold cellsFrom at h1 h2
  split at h1
  ·rename_i hk
   rw [if_pos hk] at h2
   rw [← Heap.size_push h { cls := .type "cell",data := .cell none }] at h1 h2
   refine jeb (h := h.push _) (fun p hp => ?_) (fun x y c a b => ?_) h1 h2
   ·rw [Heap.size_push]
    rcases List.mem_cons.mp hp with rfl | hp
    ·exact Nat.lt_succ_self _
    ·exact Nat.lt_succ_of_lt (hl p hp)
   ·rcases List.mem_cons.mp a with e | a <;> rcases List.mem_cons.mp b with e' | b
    ·cases e;cases e';rfl
    ·cases e;exact absurd (hl _ b) (Nat.lt_irrefl _)
    ·cases e';exact absurd (hl _ a) (Nat.lt_irrefl _)
    ·exact hi _ _ _ a b
  ·rename_i hk
   rw [if_neg hk] at h2
   exact jeb hl hi h1 h2
theorem jg1 {M : Model} {A : Around} {E : Value → Shared → Prop} {s : Shared} {scope : Scope} {globals : Addr} {closure : List (Str × Addr)} {qual : Str} {func : Option Addr} {code : Value} {around : Env} {builtins : Addr} {Q : Env → Shared → Prop}
  (h : Q (newEnv scope s.heap.objs.size globals (cellsFrom (s.heap.objs.size + 1) scope.names closure) qual func code (some around) builtins)
   { s with heap := pushCells (s.heap.push { cls := .type "dict",data := .dict #[] }) scope.names }) :
  wpAny M A (newFunctionEnv scope globals closure [] qual func code (some around) builtins) Q E s := by
 simp only [newFunctionEnv,Option.isSome_some,if_true]
 refine wpAny_bind (wpAny_alloc ?_)
 refine wpAny_bind (wpAny_layCells _ (fun n k c => rfl) scope.names closure _ _ ?_)
 rw [show ({ s with heap := s.heap.push { cls := .type "dict",data := .dict #[] } } : Shared).heap.objs.size = s.heap.objs.size + 1 from Heap.size_push ..]
 rw [List.forIn_nil]
 exact wpAny_bind (wpAny_pure (wpAny_pure h))
theorem jbj {sc : Scope} : ∀ {names : List (Str × NameKind)} {x : Str} {k : NameKind},
  (names.map fun (n,k) => if (k == NameKind.free && sc.kind == .function && sc.names.lookup n == some .cell) then (n,NameKind.cell) else (n,k)).lookup x = some k →
  ∃ k',names.lookup x = some k' ∧ (k = k' ∨ (k' = .free ∧ k = .cell))
 | [],_,_,h => by simp at h
 | (n,k₀) :: r,x,k,h => by
  have ih := @jbj sc r x k
  have h' : List.lookup x ((if (k₀ == NameKind.free && sc.kind == .function && sc.names.lookup n == some .cell) = true then (n,NameKind.cell) else (n,k₀)) :: (r.map _)) = some k := h
  cases hx : x == n with
  | true =>
   simp only [List.lookup_cons,hx]
   by_cases hc : (k₀ == NameKind.free && sc.kind == .function && sc.names.lookup n == some .cell) = true
   ·rw [if_pos hc] at h'
    simp only [List.lookup_cons,hx] at h'
    cases h'
    simp only [Bool.and_eq_true,beq_iff_eq] at hc
    exact ⟨k₀,rfl,.inr ⟨hc.1.1,rfl⟩⟩
   ·rw [if_neg hc] at h'
    simp only [List.lookup_cons,hx] at h'
    cases h'
    exact ⟨_,rfl,.inl rfl⟩
  | false =>
   simp only [List.lookup_cons,hx]
   by_cases hc : (k₀ == NameKind.free && sc.kind == .function && sc.names.lookup n == some .cell) = true
   ·rw [if_pos hc] at h'
    simp only [List.lookup_cons,hx] at h'
    exact ih h'
   ·rw [if_neg hc] at h'
    simp only [List.lookup_cons,hx] at h'
    exact ih h'
structure BlkOk (N : List Str) (sc scope : Scope) (own : List (Str × Nat)) : Prop where
 kind : scope.kind = .function
 uniq : ∀ y ∈ scope.names,scope.names.lookup y.1 = some y.2
 ix : ∀ p ∈ own,N[p.2]? = some p.1
 free : ∀ y ∈ scope.names,y.2 = .free → sc.names.lookup y.1 = some .cell ∨ sc.names.lookup y.1 = some .free
 own : ∀ y ∈ scope.names,y.2 = .local ∨ y.2 = .cell → y.1 ∈ own.map (·.1) ∨ y.1 ∉ N
def wipe (σ : St) : List Nat → St
 | [] => σ
 | v :: vs => (wipe σ vs).set v none
theorem jbf (σ : St) : ∀ vs : List Nat,(wipe σ vs).length = σ.length
 | [] => rfl
 | v :: vs => by unfold wipe;rw [List.length_set,jbf σ vs]
theorem jdl {σ : St} {i : Nat} {x : V} : ∀ {vs : List Nat},(wipe σ vs)[i]? = some (some x) → σ[i]? = some (some x) ∧ i ∉ vs
 | [],h => ⟨h,by simp⟩
 | v :: vs,h => by
  unfold wipe at h
  by_cases hi : v = i
  ·subst hi
   by_cases hv : v < (wipe σ vs).length
   ·rw [List.getElem?_set_self hv] at h;cases h
   ·rw [List.getElem?_eq_none (by simpa using hv)] at h;cases h
  ·rw [List.getElem?_set_ne hi] at h
   obtain ⟨h1,h2⟩ := jdl h
   exact ⟨h1,by simp only [List.mem_cons,not_or];exact ⟨fun e => hi e.symm,h2⟩⟩
abbrev Cx.blk (X : Cx) (s : Shared) (H : Hp) (scope : Scope) (cenv : Env) (fp : List Addr) : Cx := { X with s_0 := s,H_0 := H,env := cenv,outer := X.stack,ex := fp,fn := fun x => scope.names.lookup x == some .cell,pn := [],xe := fun _ _ => False }
section
variable {X : Cx} {pins : List (Addr × Obj)} {σ : St} {H : Hp} {s : Shared}
theorem jhl {scope : Scope} {own : List (Str × Nat)} {fp : List Addr} (I : Inv X pins σ H s) (ok : BlkOk X.N X.env.scope scope own) (hN : X.N.Nodup) (hfp : ∀ b ∈ fp,FpOk X pins H b ∧ b < s.heap.objs.size) :
  Inv (X.blk s H scope (compEnvC scope (cellsFrom (s.heap.objs.size + 1) scope.names (zK X.env.cells scope.names [])) s.heap.objs.size X.env) fp) [] (wipe σ (own.map (·.2))) H { s with heap := pushCells (s.heap.push { cls := .type "dict",data := .dict #[] }) scope.names } := by
 have hfree : ∀ y ∈ scope.names,y.2 = .free → ∃ c,X.env.cells.lookup y.1 = some c := fun y hy e => by
  rcases ok.free y hy e with k | k
  ·exact I.ok.has _ (.inl k)
  ·exact I.ok.has _ (.inr k)
 generalize hcenv : compEnvC scope (cellsFrom (s.heap.objs.size + 1) scope.names (zK X.env.cells scope.names [])) s.heap.objs.size X.env = cenv
 have kp : ∀ b o,s.heap.get? b = some o → (pushCells (s.heap.push { cls := .type "dict",data := .dict #[] }) scope.names).get? b = some o := fun b o e => pushCells_keeps _ _ _ _ (Heap.get?_push_of_some _ e)
 have hL : cenv.locals = s.heap.objs.size := by rw [← hcenv];rfl
 have hcl : cenv.cells = cellsFrom (s.heap.objs.size + 1) scope.names (zK X.env.cells scope.names []) := by rw [← hcenv];rfl
 have hsc : cenv.scope = relS scope X.env.scope := by rw [← hcenv];rfl
 rw [← Heap.size_push s.heap { cls := .type "dict",data := .dict #[] }] at hcl
 have cm : ∀ {y c},(y,c) ∈ zK X.env.cells scope.names [] → X.env.cells.lookup y = some c ∧ c < s.heap.objs.size := fun {y c} hm => by
  rcases gD hm with hm | ⟨h1,rfl⟩
  ·cases hm
  ·obtain ⟨c,hc⟩ := hfree _ h1 rfl
   rw [hc]
   obtain ⟨w,z⟩ := I.cell _ _ hc
   exact ⟨rfl,z.lt⟩
 have mem : ∀ {y c},cenv.cells.lookup y = some c → (X.env.cells.lookup y = some c ∧ c < s.heap.objs.size) ∨ (s.heap.objs.size + 1 ≤ c ∧ jkM (pushCells (s.heap.push { cls := .type "dict",data := .dict #[] }) scope.names) c none) := fun {y c} e => by
  rw [hcl] at e
  rcases jaL (PySem.mem_of_lookup e) with hm | ⟨_,h2,h3⟩
  ·exact .inl (cm hm)
  ·rw [Heap.size_push] at h2;exact .inr ⟨h2,h3⟩
 have look : ∀ {y},scope.names.lookup y = some .free → ∃ c,cenv.cells.lookup y = some c ∧ X.env.cells.lookup y = some c := fun {y} hl => by
  have hy : (y,NameKind.free) ∈ scope.names := PySem.mem_of_lookup hl
  obtain ⟨c',e'⟩ := jcj (jb8 (names := scope.names) (n := (s.heap.push { cls := .type "dict",data := .dict #[] }).objs.size) (jbu (cells := X.env.cells) (acc := []) hy))
  rw [← hcl] at e'
  refine ⟨c',e',?_⟩
  rw [hcl] at e'
  rcases jaL (PySem.mem_of_lookup e') with hm | ⟨h1,_,_⟩
  ·exact (cm hm).1
  ·have := ok.uniq _ h1
   rw [hl] at this;cases this
 have okB : (X.blk s H scope cenv fp).Ok := by
  refine ⟨I.ok.mod,by show cenv.scope.kind = _;rw [hsc];exact ok.kind,by show cenv.globals = _;rw [← hcenv];exact I.ok.glob,by show cenv.builtins = _;rw [← hcenv];exact I.ok.blt,by show s.heap.objs.size ≤ cenv.locals;rw [hL];exact Nat.le_refl _,
   fun y z c e1 e2 => ?_,fun y hy => ?_,fun y c z e => ?_,I.ok.hd,I.ok.frames,.inl rfl,fun b hb => ⟨?_,fun y c e z => ?_⟩,I.bs,Nat.le_trans I.ok.bsz I.sz,fun b o e hb => ?_,fun b hb z => ?_,I.stack,I.stkFree⟩
  ·have e1 : cenv.cells.lookup y = some c := e1
   have e2 : cenv.cells.lookup z = some c := e2
   rw [hcl] at e1 e2
   refine jeb (fun p hp => ?_) (fun y z c a b => I.ok.inj y z c (cm a).1 (cm b).1) (PySem.mem_of_lookup e1) (PySem.mem_of_lookup e2)
   rw [Heap.size_push]
   exact Nat.lt_succ_of_lt (cm (y := p.1) (c := p.2) hp).2
  ·show ∃ c,cenv.cells.lookup y = some c
   have key : ∀ k,cenv.kindOf y = some k → (k = .cell ∨ k = .free) → ∃ c,cenv.cells.lookup y = some c := fun k hk hk' => by
    unfold Env.kindOf at hk
    rw [hsc] at hk
    obtain ⟨k',e,r⟩ := jbj hk
    have : k' = .cell ∨ k' = .free := by
     rcases r with rfl | ⟨rfl,_⟩
     ·exact hk'
     ·exact .inr rfl
    rcases this with rfl | rfl
    ·obtain ⟨c,hm⟩ := jec (n := (s.heap.push { cls := .type "dict",data := .dict #[] }).objs.size) (acc := zK X.env.cells scope.names []) (PySem.mem_of_lookup e)
     obtain ⟨c',e'⟩ := jcj hm
     exact ⟨c',by rw [hcl];exact e'⟩
    ·obtain ⟨c,h1,_⟩ := look e
     exact ⟨c,h1⟩
   rcases hy with hy | hy
   ·exact key _ hy (.inl rfl)
   ·exact key _ hy (.inr rfl)
  ·have z : (scope.names.lookup y == some NameKind.cell) = true := z
   have z : scope.names.lookup y = some .cell := by simpa using z
   have e : cenv.cells.lookup y = some c := e
   rw [hcl] at e
   rcases jaL (PySem.mem_of_lookup e) with hm | ⟨_,h2,_⟩
   ·rcases gD hm with hm | ⟨h1,_⟩
    ·cases hm
    ·have q := ok.uniq _ h1
     rw [z] at q;cases q
   ·rw [Heap.size_push] at h2
    exact Nat.le_of_succ_le h2
  ·show b ≠ cenv.locals
   rw [hL];exact Nat.ne_of_lt (hfp b hb).2
  ·have e : cenv.cells.lookup y = some c := e
   rcases mem e with ⟨h1,_⟩ | ⟨h1,_⟩
   ·exact (hfp b hb).1.2.2.2.2.1 y c h1 z
   ·have h2 : s.heap.objs.size + 1 ≤ b := by rw [← z];exact h1
    exact absurd (Nat.lt_of_lt_of_le (hfp b hb).2 (Nat.le_of_succ_le h2)) (Nat.lt_irrefl _)
  ·rcases (hfp b hb).1.2.2.2.1 with z | z
   ·exact I.ok.noex b o e z
   ·exact absurd (Nat.lt_of_lt_of_le (Heap.lt_size e) (Nat.le_trans I.ok.bsz z)) (Nat.lt_irrefl _)
  ·rcases List.mem_cons.mp (I.stkSub b z) with z | z
   ·exact (hfp b hb).1.2.1 z
   ·exact (hfp b hb).1.2.2.1 z
 refine ⟨okB,rfl,I.bare,Un.kept kp,⟨fun _ => none,?_,fun i y av e1 e2 e3 => ?_⟩,fun y c e => ?_,?_,fun y c e => ?_,fun p hp => ?_,I.hok.kept kp,by rw [jbf];exact I.len⟩
 ·show Heap.Ns _ cenv.locals _
  rw [hL]
  exact Heap.Ns.keeps (Heap.Ns.new ..) fun b o e => pushCells_keeps _ _ _ _ e
 ·obtain ⟨e2,hne⟩ := jdl e2
  have hfr : scope.names.lookup y = some .free ∧ (cenv.kindOf y = some .cell ∨ cenv.kindOf y = some .free) := by
   have key : ∀ k,cenv.scope.names.lookup y = some k → k = .local ∨ k = .cell ∨ k = .free → scope.names.lookup y = some .free ∧ (cenv.kindOf y = some .cell ∨ cenv.kindOf y = some .free) := fun k hk hk' => by
    have hk0 := hk
    rw [hsc] at hk
    obtain ⟨k',e,r⟩ := jbj hk
    have no : ¬ (k' = .local ∨ k' = .cell) := fun hh => by
     rcases ok.own _ (PySem.mem_of_lookup e) hh with e' | e'
     ·obtain ⟨p,hp,hpy⟩ := List.mem_map.mp e'
      have e3 := ok.ix p hp
      have : p.1 = y := hpy
      rw [this] at e3
      exact hne (List.mem_map.mpr ⟨p,hp,jfa hN e3 e1⟩)
     ·exact e' (List.mem_of_getElem? e1)
    rcases r with rfl | ⟨rfl,rfl⟩
    ·rcases hk' with rfl | rfl | rfl
     ·exact absurd (.inl rfl) no
     ·exact absurd (.inr rfl) no
     ·exact ⟨e,.inr hk0⟩
    ·exact ⟨e,.inl hk0⟩
   have e3 : Vis cenv.scope y := e3
   rcases e3 with e3 | e3 | e3
   ·exact key _ e3 (.inl rfl)
   ·exact key _ e3 (.inr (.inl rfl))
   ·exact key _ e3 (.inr (.inr rfl))
  obtain ⟨m,hn,hl⟩ := I.loc
  have hvis : Vis X.env.scope y := (ok.free _ (PySem.mem_of_lookup hfr.1) rfl).elim (fun k => .inr (.inl k)) (fun k => .inr (.inr k))
  obtain ⟨w,r,q⟩ := hl i y av e1 e2 hvis
  refine ⟨w,r,.inr ⟨hfr.2,?_⟩⟩
  obtain ⟨c,h1,h2⟩ := look hfr.1
  rcases q with ⟨k,_⟩ | ⟨_,c',e',z⟩
  ·have k : X.env.scope.names.lookup y = some .local := k
   rcases ok.free _ (PySem.mem_of_lookup hfr.1) rfl with k' | k' <;> rw [show X.env.scope.names.lookup y = _ from k'] at k <;> cases k
  ·rw [h2] at e';cases e'
   exact ⟨c,h1,z.keeps kp⟩
 ·have e : cenv.cells.lookup y = some c := e
  rcases mem e with ⟨h1,_⟩ | ⟨_,z⟩
  ·obtain ⟨w,z⟩ := I.cell y c h1
   exact ⟨w,z.keeps kp⟩
  ·exact ⟨_,z⟩
 ·show H cenv.locals = none
  rw [hL];exact I.hok.fresh (Nat.le_refl _)
 ·have e : cenv.cells.lookup y = some c := e
  rcases mem e with ⟨h1,_⟩ | ⟨h1,_⟩
  ·exact I.freeC y c h1
  ·exact I.hok.fresh (Nat.le_of_succ_le h1)
 ·exact absurd (show p ∈ ([] : List (Addr × Obj)) ++ [] from hp) (by simp)
theorem jmo {E : Value → Shared → Prop} {D : Addr} {xs : List V} {y : V} {v : Value} {Q : Value → Shared → Prop} (I : Inv X pins σ H s) (hD : H D = some (.lst xs)) (hz : xs.length < sizeLine) (r : RelV y v)
  (h : ∀ s',Inv X pins σ (upd H D (.lst (xs ++ [y]))) s' → Q .none s') : wpAny (model X.prog X.w) X.A (call (.builtin "list.append") [.ref D,v]) Q E s := by
 obtain ⟨hz',its,n,ri,e⟩ := I.hok D _ hD
 have hl := ri.length
 refine append_at (hsz := by rw [List.size_toArray];omega) e fun h' sb ho' => ?_
 refine h { s with heap := h' } (I.write (t' := s.toks) (by rw [hD];trivial) (.inl rfl) (fun b u hb q => (sb.2 b hb).trans q) ⟨_,ho'⟩ ⟨by rw [List.length_append];exact hz,its ++ [v],n + 1,ri.append (.cons r .nil),?_⟩)
 rw [ho']
 simp
def PTs (X : Cx) (ifs : List Expr) (t : TT) : Prop :=
 ∀ (pins : List (Addr × Obj)) (s : Shared) (σ : St) (H : Hp) (Q : Bool → Hp → Prop),Inv X pins σ H s → t σ H Q →
  wpAny (model X.prog X.w) X.A (forIn ifs true fun c r => if r = true then do let ok ← isTrue c X.env (eval c X.env);pure (ForInStep.yield ok) else pure (ForInStep.yield r)) (TP X pins σ Q) X.xe s
def tYes : TT := fun _ H Q => Q true H
theorem pts_nil : PTs X [] tYes := fun _ _ _ H _ I h => wpAny_tests_nil ⟨H,I,h⟩
end
theorem thnF {α : Type} {t : Sem α} {Q Q' : α → Shared → Prop} {M : Model} {A : Around} {E : Value → Shared → Prop} {s : Shared} (h : wpAny M A t Q (fun _ _ => False) s) (hQ : ∀ a s,Q a s → Q' a s) : wpAny M A t Q' E s := wpAny_mono h hQ fun _ _ z => False.elim z
theorem jgw {prog : Program} {w : World} {A : Around} {R : Result → Shared → Prop} {s : Shared} {elt target iter : Expr} {ifs : List Expr} {scope : Scope} {pos : Pos} {it acc : Value} {env : Env} (I : Nat → Shared → Prop)
  (turn : ∀ n s,I n s → wpAny (model prog w) A (pyNext it) (fun r s₁ => match r with
   | none => R (.ok .next) s₁
   | some v => wpAny (model prog w) A (letOwnedTupleGo target it v) (fun _ s₁' => wpAny (model prog w) A (assign target env v) (fun _ s₂ =>
     wpAny (model prog w) A (forIn ifs true fun c r => if r = true then do let ok ← isTrue c env (eval c env);pure (ForInStep.yield ok) else pure (ForInStep.yield r)) (fun ok s₃ =>
      if ok = true then wpAny (model prog w) A (eval elt env) (fun x s₄ =>
       wpAny (model prog w) A (call (.builtin "list.append") [acc,x]) (fun _ s₅ => ∃ m,m < n ∧ I m s₅) (notedBy (model prog w) A env fun e s' => R (.error e) s') s₄) (notedBy (model prog w) A env fun e s' => R (.error e) s') s₃
      else ∃ m,m < n ∧ I m s₃) (notedBy (model prog w) A env fun e s' => R (.error e) s') s₂) (notedBy (model prog w) A env fun e s' => R (.error e) s') s₁') (notedBy (model prog w) A env fun e s' => R (.error e) s') s₁) (notedBy (model prog w) A env fun e s' => R (.error e) s') s)
  (n : Nat) (h : I n s) :
  codeAny (model prog w) A (.compLoop (.ListComp elt [⟨target,iter,ifs,0⟩] scope pos) 0 it acc env) R s := by
 refine codeAny_loop rfl I (fun n s hI => ?_) n h
 show wpAny _ A ((compTurn (.ListComp elt [⟨target,iter,ifs,0⟩] scope pos) 0 it acc env).onRaise (fun x => do noteFrame x env;theTreesLotGoes x)) _ _ s
 refine wpAny_noted ?_
 rw [compTurn_list]
 refine wpAny_bind (wpAny_standAt (wpAny_bind (wpAny_mono (turn n s hI) (fun r s₁ h₁ => ?_) fun _ _ h' => h')))
 cases r with
 | none => exact wpAny_pure h₁
 | some v =>
  refine wpAny_bind (wpAny_mono h₁ (fun _ s₁' h₁' => ?_) fun _ _ h' => h')
  refine wpAny_bind (wpAny_mono h₁' (fun _ s₂ h₂ => wpAny_bind (wpAny_mono h₂ (fun ok s₃ h₃ => ?_) fun _ _ h' => h')) fun _ _ h' => h')
  cases ok with
  | false => exact wpAny_pure ⟨rfl,h₃⟩
  | true =>
   exact wpAny_bind (wpAny_bind (wpAny_mono h₃ (fun x s₄ h₄ => wpAny_bind (wpAny_mono h₄ (fun _ s₅ h₅ => wpAny_pure (wpAny_pure ⟨rfl,h₅⟩)) fun _ _ h' => h')) fun _ _ h' => h'))
section
variable {X : Cx}
def tLc (wi : TI) (g : TG) (tt : TT) (te : TE) (vs : List Nat) : TE := fun σ H Q => wi σ H fun J H1 => ∀ D,H1 D = none → ∃ W : Nat → Nat → Hp → Prop,(∃ m,W 0 m (upd H1 D (.lst []))) ∧ ∀ i m H,W i m H →
 (J.stop i H ∧ Q (.ref D) H) ∨ (J.go i H ∧ ∃ Nx : Hp → Prop,(∀ H',Nx H' → ∃ m',m' < m ∧ W (i + 1) m' H') ∧ ∀ x H',J.yld i H x H' → g x (wipe σ vs) H' fun σ2 H2 => wipe σ2 vs = wipe σ vs ∧ tt σ2 H2 fun b H3 =>
  if b = true then te σ2 H3 fun y H4 => ∃ acc,H4 D = some (.lst acc) ∧ acc.length < sizeLine ∧ Nx (upd H4 D (.lst (acc ++ [y]))) else Nx H3)
theorem jjd {pins : List (Addr × Obj)} {s : Shared} {σ : St} {H : Hp} {Q : VK} {elt tg iter : Expr} {ifs : List Expr} {scope : Scope} {own : List (Str × Nat)} {pos pos' : Pos} {wi : TI} {g : TG} {tt : TT} {te : TE} {use : Option (Value → Sem Unit)} {Qf : Value → Shared → Prop}
  (hc : X.calm = true) (hN : X.N.Nodup) (I : Inv X pins σ H s) (hi : PI X tg iter wi) (ok : BlkOk X.N X.env.scope scope own)
  (hg : ∀ (s : Shared) (H : Hp) (C : Addr) (cl : List (Str × Addr)) (fp : List Addr),PG (X.blk s H scope (compEnvC scope cl C X.env) fp) tg g) (ht : ∀ (s : Shared) (H : Hp) (C : Addr) (cl : List (Str × Addr)) (fp : List Addr),PTs (X.blk s H scope (compEnvC scope cl C X.env) fp) ifs tt)
  (he : ∀ (s : Shared) (H : Hp) (C : Addr) (cl : List (Str × Addr)) (fp : List Addr),PE (X.blk s H scope (compEnvC scope cl C X.env) fp) elt te) (hs : ∀ x,foldedSetIterable iter X.env x = pure x)
  (h : tLc wi g tt te (own.map (·.2)) σ H Q)
  (hRR : ∀ D C s' m H',Inv X pins σ H' s' → Q (.ref D) H' → s'.heap.Ns C m → FpOk X pins H' C → compPost (model X.prog X.w) X.A X.xe use Qf (.ref D) C (.ok .next) s') :
  wpAny (model X.prog X.w) X.A (comprehension (.ListComp elt [⟨tg,iter,ifs,0⟩] scope pos) scope X.env pos' (newList []) false (eval iter X.env) use) Qf X.xe s := by
 have hfree : ∀ y ∈ scope.names,y.2 = .free → ∃ c,X.env.cells.lookup y.1 = some c := fun y hy e => by
  rcases ok.free y hy e with k | k
  ·exact I.ok.has _ (.inl k)
  ·exact I.ok.has _ (.inr k)
 refine wpAny_comprehension_free (use := use) rfl hs (jip hfree) ok.kind (fun y hy e => by rw [ok.uniq y hy,e])
  (thn (hi pins s σ H _ I h) fun xv s1 hx => thn hx fun itv s2 h2 => ?_)
 obtain ⟨it,fp,tn,J,H2,e,I2,T,st2,f2,q⟩ := h2
 subst e
 refine wpAny_newObj_type (jg1 ?_) (by show 0 ≤ sizeLine;decide)
 generalize hD : s2.heap.objs.size = D
 have hDn : H2 D = none := I2.hok.fresh (Nat.le_of_eq hD)
 obtain ⟨W,⟨m0,w0⟩,turn⟩ := q D hDn
 generalize hs3 : ({ s2 with heap := s2.heap.push { cls := .type "list",data := .seq ([] : List Value).toArray } } : Shared) = s3
 have I3 : Inv X pins σ (upd H2 D (.lst [])) s3 := by
  rw [← hs3]
  refine I2.laid (t' := s2.toks) (fun b o e => Heap.get?_push_of_some _ e) (Nat.le_of_eq hD) ⟨Nat.zero_le _,[],0,.nil,?_⟩
  rw [← hD]
  exact Heap.get?_push_size _ rfl
 have h3 : s3.heap = s2.heap.push { cls := .type "list",data := .seq ([] : List Value).toArray } := by rw [← hs3]
 have sz : ∀ b ∈ fp,b < s2.heap.objs.size := fun b hb => by
  obtain ⟨o,e,_⟩ := T.obj _ _ st2 b hb
  exact Heap.lt_size e
 have f3 : ∀ b ∈ fp,FpOk X pins (upd H2 D (.lst [])) b ∧ b < s3.heap.objs.size := fun b hb => by
  have hlt := sz b hb
  refine ⟨⟨?_,(f2 b hb).2⟩,by rw [h3,Heap.size_push];exact Nat.lt_succ_of_lt hlt⟩
  rw [jB (by rw [← hD];exact Nat.ne_of_lt hlt)]
  exact (f2 b hb).1
 have st3 : tn 0 s3.heap := T.keep _ _ _ st2 fun b _ o e => by rw [h3];exact Heap.get?_push_of_some _ e
 have I4 := jhl I3 ok hN f3
 have pg := hg s3 (upd H2 D (.lst [])) s3.heap.objs.size (cellsFrom (s3.heap.objs.size + 1) scope.names (zK X.env.cells scope.names [])) fp
 have pt := ht s3 (upd H2 D (.lst [])) s3.heap.objs.size (cellsFrom (s3.heap.objs.size + 1) scope.names (zK X.env.cells scope.names [])) fp
 have pe := he s3 (upd H2 D (.lst [])) s3.heap.objs.size (cellsFrom (s3.heap.objs.size + 1) scope.names (zK X.env.cells scope.names [])) fp
 show codeAny _ _ (.compStart (.ListComp elt [⟨tg,iter,ifs,0⟩] scope pos) 0 (.ref it) (.ref D) (compEnvC scope (cellsFrom (s3.heap.objs.size + 1) scope.names (zK X.env.cells scope.names [])) s3.heap.objs.size X.env)) (compPost (model X.prog X.w) X.A X.xe use Qf (.ref D) s3.heap.objs.size) { s3 with heap := pushCells (s3.heap.push { cls := .type "dict",data := .dict #[] }) scope.names }
 have nfp : ∀ b ∈ fp,(upd H2 D (.lst [])) b = none := fun b hb => (f3 b hb).1.1
 generalize hce : compEnvC scope (cellsFrom (s3.heap.objs.size + 1) scope.names (zK X.env.cells scope.names [])) s3.heap.objs.size X.env = ce at I4 pg pt pe ⊢
 have cL : ce.locals = s3.heap.objs.size := by subst hce;rfl
 generalize hH3 : upd H2 D (.lst []) = H3 at I3 I4 pg pt pe w0 nfp f3
 generalize hs4 : ({ s3 with heap := pushCells (s3.heap.push { cls := .type "dict",data := .dict #[] }) scope.names } : Shared) = s4 at I4 ⊢
 have st4 : tn 0 s4.heap := T.keep _ _ _ st3 fun b _ o e => by rw [← hs4];exact pushCells_keeps _ _ _ _ (Heap.get?_push_of_some _ e)
 have stat : ∀ {σ' : St} {H' : Hp} {s' : Shared},Inv (X.blk s3 H3 scope ce fp) [] σ' H' s' → (∀ b ∈ fp,H' b = none) → ∀ b ∈ fp,FpOk (X.blk s3 H3 scope ce fp) [] H' b := fun {σ' H' s'} I' hn b hb =>
  ⟨hn b hb,(I'.ok.exf b hb).1,I'.ok.exfs b hb,.inl hb,fun x c e => (I'.ok.exf b hb).2 x c e,fun p hp => absurd (show p ∈ ([] : List (Addr × Obj)) ++ [] from hp) (by simp)⟩
 have loop : codeAny (model X.prog X.w) X.A (.compLoop (.ListComp elt [⟨tg,iter,ifs,0⟩] scope pos) 0 (.ref it) (.ref D) ce) (compPost (model X.prog X.w) X.A X.xe use Qf (.ref D) s3.heap.objs.size) s4 := by
  refine jgw (fun n s' => ∃ i H',Inv (X.blk s3 H3 scope ce fp) [] (wipe σ (own.map (·.2))) H' s' ∧ tn i s'.heap ∧ (∀ b ∈ fp,H' b = none) ∧ W i n H') ?_ m0 ⟨0,H3,I4,st4,nfp,w0⟩
  rintro n s5 ⟨i,H5,I5,st5,n5,w5⟩
  rcases turn i n H5 w5 with ⟨stop,qq⟩ | ⟨go,Nx,hNx,step⟩
  ·have td := T.done (X.blk s3 H3 scope ce fp) rfl rfl rfl hc i [] s5 _ H5 (fun _ _ => False) I5 (stat I5 n5) st5 stop
   refine thnF td fun r s6 ⟨hr,I6⟩ => ?_
   subst hr
   have I7 : Inv X pins σ H5 s6 := I3.call' (ch := fp) I6.os I6.base I6.hok I6.bare fun b hb => ⟨(f3 b hb).1.2.2.2.1,(f3 b hb).1.2.1,(f3 b hb).1.2.2.2.2.1,(f3 b hb).1.2.2.2.2.2⟩
   have nC : H5 s3.heap.objs.size = none := by
    have z : H5 ce.locals = none := I6.free
    rw [cL] at z
    exact z
   obtain ⟨m,hn,_⟩ := I6.loc
   have hn : s6.heap.Ns ce.locals m := hn
   rw [cL] at hn
   exact hRR D s3.heap.objs.size s6 m H5 I7 qq hn (I3.fpOk (Nat.le_refl _) nC)
  ·have ti := T.item (X.blk s3 H3 scope ce fp) rfl rfl rfl hc i [] s5 _ H5 (fun _ _ => False) I5 (stat I5 n5) st5 go
   refine thnF ti fun r s6 ⟨u,hr,h6⟩ => ?_
   subst hr
   refine thnF h6 fun _ s7 ⟨x,H7,I7,r7,y7,st7,n7⟩ => ?_
   have I7' := I7.pinned (stat I7 n7) (T.obj _ _ st7)
   refine thnF (pg _ s7 _ H7 x u _ I7' r7 (step x H7 y7)) fun _ s8 ⟨σ8,H8,I8,hw8,q8⟩ => ?_
   refine thnF (pt _ s8 σ8 H8 _ I8 q8) fun b s9 ⟨H9,I9,q9⟩ => ?_
   have fin : ∀ {s' : Shared} {H' : Hp},Inv (X.blk s3 H3 scope ce fp) ([] ++ jfY fp s7.heap) σ8 H' s' → Nx H' → ∃ m,m < n ∧ ∃ i H',Inv (X.blk s3 H3 scope ce fp) [] (wipe σ (own.map (·.2))) H' s' ∧ tn i s'.heap ∧ (∀ b ∈ fp,H' b = none) ∧ W i m H' := fun {s' H'} I' nx => by
    obtain ⟨m',hm,w'⟩ := hNx H' nx
    have pin' : ∀ b ∈ fp,∀ o,s7.heap.get? b = some o → s'.heap.get? b = some o ∧ H' b = none := fun b hb o e =>
     let z := I'.pin (b,o) (List.mem_append_right _ (List.mem_append_right _ (jci hb e)))
     ⟨z.1,z.2.1⟩
    have hl : (wipe σ (own.map (·.2))).length = σ8.length := by rw [← hw8,jbf]
    refine ⟨m',hm,i + 1,H',(I'.unpinned (pins := [])).weak hl (fun j v e => ?_),T.keep _ _ _ st7 fun b hb o e => (pin' b hb o e).1,fun b hb => ?_,w'⟩
    ·rw [← hw8] at e
     exact (jdl e).1
    ·obtain ⟨o,e,_⟩ := T.obj _ _ st7 b hb
     exact (pin' b hb o e).2
   cases b with
   | false =>
    simp only [Bool.false_eq_true,if_false] at q9 ⊢
    exact fin I9 q9
   | true =>
    simp only [if_true] at q9 ⊢
    refine thnF (pe _ s9 σ8 H9 _ I9 q9) fun z s10 ⟨yv,H10,I10,r10,acc,hD10,hz10,nx⟩ => ?_
    exact jmo (X := X.blk s3 H3 scope ce fp) I10 hD10 hz10 r10 fun s11 I11 => fin I11 nx
 exact codeAny_compStart_list loop (T.self X.A 0 _ _ _ st4 loop)
theorem pe_lc {elt tg iter : Expr} {ifs : List Expr} {scope : Scope} {own : List (Str × Nat)} {pos : Pos} {wi : TI} {g : TG} {tt : TT} {te : TE} (hc : X.calm = true) (hN : X.N.Nodup) (hi : PI X tg iter wi) (ok : BlkOk X.N X.env.scope scope own)
  (hg : ∀ (s : Shared) (H : Hp) (C : Addr) (cl : List (Str × Addr)) (fp : List Addr),PG (X.blk s H scope (compEnvC scope cl C X.env) fp) tg g) (ht : ∀ (s : Shared) (H : Hp) (C : Addr) (cl : List (Str × Addr)) (fp : List Addr),PTs (X.blk s H scope (compEnvC scope cl C X.env) fp) ifs tt)
  (he : ∀ (s : Shared) (H : Hp) (C : Addr) (cl : List (Str × Addr)) (fp : List Addr),PE (X.blk s H scope (compEnvC scope cl C X.env) fp) elt te) (hs : ∀ x,foldedSetIterable iter X.env x = pure x := by intro _;rfl) :
  PE X (.ListComp elt [⟨tg,iter,ifs,0⟩] scope pos) (tLc wi g tt te (own.map (·.2))) := by
 intro pins s σ H Q I h
 rw [eval_ListComp]
 refine jjd hc hN I hi ok hg ht he hs h fun D C s' m H' I' q hn f => ⟨m,hn,fun h'' sb => ?_⟩
 obtain ⟨f0,f1,f2,f3,f4,f5⟩ := f
 exact ⟨.ref D,H',I'.turned (t' := s'.toks) (fun b o hb e => (sb.2 b hb).trans e) f0 f1 f3 f4 f5,rfl,q⟩
theorem ps_setLc {i : Nat} {y : Str} {py : Pos} {elt tg iter : Expr} {ifs : List Expr} {scope : Scope} {own : List (Str × Nat)} {pos spos : Pos} {wi : TI} {g : TG} {tt : TT} {te : TE} (hc : X.calm = true) (hN : X.N.Nodup) (hy : X.N[i]? = some y) (hyl : X.env.scope.names.lookup y = some .local)
  (hsw : swapsWith (.ListComp elt [⟨tg,iter,ifs,0⟩] scope pos) (some (.Name y py)) spos.line X.env = pure true) (hi : PI X tg iter wi) (ok : BlkOk X.N X.env.scope scope own)
  (hg : ∀ (s : Shared) (H : Hp) (C : Addr) (cl : List (Str × Addr)) (fp : List Addr),PG (X.blk s H scope (compEnvC scope cl C X.env) fp) tg g) (ht : ∀ (s : Shared) (H : Hp) (C : Addr) (cl : List (Str × Addr)) (fp : List Addr),PTs (X.blk s H scope (compEnvC scope cl C X.env) fp) ifs tt)
  (he : ∀ (s : Shared) (H : Hp) (C : Addr) (cl : List (Str × Addr)) (fp : List Addr),PE (X.blk s H scope (compEnvC scope cl C X.env) fp) elt te) (hs : ∀ x,foldedSetIterable iter X.env x = pure x := by intro _;rfl) :
  PS X (.Assign [.Name y py] (.ListComp elt [⟨tg,iter,ifs,0⟩] scope pos) spos) (tAsg (tLc wi g tt te (own.map (·.2))) (gName i)) := by
 intro pins s σ H D I h
 rw [exec_Assign_Name_used _ _ _ _ hsw]
 refine wpAny_bind (wpAny_standAt (wpAny_bind ?_))
 show wpAny _ X.A (do let _ ← comprehension (.ListComp elt [⟨tg,iter,ifs,0⟩] scope pos) scope X.env (firstIterPos [⟨tg,iter,ifs,0⟩] pos) (newList []) false (eval iter X.env) (some (assign (.Name y py) X.env))) _ _ s
 have h : tLc wi g tt te (own.map (·.2)) σ H (fun x H1 => gName i x σ H1 D.nx) := h
 refine wpAny_bind (thn (jjd (Qf := fun _ s' => SP X pins D .next s') hc hN I hi ok hg ht he hs h fun L C s' m H' I' q hn f => ?_) fun _ s' hq => wpAny_pure (wpAny_pure hq))
 show wpAny _ _ (assign (.Name y py) X.env (.ref L)) _ _ _
 refine wpAny_assign_Name (jfQ (v := V.ref L) I' hN hy (.inl hyl) rfl (fun s2 I2 ⟨a,sb,ha⟩ => ?_) (.inr hyl))
 obtain ⟨f0,f1,f2,f3,f4,f5⟩ := f
 have haC : C ≠ a := by
  rcases ha with z | z
  ·rw [z];exact f1
  ·exact fun e => f4 y a z e.symm
 refine ⟨m,hn.sameBut sb haC,fun h3 sb3 => ?_⟩
 exact ⟨_,H',I2.turned (t' := s2.toks) (fun b o hb e => (sb3.2 b hb).trans e) f0 f1 f3 f4 f5,q⟩
theorem jds {elt : Expr} {gs : List Comprehension} {scope : Scope} {pos py : Pos} {y : Str} {l : Nat} {env : Env} (hk : env.scope.kind = .function) (hy : env.scope.names.lookup y = some .local) (hl : (py.line == pos.line) = true)
  (ha : (scope.names.any fun (n,k) => n == y && (k == .local || k == .cell)) = false) : swapsWith (.ListComp elt gs scope pos) (some (.Name y py)) l env = pure true := by
 have ky : env.kindOf y = some .local := hy
 have hb : env.blockKind = .function := by unfold Env.blockKind;rw [hk];rfl
 unfold swapsWith
 simp only [hb,ky,ha,Expr.pos,hl]
 rfl
end
theorem jhQ {lo : Int} {n : Nat} {g : TG} {tt : TT} {te : TE} {vs : List Nat} {σ : St} {H1 : Hp} {D : Addr} {Qd : Hp → Prop} (Pv : Nat → Hp → Prop) (h0 : Pv 0 (upd H1 D (.lst [])))
  (hs : ∀ i H,i < n → Pv i H → g (.int (lo + i)) (wipe σ vs) H fun σ2 H2 => wipe σ2 vs = wipe σ vs ∧ tt σ2 H2 fun b H3 =>
   if b = true then te σ2 H3 fun y H4 => ∃ acc,H4 D = some (.lst acc) ∧ acc.length < sizeLine ∧ Pv (i + 1) (upd H4 D (.lst (acc ++ [y]))) else Pv (i + 1) H3) (hd : ∀ H,Pv n H → Qd H) :
  ∃ W : Nat → Nat → Hp → Prop,(∃ m,W 0 m (upd H1 D (.lst []))) ∧ ∀ i m H,W i m H →
   ((Itr lo n).stop i H ∧ Qd H) ∨ ((Itr lo n).go i H ∧ ∃ Nx : Hp → Prop,(∀ H',Nx H' → ∃ m',m' < m ∧ W (i + 1) m' H') ∧ ∀ x H',(Itr lo n).yld i H x H' → g x (wipe σ vs) H' fun σ2 H2 => wipe σ2 vs = wipe σ vs ∧ tt σ2 H2 fun b H3 =>
    if b = true then te σ2 H3 fun y H4 => ∃ acc,H4 D = some (.lst acc) ∧ acc.length < sizeLine ∧ Nx (upd H4 D (.lst (acc ++ [y]))) else Nx H3) := by
 refine ⟨fun i m H => m = n - i ∧ i ≤ n ∧ Pv i H,⟨n,by simp,Nat.zero_le _,h0⟩,?_⟩
 rintro i m H ⟨rfl,hi,p⟩
 by_cases hlt : i < n
 ·refine .inr ⟨hlt,Pv (i + 1),fun H' p' => ⟨n - (i + 1),by omega,rfl,hlt,p'⟩,fun x H' y => ?_⟩
  obtain ⟨e,y⟩ := y
  subst e y
  exact hs i _ hlt p
 ·have e : i = n := by omega
  subst e
  exact .inl ⟨Nat.le_refl _,hd H p⟩
theorem jg8 {K : PySem.W.Frag} {a : Addr} {xs : List V} {g : TG} {tt : TT} {te : TE} {vs : List Nat} {σ : St} {H1 : Hp} {D : Addr} {Qd : Hp → Prop} (Pv : Nat → Hp → Prop) (h0 : Pv 0 (upd H1 D (.lst []))) (hl : ∀ i H,i ≤ xs.length → Pv i H → SqL K H a xs)
  (hs : ∀ i x H,xs[i]? = some x → Pv i H → g x (wipe σ vs) H fun σ2 H2 => wipe σ2 vs = wipe σ vs ∧ tt σ2 H2 fun b H3 =>
   if b = true then te σ2 H3 fun y H4 => ∃ acc,H4 D = some (.lst acc) ∧ acc.length < sizeLine ∧ Pv (i + 1) (upd H4 D (.lst (acc ++ [y]))) else Pv (i + 1) H3) (hd : ∀ H,Pv xs.length H → Qd H) :
  ∃ W : Nat → Nat → Hp → Prop,(∃ m,W 0 m (upd H1 D (.lst []))) ∧ ∀ i m H,W i m H →
   ((Itl K a).stop i H ∧ Qd H) ∨ ((Itl K a).go i H ∧ ∃ Nx : Hp → Prop,(∀ H',Nx H' → ∃ m',m' < m ∧ W (i + 1) m' H') ∧ ∀ x H',(Itl K a).yld i H x H' → g x (wipe σ vs) H' fun σ2 H2 => wipe σ2 vs = wipe σ vs ∧ tt σ2 H2 fun b H3 =>
    if b = true then te σ2 H3 fun y H4 => ∃ acc,H4 D = some (.lst acc) ∧ acc.length < sizeLine ∧ Nx (upd H4 D (.lst (acc ++ [y]))) else Nx H3) := by
 refine ⟨fun i m H => m = xs.length - i ∧ i ≤ xs.length ∧ Pv i H,⟨xs.length,by simp,Nat.zero_le _,h0⟩,?_⟩
 rintro i m H ⟨rfl,hi,p⟩
 have q := hl i H hi p
 by_cases hlt : i < xs.length
 ·refine .inr ⟨⟨xs,xs[i],q,by simp [hlt]⟩,Pv (i + 1),fun H' p' => ⟨xs.length - (i + 1),by omega,rfl,hlt,p'⟩,fun x H' y => ?_⟩
  obtain ⟨e,y⟩ := y
  subst e
  exact hs i x _ (y xs q) p
 ·have e : i = xs.length := by omega
  subst e
  exact .inl ⟨⟨xs,q,Nat.le_refl _⟩,hd H p⟩
theorem jeM {K : PySem.W.Frag} {a : Addr} {xs : List V} {g : TG} {tt : TT} {te : TE} {vs : List Nat} {σ : St} {H1 : Hp} {D : Addr} {Qd : Hp → Prop} (Pv : Nat → Hp → Prop) (h0 : Pv 0 (upd H1 D (.lst []))) (hl : ∀ i H,i ≤ xs.length → Pv i H → SqT K H a xs)
  (hs : ∀ i x H,xs[i]? = some x → Pv i H → g x (wipe σ vs) H fun σ2 H2 => wipe σ2 vs = wipe σ vs ∧ tt σ2 H2 fun b H3 =>
   if b = true then te σ2 H3 fun y H4 => ∃ acc,H4 D = some (.lst acc) ∧ acc.length < sizeLine ∧ Pv (i + 1) (upd H4 D (.lst (acc ++ [y]))) else Pv (i + 1) H3) (hd : ∀ H,Pv xs.length H → Qd H) :
  ∃ W : Nat → Nat → Hp → Prop,(∃ m,W 0 m (upd H1 D (.lst []))) ∧ ∀ i m H,W i m H →
   ((Itt K a).stop i H ∧ Qd H) ∨ ((Itt K a).go i H ∧ ∃ Nx : Hp → Prop,(∀ H',Nx H' → ∃ m',m' < m ∧ W (i + 1) m' H') ∧ ∀ x H',(Itt K a).yld i H x H' → g x (wipe σ vs) H' fun σ2 H2 => wipe σ2 vs = wipe σ vs ∧ tt σ2 H2 fun b H3 =>
    if b = true then te σ2 H3 fun y H4 => ∃ acc,H4 D = some (.lst acc) ∧ acc.length < sizeLine ∧ Nx (upd H4 D (.lst (acc ++ [y]))) else Nx H3) := by
 refine ⟨fun i m H => m = xs.length - i ∧ i ≤ xs.length ∧ Pv i H,⟨xs.length,by simp,Nat.zero_le _,h0⟩,?_⟩
 rintro i m H ⟨rfl,hi,p⟩
 have q := hl i H hi p
 by_cases hlt : i < xs.length
 ·refine .inr ⟨⟨xs,xs[i],q,by simp [hlt]⟩,Pv (i + 1),fun H' p' => ⟨xs.length - (i + 1),by omega,rfl,hlt,p'⟩,fun x H' y => ?_⟩
  obtain ⟨e,y⟩ := y
  subst e
  exact hs i x _ (y xs q) p
 ·have e : i = xs.length := by omega
  subst e
  exact .inl ⟨⟨xs,q,Nat.le_refl _⟩,hd H p⟩
def blkC (N : List Str) (sc scope : Scope) (own : List (Str × Nat)) : Bool :=
 (match scope.kind with | .function => true | _ => false) && (scope.names.all fun y => decide (scope.names.lookup y.1 = some y.2)) && (own.all fun p => decide (N[p.2]? = some p.1)) &&
  (scope.names.all fun y => match y.2 with
   | .free => (match sc.names.lookup y.1 with | some .cell => true | some .free => true | _ => false)
   | .local => decide (y.1 ∈ own.map (·.1)) || decide (y.1 ∉ N)
   | .cell => decide (y.1 ∈ own.map (·.1)) || decide (y.1 ∉ N)
   | _ => true)
theorem yC {N : List Str} {sc scope : Scope} {own : List (Str × Nat)} (h : blkC N sc scope own = true) : BlkOk N sc scope own := by
 unfold blkC at h
 simp only [Bool.and_eq_true,List.all_eq_true,decide_eq_true_eq] at h
 obtain ⟨⟨⟨h1,h2⟩,h3⟩,h4⟩ := h
 refine ⟨?_,h2,h3,fun y hy e => ?_,fun y hy e => ?_⟩
 ·split at h1
  ·assumption
  ·cases h1
 ·have q := h4 y hy
  simp only [e] at q
  split at q <;> first | exact .inl (by assumption) | exact .inr (by assumption) | cases q
 ·have q := h4 y hy
  rcases e with e | e <;> (simp only [e,Bool.or_eq_true,decide_eq_true_eq] at q;exact q)
end L2
namespace L2
open PySem PySem.Spec PyProof.Rows
section
variable {prog : Program} {w : World} {A : Around} {R : Result → Shared → Prop} {s : Shared} {elt t0 i0 t1 i1 : Expr} {ifs0 ifs1 : List Expr} {scope : Scope} {pos : Pos} {it acc : Value} {env : Env}
end
section
variable {X : Cx}
end
end L2
namespace L2
open PySem PySem.Spec PyProof.Rows
section
variable {κ : Type} [DecidableEq κ]
def valV (kvs : List (κ × V)) (k : κ) : Option V := (kvs.find? fun kv => decide (kv.1 = k)).map (·.2)
def putK (kvs : List (κ × V)) (k : κ) (v : V) : List (κ × V) :=
 if (kvs.any fun kv => decide (kv.1 = k)) = true then kvs.map (fun kv => if kv.1 = k then (kv.1,v) else kv) else kvs ++ [(k,v)]
def jko (kvs : List (κ × V)) (k : κ) : List (κ × V) := kvs.filter fun kv => decide (kv.1 ≠ k)
theorem jeR {p : κ × V} {r : List (κ × V)} {k : κ} (e : p.1 = k) : valV (p :: r) k = some p.2 := by simp [valV,List.find?_cons,e]
theorem jeS {p : κ × V} {r : List (κ × V)} {k : κ} (e : ¬ p.1 = k) : valV (p :: r) k = valV r k := by simp [valV,List.find?_cons,e]
theorem jhx (k : κ) : ∀ kvs : List (κ × V),(kvs.any fun kv => decide (kv.1 = k)) = (valV kvs k).isSome
 | [] => rfl
 | p :: r => by
  rw [List.any_cons]
  by_cases e : p.1 = k
  ·simp only [jeR e,decide_eq_true e,Bool.true_or,Option.isSome_some]
  ·rw [jeS e,decide_eq_false e,Bool.false_or];exact jhx k r
theorem jbk (kvs : List (κ × V)) (k : κ) (v : V) : (putK kvs k v).length ≤ kvs.length + 1 := by
 unfold putK
 split
 ·rw [List.length_map];omega
 ·rw [List.length_append,List.length_cons,List.length_nil];omega
theorem RelO.isSome_eq {o : Option V} {u : Option Value} (r : RelO o u) : o.isSome = u.isSome := by
 cases o with
 | none => cases u with
  | none => rfl
  | some _ => exact (show False from r).elim
 | some _ => cases u with
  | none => exact (show False from r).elim
  | some _ => rfl
theorem RelO.getD {o : Option V} {u : Option Value} {d : V} {d' : Value} (r : RelO o u) (rd : RelV d d') : RelV (o.getD d) (u.getD d') := by
 cases o with
 | none => cases u with
  | none => exact rd
  | some _ => exact (show False from r).elim
 | some _ => cases u with
  | none => exact (show False from r).elim
  | some _ => exact r
theorem KV.val {kvs : List (κ × V)} {vs : List (κ × Value)} (r : KV kvs vs) (k : κ) : RelO (valV kvs k) (valueAt vs k) := by
 unfold KV at r
 induction r with
 | nil => exact True.intro
 | @cons p q ps qs h t ih =>
  obtain ⟨h1,h2⟩ := h
  by_cases e : p.1 = k
  ·have e' : q.1 = k := h1.symm.trans e
   have b : valueAt (q :: qs) k = some q.2 := by simp [valueAt,List.find?_cons,e']
   rw [jeR e,b];exact h2
  ·have e' : ¬ q.1 = k := fun z => e (h1.trans z)
   have b : valueAt (q :: qs) k = valueAt qs k := by simp [valueAt,List.find?_cons,e']
   rw [jeS e,b];exact ih
theorem KV.any {kvs : List (κ × V)} {vs : List (κ × Value)} (r : KV kvs vs) (k : κ) : (kvs.any fun kv => decide (kv.1 = k)) = vs.any fun kv => decide (kv.1 = k) := by
 unfold KV at r
 induction r with
 | nil => rfl
 | cons h t ih => rw [List.any_cons,List.any_cons,ih,h.1]
theorem KV.repl {kvs : List (κ × V)} {vs : List (κ × Value)} (r : KV kvs vs) (k : κ) {y : V} {u : Value} (ry : RelV y u) :
  KV (kvs.map fun kv => if kv.1 = k then (kv.1,y) else kv) (vs.map fun kv => if kv.1 = k then (kv.1,u) else kv) := by
 unfold KV at r ⊢
 induction r with
 | nil => exact .nil
 | @cons p q ps qs h t ih =>
  rw [List.map_cons,List.map_cons]
  refine .cons ?_ ih
  obtain ⟨h1,h2⟩ := h
  by_cases e : p.1 = k
  ·rw [if_pos e,if_pos (h1.symm.trans e)];exact ⟨h1,ry⟩
  ·rw [if_neg e,if_neg (fun z => e (h1.trans z))];exact ⟨h1,h2⟩
theorem KV.put {kvs : List (κ × V)} {vs : List (κ × Value)} (r : KV kvs vs) (k : κ) {y : V} {u : Value} (ry : RelV y u) : KV (putK kvs k y) (stored vs k u) := by
 unfold putK stored
 rw [r.any k]
 by_cases e : (vs.any fun kv => decide (kv.1 = k)) = true
 ·rw [if_pos e,if_pos e];exact r.repl k ry
 ·rw [if_neg e,if_neg e];exact Paired.snoc r ⟨rfl,ry⟩
theorem KV.drop {kvs : List (κ × V)} {vs : List (κ × Value)} (r : KV kvs vs) (k : κ) : KV (jko kvs k) (without vs k) := by
 unfold KV at r ⊢
 unfold jko without
 induction r with
 | nil => exact .nil
 | @cons p q ps qs h t ih =>
  obtain ⟨h1,h2⟩ := h
  rw [List.filter_cons,List.filter_cons]
  by_cases e : p.1 = k
  ·have a : ¬ decide (p.1 ≠ k) = true := by simp [e]
   have b : ¬ decide (q.1 ≠ k) = true := by simp [h1.symm.trans e]
   rw [if_neg a,if_neg b];exact ih
  ·have e' : ¬ q.1 = k := fun z => e (h1.trans z)
   have a : decide (p.1 ≠ k) = true := by simp [e]
   have b : decide (q.1 ≠ k) = true := by simp [e']
   rw [if_pos a,if_pos b];exact .cons ⟨h1,h2⟩ ih
theorem KV.length {kvs : List (κ × V)} {vs : List (κ × Value)} (r : KV kvs vs) : kvs.length = vs.length := Paired.length r
end
theorem jen {P : Program} {w : World} {k : Key} {u : Value} (r : RelV (kV k) u) : (zV P w).is k u = true := by
 cases k with
 | inl i => obtain ⟨t,e⟩ := (show ∃ t,u = Value.int i t from r);subst e;exact jg5 P w i t
 | inr x => obtain ⟨t,e⟩ := (show ∃ t,u = Value.str x t from r);subst e;exact jg4 P w x t
theorem jgf {P : Program} {w : World} : ∀ {ks : List Key} {us : List Value},Vals (ks.map kV) us → ItemsAre (zV P w) ks us
 | [],_,r => by rw [List.map_nil] at r;cases r;exact .nil
 | k :: ks,_,r => by
  rw [List.map_cons] at r
  cases r with
  | cons h t => exact .cons (jen h) (jgf t)
abbrev KT (H : Hp) : List (List Key × V) → List (List Key × Addr × Value) → Prop := Paired fun p q => p.1 = q.1 ∧ H q.2.1 = some (.tup (p.1.map kV)) ∧ RelV p.2 q.2.2
theorem KT.val {H : Hp} {kvs : List (List Key × V)} {xs : List (List Key × Addr × Value)} (r : KT H kvs xs) (k : List Key) : RelO (valV kvs k) ((atKey xs k).map (·.2)) := by
 induction r with
 | nil => exact True.intro
 | @cons p q ps qs h t ih =>
  obtain ⟨h1,_,h2⟩ := h
  by_cases e : p.1 = k
  ·have e' : q.1 = k := h1.symm.trans e
   have b : atKey (q :: qs) k = some q.2 := by simp [atKey,List.find?_cons,e']
   rw [jeR e,b];exact h2
  ·have e' : ¬ q.1 = k := fun z => e (h1.trans z)
   have b : atKey (q :: qs) k = atKey qs k := by simp [atKey,List.find?_cons,e']
   rw [jeS e,b];exact ih
theorem KT.repl {H : Hp} {kvs : List (List Key × V)} {xs : List (List Key × Addr × Value)} (r : KT H kvs xs) (k : List Key) {y : V} {u : Value} (ry : RelV y u) :
  KT H (kvs.map fun kv => if kv.1 = k then (kv.1,y) else kv) (xs.map (putAt k u)) := by
 induction r with
 | nil => exact .nil
 | @cons p q ps qs h t ih =>
  rw [List.map_cons,List.map_cons]
  refine .cons ?_ ih
  obtain ⟨h1,h2,h3⟩ := h
  unfold putAt
  by_cases e : p.1 = k
  ·rw [if_pos e,if_pos (h1.symm.trans e)];exact ⟨h1,h2,ry⟩
  ·rw [if_neg e,if_neg (fun z => e (h1.trans z))];exact ⟨h1,h2,h3⟩
theorem KT.put {H : Hp} {kvs : List (List Key × V)} {xs : List (List Key × Addr × Value)} (r : KT H kvs xs) (k : List Key) {b : Addr} {y : V} {u : Value} (hb : H b = some (.tup (k.map kV))) (ry : RelV y u) :
  KT H (putK kvs k y) (storedH xs k b u) := by
 have e : (kvs.any fun kv => decide (kv.1 = k)) = (atKey xs k).isSome := by
  rw [jhx,(r.val k).isSome_eq,Option.isSome_map]
 unfold putK storedH
 rw [e]
 by_cases q : (atKey xs k).isSome = true
 ·rw [if_pos q,if_pos q];exact r.repl k ry
 ·rw [if_neg q,if_neg q];exact Paired.snoc r ⟨rfl,hb,ry⟩
theorem KT.keeps {H H' : Hp} {kvs : List (List Key × V)} {xs : List (List Key × Addr × Value)} (r : KT H kvs xs) (ht : ∀ b ys,H b = some (.tup ys) → H' b = some (.tup ys)) : KT H' kvs xs :=
 Paired.mapP r fun _ _ z => ⟨z.1,ht _ _ z.2.1,z.2.2⟩
section
variable {P : Program} {w : World} {H : Hp} {h : Heap} {a : Addr}
theorem jlH {u : HO} (ok : HOk P w H h) (e : Rd H a u) : ObjOk P w H h a u := e.ok ok
theorem jkp {kvs : List (Key × V)} (ok : HOk P w H h) (e : Rd H a (.dK kvs)) : kvs.length ≤ sizeLine ∧ (a == sysModules) = false ∧ ∃ vs,KV kvs vs ∧ h.DictOf (zV P w) a vs :=
 show ObjOk P w H h a (.dK kvs) from jlH ok e
theorem jkq {kvs : List (Key × V)} (ok : HOk P w H h) (e : H a = some (.dK kvs)) : kvs.length ≤ sizeLine ∧ (a == sysModules) = false ∧ ∃ vs,KV kvs vs ∧ h.DictOf (zV P w) a vs := jkp ok (.inl e)
theorem jjf {ks : List Key} (ok : HOk P w H h) (e : H a = some (.tup (ks.map kV))) : (tupleKind (zV P w)).is h ks a := by
 obtain ⟨_,its,r,o,h1,h2,n,h3⟩ := (show ObjOk P w H h a (.tup (ks.map kV)) from ok a _ e)
 exact ⟨o,its.toArray,n,h1,h2,h3,by simpa using jgf r⟩
theorem jkn {kvs : List (List Key × V)} (ok : HOk P w H h) (e : Rd H a (.dT kvs)) : kvs.length ≤ sizeLine ∧ (a == sysModules) = false ∧
  ∃ xs,KT H kvs xs ∧ h.DictOfH (tupleKind (zV P w)) a xs := by
 obtain ⟨z,y,xs,r,o,es,ep,h1,h2,h3,h4,h5⟩ := (show ObjOk P w H h a (.dT kvs) from jlH ok e)
 refine ⟨z,y,xs,r,o,es,ep,h1,h2,h3,h4,fun x hx => ?_,h5⟩
 have all : ∀ {l : List (List Key × V)} {m : List (List Key × Addr × Value)},KT H l m → ∀ x ∈ m,(tupleKind (zV P w)).is h x.1 x.2.1 := by
  intro l m q
  induction q with
  | nil => intro x hx;exact nomatch hx
  | @cons p q ps qs hq t ih =>
   intro x hx
   rcases List.mem_cons.mp hx with e | hx
   ·subst e
    exact jjf ok (by rw [← hq.1];exact hq.2.1)
   ·exact ih x hx
 exact all r x hx
theorem jm0 {kvs : List (List Key × V)} (ok : HOk P w H h) (e : H a = some (.dT kvs)) : kvs.length ≤ sizeLine ∧ (a == sysModules) = false ∧
  ∃ xs,KT H kvs xs ∧ h.DictOfH (tupleKind (zV P w)) a xs := jkn ok (.inl e)
end
def DGet (H : Hp) (a : Addr) (y : V) (r : Option V) : Prop :=
 (∃ kvs k,Rd H a (.dK kvs) ∧ y = kV k ∧ r = valV kvs k) ∨ ∃ kvs k b,Rd H a (.dT kvs) ∧ y = .ref b ∧ H b = some (.tup (k.map kV)) ∧ r = valV kvs k
def DPut (H : Hp) (a : Addr) (y v : V) (H' : Hp) : Prop :=
 (∃ kvs k,H a = some (.dK kvs) ∧ y = kV k ∧ kvs.length < sizeLine ∧ H' = upd H a (.dK (putK kvs k v))) ∨
 ∃ kvs k b,H a = some (.dT kvs) ∧ y = .ref b ∧ H b = some (.tup (k.map kV)) ∧ kvs.length < sizeLine ∧ H' = upd H a (.dT (putK kvs k v))
theorem DGet.k {H : Hp} {a : Addr} {kvs : List (Key × V)} {k : Key} (e : H a = some (.dK kvs)) : DGet H a (kV k) (valV kvs k) := .inl ⟨kvs,k,.inl e,rfl,rfl⟩
theorem DGet.t {H : Hp} {a b : Addr} {kvs : List (List Key × V)} {k : List Key} (e : H a = some (.dT kvs)) (eb : H b = some (.tup (k.map kV))) : DGet H a (.ref b) (valV kvs k) := .inr ⟨kvs,k,b,.inl e,rfl,eb,rfl⟩
theorem DPut.k {H : Hp} {a : Addr} {kvs : List (Key × V)} {k : Key} {v : V} (e : H a = some (.dK kvs)) (hl : kvs.length < sizeLine) : DPut H a (kV k) v (upd H a (.dK (putK kvs k v))) := .inl ⟨kvs,k,e,rfl,hl,rfl⟩
theorem DPut.t {H : Hp} {a b : Addr} {kvs : List (List Key × V)} {k : List Key} {v : V} (e : H a = some (.dT kvs)) (eb : H b = some (.tup (k.map kV))) (hl : kvs.length < sizeLine) :
  DPut H a (.ref b) v (upd H a (.dT (putK kvs k v))) := .inr ⟨kvs,k,b,e,rfl,eb,hl,rfl⟩
section
variable {X : Cx} {pins : List (Addr × Obj)} {σ : St} {H : Hp} {s : Shared} {a : Addr} {y v : V} {u r : Value} {o : Option V} {A : Around} {E : Value → Shared → Prop}
theorem Inv.big (I : Inv X pins σ H s) : sysModules < s.heap.objs.size := by
 have h : mainGlobals < s.heap.objs.size := (I.mod.glob.keeps I.bk).lt
 exact Nat.lt_trans (by decide) h
theorem jjA {Q : Value → Shared → Prop} (hu : A.units + 1 < cLine) (I : Inv X pins σ H s) (g : DGet H a y (some v)) (ry : RelV y u) (h : ∀ w' s',Inv X pins σ H s' → RelV v w' → Q w' s') :
  wpAny (model X.prog X.w) A (getItem (.ref a) u) Q E s := by
 rcases g with ⟨kvs,k,e,ey,l⟩ | ⟨kvs,k,b,e,ey,eb,l⟩
 ·subst ey
  obtain ⟨z,hd,vs,rel,dd⟩ := jkp I.hok e
  obtain ⟨w',hw,rw'⟩ := RelO.some_of (v := v) (o := valueAt vs k) (by rw [l];exact rel.val k)
  exact wpAny_getItem_of (jen ry) dd.mapOf hw (h w' _ (I.tok _) rw')
 ·subst ey
  cases (show u = Value.ref b from ry)
  obtain ⟨z,hd,xs,rel,dd⟩ := jkn I.hok e
  obtain ⟨w',hw,rw'⟩ := RelO.some_of (v := v) (o := (atKey xs k).map (·.2)) (by rw [l];exact rel.val k)
  obtain ⟨p,hp,hp2⟩ := Option.map_eq_some_iff.mp hw
  refine wpAny_getItem_heap (tupleKind_room_in1 hu) (jjf I.hok eb) dd hp ?_
  rw [hp2]
  exact h w' _ (I.tok _) rw'
theorem jfE {h' : Heap} {t' : Nat} {ob : HO} (I : Inv X pins σ H s) (mu : Mut (H a)) (hs : Heap.SameBut a s.heap h') (he : ∃ q,h'.get? a = some q) (new : ObjOk X.prog X.w (upd H a ob) h' a ob) :
  Inv X pins σ (upd H a ob) { s with heap := h',toks := t' } :=
 I.write (x := a) (e := a) mu (.inl rfl) (fun b q hb z => (hs.2 b hb).trans z) he new
theorem jjs {P : Program} {w : World} {H' : Hp} {h' : Heap} {kvs : List (Key × V)} {vs : List (Key × Value)} (z : kvs.length ≤ sizeLine) (hd : (a == sysModules) = false) (rel : KV kvs vs) (dd : h'.DictOf (zV P w) a vs) :
  ObjOk P w H' h' a (.dK kvs) := ⟨z,hd,vs,rel,dd⟩
theorem jjz {H' : Hp} {Q : Unit → Shared → Prop} (hu : A.units + 1 < cLine) (I : Inv X pins σ H s) (g : DPut H a y v H') (ry : RelV y u) (rv : RelV v r) (h : ∀ s',Inv X pins σ H' s' → Q () s') :
  wpAny (model X.prog X.w) A (setItem (.ref a) u r) Q E s := by
 rcases g with ⟨kvs,k,e,ey,l,eH⟩ | ⟨kvs,k,b,e,ey,eb,l,eH⟩
 ·subst ey eH
  obtain ⟨z,hd,vs,rel,dd⟩ := jkq I.hok e
  have hz : vs.length ≤ sizeLine := by rw [← rel.length];exact z
  have hl : (putK kvs k v).length ≤ sizeLine := by have := jbk kvs k v;omega
  refine wpAny_setItem_pairs (hsz := hz) (jen ry) dd fun h' dd' hs => h _ ?_
  have he : ∃ q,h'.get? a = some q := let ⟨q,_,_,hq,_⟩ := dd';⟨q,hq⟩
  exact jfE I (by rw [e];exact True.intro) hs he (jjs hl hd (rel.put k rv) dd')
 ·subst ey eH
  cases (show u = Value.ref b from ry)
  obtain ⟨z,hd,xs,rel,dd⟩ := jm0 I.hok e
  have hz : xs.length ≤ sizeLine := by rw [← Paired.length rel];exact z
  have hl : (putK kvs k v).length ≤ sizeLine := by have := jbk kvs k v;omega
  refine wpAny_setItem_heap (hsz := hz) (tupleKind_room_in1 hu) (jjf I.hok eb) dd fun h' dd' hs => h _ ?_
  obtain ⟨q,es,ep,hq,h2,h3,h4,_,h5⟩ := dd'
  refine jfE I (by rw [e];exact True.intro) hs ⟨q,hq⟩ ⟨hl,hd,_,(rel.put k eb rv).keeps fun c ys ec => ?_,q,es,ep,hq,h2,h3,h4,h5⟩
  rw [jB (jmO ec e (fun z => nomatch z))]
  exact ec
end
section
variable {X : Cx} {pins : List (Addr × Obj)} {σ : St} {H : Hp} {s : Shared} {a : Addr} {kvs : List (Key × V)} {k : Key} {u : Value} {A : Around} {E : Value → Shared → Prop}
end
def NoSl (i : Expr) : Prop := ∀ ov iv,subscripted i false ov iv = operate [ov,iv] (getItem ov iv)
theorem jiH {prog : Program} {w : World} {A : Around} {E : Value → Shared → Prop} {s : Shared} {env : Env} {value slice : Expr} {pos : Pos} {T id : String} {Q : Value → Shared → Prop}
  (hl : typeLookup (.type T) "__getitem__" = pure (some (.builtin id))) (hs : NoSl slice)
  (h : wpAny (model prog w) A (eval value env) (fun o s₁ => wpAny (model prog w) A (eval slice env) (fun i s₂ => s₂.TypeIs o T ∧ wpAny (model prog w) A (getItem o i) Q E s₂) E s₁) E s) :
  wpAny (model prog w) A (eval (.Subscript value slice pos) env) Q E s := by
 refine Subscript_ (wpAny_mono h (fun o s₁ h₁ => wpAny_mono h₁ (fun i s₂ h₂ => ?_) fun _ _ x => x) fun _ _ x => x)
 obtain ⟨hT,h₂⟩ := h₂
 unfold subscriptTail
 refine wpAny_bind ?_
 rw [getitemInPython_of_ne hT.not_modules]
 refine wpAny_bind (wpAny_specialOf hT hl ?_)
 have fin : wpAny (model prog w) A (subscripted slice false o i) (fun r s₃ => wpAny (model prog w) A (letTemporaryGo value o r >>= fun _ => pure r) Q E s₃) E s₂ := by
  rw [hs o i]
  exact wpAny_operating (wpAny_mono h₂ (fun r s₃ h₃ => wpAny_bind (wpAny_letTemporaryGo (wpAny_pure h₃))) fun _ _ x => x)
 first
  | exact wpAny_pure (wpAny_bind fin)
  | exact wpAny_bind (wpAny_pure (wpAny_bind fin))
  | exact wpAny_bind fin
theorem jhf {X : Cx} {pins : List (Addr × Obj)} {σ : St} {H : Hp} {s : Shared} {a : Addr} {y : V} {o : Option V} (I : Inv X pins σ H s) (g : DGet H a y o) : s.TypeIs (.ref a) "dict" := by
 rcases g with ⟨kvs,k,e,_,_⟩ | ⟨kvs,k,b,e,_,_,_⟩
 ·obtain ⟨_,_,vs,_,dd⟩ := jkp I.hok e
  exact dd.typeIs
 ·obtain ⟨_,_,xs,_,dd⟩ := jkn I.hok e
  exact dd.typeIs
def tDGet (td ty : TE) : TE := fun σ H Q => td σ H fun x H1 => ty σ H1 fun y H2 => ∃ a v,x = .ref a ∧ DGet H2 a y (some v) ∧ Q v H2
def tDIn (ty td : TE) : TE := fun σ H Q => ty σ H fun y H1 => td σ H1 fun x H2 => ∃ a o,x = .ref a ∧ DGet H2 a y o ∧ Q (.bl o.isSome) H2
def vY (ty td : TE) : TE := fun σ H Q => ty σ H fun y H1 => td σ H1 fun x H2 => ∃ a o,x = .ref a ∧ DGet H2 a y o ∧ Q (.bl (!o.isSome)) H2
def sDPut (td ty tv : TE) : TS := fun D σ H => tv σ H fun v H1 => td σ H1 fun x H2 => ty σ H2 fun y H3 => ∃ a H4,x = .ref a ∧ DPut H3 a y v H4 ∧ D.nx σ H4
section
variable {X : Cx} {o i e value : Expr} {pos pos' tpos : Pos} {td ty tv : TE}
theorem pe_dget (hu : X.A.units + 1 < cLine) (ho : PE X o td) (hi : PE X i ty) (hs : NoSl i) : PE X (.Subscript o i pos) (tDGet td ty) := by
 intro pins s σ H Q I h
 refine jiH PySem.F.slot_dict_getitem.lookup hs (thn (ho pins s σ H _ I h) fun u s1 ⟨x,H1,I1,rx,q1⟩ => thn (hi pins s1 σ H1 _ I1 q1) fun iv s2 ⟨y,H2,I2,ry,a,v,ex,g,q2⟩ => ?_)
 subst ex
 obtain rfl : u = Value.ref a := rx
 exact ⟨jhf I2 g,jjA hu I2 g ry fun w' s3 I3 rw' => ⟨v,H2,I3,rw',q2⟩⟩
theorem ps_dput (hu : X.A.units + 1 < cLine) (ho : PE X o td) (hi : PE X i ty) (hv : PE X value tv) (hs : swapsWith value (some (.Subscript o i pos')) pos.line X.env = pure false) :
  PS X (.Assign [.Subscript o i pos'] value pos) (sDPut td ty tv) := by
 intro pins s σ H D I h
 refine wpAny_Assign_Subscript (thn (hv pins s σ H _ I h) fun r s1 ⟨v,H1,I1,rv,q1⟩ => thn (ho pins s1 σ H1 _ I1 q1) fun u s2 ⟨x,H2,I2,rx,q2⟩ => thn (hi pins s2 σ H2 _ I2 q2) fun iv s3 ⟨y,H3,I3,ry,a,H4,ex,g,q3⟩ => ?_) hs
 subst ex
 obtain rfl : u = Value.ref a := rx
 exact jjz hu I3 g ry rv fun s4 I4 => ⟨σ,H4,I4,q3⟩
end
theorem jkr {P : Program} {w : World} {H : Hp} (h : Heap) (hb : sysModules < h.objs.size) : ObjOk P w H (h.push { cls := .type "dict",data := .dict #[] }) h.objs.size (.dK []) :=
 ⟨Nat.zero_le _,beq_eq_false_iff_ne.mpr (Ne.symm (Nat.ne_of_lt hb)),[],.nil,Heap.DictOf.new h⟩
def jac : TE := fun _ H Q => ∀ p,H p = none → Q (.ref p) (upd H p (.dK []))
section
variable {X : Cx} {pos : Pos}
end
def vX : List (TE × TE) → St → Hp → (List (V × V) → Hp → Prop) → Prop
 | [],_,H,Q => Q [] H
 | (tk,tv) :: r,σ,H,Q => tk σ H fun x H1 => tv σ H1 fun y H2 => vX r σ H2 fun ps H3 => Q ((x,y) :: ps) H3
abbrev VV : List (V × V) → List (Value × Value) → Prop := Paired fun p q => RelV p.1 q.1 ∧ RelV p.2 q.2
def PPs (X : Cx) (pos : Pos) (keys : List (Option Expr)) (values : List Expr) (trs : List (TE × TE)) : Prop :=
 ∀ (pins : List (Addr × Obj)) (s : Shared) (σ : St) (H : Hp) (Q : List (V × V) → Hp → Prop),Inv X pins σ H s → vX trs σ H Q →
  wpAny (model X.prog X.w) X.A (evalPairs (pairTrees keys values X.env pos)) (fun vs s' => ∃ ps H',Inv X pins σ H' s' ∧ VV ps vs ∧ Q ps H') X.xe s
theorem pps_nil {X : Cx} {pos : Pos} : PPs X pos [] [] [] := fun pins s σ H Q I h => pairTrees_nil_walk ⟨[],H,I,.nil,h⟩
theorem pps_cons {X : Cx} {pos : Pos} {k v : Expr} {ks : List (Option Expr)} {vs : List Expr} {tk tv : TE} {trs : List (TE × TE)} (hk : PE X k tk) (hv : PE X v tv) (hr : PPs X pos ks vs trs) :
  PPs X pos (some k :: ks) (v :: vs) ((tk,tv) :: trs) := fun pins s σ H Q I h =>
 pairTrees_cons_walk (thn (hk pins s σ H _ I h) fun u s1 ⟨x,H1,I1,rx,q1⟩ => thn (hv pins s1 σ H1 _ I1 q1) fun w2 s2 ⟨y,H2,I2,ry,q2⟩ =>
  thn (hr pins s2 σ H2 _ I2 q2) fun ws s3 ⟨ps,H3,I3,rel,q3⟩ => ⟨(x,y) :: ps,H3,I3,.cons ⟨rx,ry⟩ rel,q3⟩)
def jbO (kvs more : List (Key × V)) : List (Key × V) := more.foldl (fun acc kv => putK acc kv.1 kv.2) kvs
theorem KV.merge : ∀ {more : List (Key × V)} {rs : List (Key × Value)} {kvs : List (Key × V)} {vs : List (Key × Value)},KV more rs → KV kvs vs → KV (jbO kvs more) (merged vs rs) := by
 intro more rs kvs vs r
 unfold KV at r
 induction r generalizing kvs vs with
 | nil => intro q;exact q
 | @cons p q ps qs h t ih =>
  intro r0
  have e : KV (putK kvs p.1 p.2) (stored vs q.1 q.2) := by
   have := r0.put p.1 h.2
   rw [← h.1];exact this
  exact ih e
theorem gw : ∀ (more kvs : List (Key × V)),(jbO kvs more).length ≤ kvs.length + more.length
 | [],kvs => by show kvs.length ≤ kvs.length + 0;omega
 | p :: r,kvs => by
  have h1 := gw r (putK kvs p.1 p.2)
  have h2 := jbk kvs p.1 p.2
  show (jbO (putK kvs p.1 p.2) r).length ≤ _
  rw [List.length_cons];omega
theorem jeP {P : Program} {w : World} : ∀ {kvs : List (Key × V)} {ws : List (Value × Value)},VV (kvs.map fun kv => (kV kv.1,kv.2)) ws → ∃ rs,Carries (zV P w) ws rs ∧ KV kvs rs
 | [],_,r => by rw [List.map_nil] at r;cases r;exact ⟨[],True.intro,.nil⟩
 | p :: kvs,_,r => by
  rw [List.map_cons] at r
  cases r with
  | @cons a b as bs h t =>
   obtain ⟨rs,c,q⟩ := jeP (P := P) (w := w) t
   obtain ⟨b1,b2⟩ := b
   exact ⟨(p.1,b2) :: rs,⟨jen h.1,rfl,c⟩,.cons ⟨rfl,h.2⟩ q⟩
def jdr (trs : List (TE × TE)) : TE := fun σ H Q => ∀ p,H p = none → vX trs σ (upd H p (.dK [])) fun ps H2 => H2 p = some (.dK []) ∧ ∃ kvs : List (Key × V),ps = kvs.map (fun kv => (kV kv.1,kv.2)) ∧ kvs.length ≤ 15 ∧ Q (.ref p) (upd H2 p (.dK (jbO [] kvs)))
structure M1 (X : Cx) (o : Expr) (m : Str) (apos : Pos) (e : Expr) (cpos : Pos) : Prop where
 base : attributeBase o m X.env (eval o X.env) = eval o X.env
 few : ((backTo cpos (starEach [e] X.env)).all (fun x => !x.1) && (backToKw cpos (keywordEach [] X.env)).all (fun x => x.1.isSome)
  && decide (([e] : List Expr).length + ([] : List Keyword).length + (if ([] : List Keyword).isEmpty then 0 else 1) < 30)) = true
 line : (apos.endLine == cpos.line) = true
 trees : backTo cpos (starEach [e] X.env) = [(false,eval e X.env)]
def IsD (H : Hp) (a : Addr) : Prop := (∃ kvs,Rd H a (.dK kvs)) ∨ ∃ kvs,Rd H a (.dT kvs)
theorem jmb {X : Cx} {pins : List (Addr × Obj)} {σ : St} {H : Hp} {s : Shared} {a : Addr} (I : Inv X pins σ H s) (d : IsD H a) :
  s.TypeIs (.ref a) "dict" ∧ (∀ b,Value.ref a = .ref b → ∃ ob,s.heap.get? b = some ob ∧ ob.dict = none) ∧ (a == sysModules) = false := by
 rcases d with ⟨kvs,e⟩ | ⟨kvs,e⟩
 ·obtain ⟨_,hd,vs,_,dd⟩ := jkp I.hok e
  refine ⟨dd.typeIs,fun b q => ?_,hd⟩
  cases q
  obtain ⟨ob,_,_,h1,h2,_⟩ := dd
  exact ⟨ob,h1,h2.2.1⟩
 ·obtain ⟨_,hd,xs,_,dd⟩ := jkn I.hok e
  refine ⟨dd.typeIs,fun b q => ?_,hd⟩
  cases q
  obtain ⟨ob,_,_,h1,h2,_⟩ := dd
  exact ⟨ob,h1,h2.2.1⟩
section
variable {X : Cx} {pins : List (Addr × Obj)} {σ : St} {H : Hp} {s : Shared} {a : Addr} {y d : V} {u r : Value} {o : Option V} {A : Around} {E : Value → Shared → Prop}
end
def jad (td ty tx : TE) : TE := fun σ H Q => td σ H fun x H1 => ∃ a,x = .ref a ∧ IsD H1 a ∧ ty σ H1 fun y H2 => tx σ H2 fun z H3 => ∃ o,DGet H3 a y o ∧ Q (o.getD z) H3
section
variable {X : Cx} {o e f : Expr} {apos cpos : Pos} {td ty tx : TE}
end
section
variable {X : Cx} {pins : List (Addr × Obj)} {σ : St} {H : Hp} {s : Shared} {a : Addr} {kvs : List (Key × V)} {A : Around} {E : Value → Shared → Prop}
end
section
variable {X : Cx} {pins : List (Addr × Obj)} {σ : St} {H : Hp} {s : Shared} {a : Addr} {y : V} {u : Value} {A : Around} {E : Value → Shared → Prop}
end
end L2
namespace L2
open PySem PySem.Spec PyProof.Rows
section
variable {prog : Program} {w : World} {A : Around} {E : Value → Shared → Prop}
end
section
variable {X : Cx}
theorem jdg {pins : List (Addr × Obj)} {σ : St} {H : Hp} {s : Shared} (I : Inv X pins σ H s) : ∀ {ps : List Addr} {kvs : List (Key × V)},Paired (fun p kv => SqT X.K H p [kV kv.1,kv.2]) ps kvs →
  ∃ prs : List (Key × Value),KV kvs prs ∧ prs.length = ps.length ∧ ∀ (j : Nat) (q : Key × Value),prs[j]? = some q → ∃ (b : Addr) (u : Value),ps[j]? = some b ∧ IsTup s.heap b #[u,q.2] ∧ jhc q.1 u = true
 | _,_,.nil => ⟨[],.nil,rfl,fun j q e => by simp at e⟩
 | _,_,.cons (a := p) (b := kv) h t => by
  obtain ⟨prs,r,hl,hp⟩ := jdg I t
  obtain ⟨its,rv,ht,_⟩ := I.tuple h
  obtain ⟨u,y,ei,ru,ry⟩ := jjP rv
  subst ei
  refine ⟨(kv.1,y) :: prs,.cons ⟨rfl,ry⟩ r,by rw [List.length_cons,List.length_cons,hl],fun j q e => ?_⟩
  cases j with
  | zero =>
   have e' : (kv.1,y) = q := Option.some.inj e
   subst e'
   exact ⟨p,u,rfl,ht,jen (P := X.prog) (w := X.w) ru⟩
  | succ j =>
   obtain ⟨b,u',e1,e2,e3⟩ := hp j q (by simpa using e)
   exact ⟨b,u',by simpa using e1,e2,e3⟩
end
end L2
namespace L2
open PySem PySem.Spec PyProof.Rows
section
variable {X : Cx} {pins : List (Addr × Obj)} {σ : St} {H : Hp} {s : Shared} {h' : Heap}
theorem Inv.turnedL {t' : Nat} {ch : List Addr} (I : Inv X pins σ H s) (k : ∀ b o,b ∉ ch → s.heap.get? b = some o → h'.get? b = some o) (hf : ∀ b ∈ ch,FpOk X pins H b) : Inv X pins σ H { s with heap := h',toks := t' } := by
 have nit : ∀ b u,H b = some u → b ∉ ch := fun b u e z => by
  have q := (hf b z).1
  rw [q] at e;cases e
 refine I.step (g' := s.gens) (d' := s.drawn) (ch := ch) (fun b hb => ⟨(hf b hb).2.2.2.1,(hf b hb).2.1,(hf b hb).2.2.2.2.1,(hf b hb).2.2.2.2.2⟩) (fun b o _ _ hc e _ => k b o hc e) (fun b o _ _ hc e _ => ⟨o.slots,k b o hc e⟩)
  (fun _ _ _ _ n => n) (fun b o hc e => ⟨o,k b o hc e⟩) (fun _ _ e => e) (fun _ _ _ e => e) (fun b ps e => ⟨#[],by rw [e];simp⟩) (fun m hm => ?_) (fun b u e => ?_) I.bare
 ·obtain ⟨o,es,ep,ho,r⟩ := hm
  exact ⟨o,es,ep,k _ o (fun z => (hf _ z).2.1 rfl) ho,r⟩
 ·refine (I.hok b u e).stay (fun c v hc q => k c v ?_ q) (fun _ q => q) fun _ _ q => q
  rcases hc with z | z
  ·rw [z];exact nit b u e
  ·exact nit c _ z
theorem Inv.turnedNew {t' : Nat} {ch : List Addr} {T : Addr} {ob : HO} (I : Inv X pins σ H s) (k : ∀ b o,b ∉ ch → s.heap.get? b = some o → h'.get? b = some o) (hf : ∀ b ∈ ch,FpOk X pins H b) (hT : s.heap.objs.size ≤ T)
  (new : ObjOk X.prog X.w (upd H T ob) h' T ob) : Inv X pins σ (upd H T ob) { s with heap := h',toks := t' } := by
 have hn : H T = none := I.hok.fresh hT
 have nit : ∀ b u,H b = some u → b ∉ ch := fun b u e z => by
  have q := (hf b z).1
  rw [q] at e;cases e
 refine I.step (g' := s.gens) (d' := s.drawn) (ch := ch) (fun b hb => ⟨(hf b hb).2.2.2.1,(hf b hb).2.1,(hf b hb).2.2.2.2.1,(hf b hb).2.2.2.2.2⟩) (fun b o _ _ hc e _ => k b o hc e) (fun b o _ _ hc e _ => ⟨o.slots,k b o hc e⟩)
  (fun b o _ e n => ?_) (fun b o hc e => ⟨o,k b o hc e⟩) (fun b xs e => ?_) (fun b o u e => ?_) (fun b ps e => ⟨#[],?_⟩) (fun m hm => ?_) (fun b u e => ?_) I.bare
 ·rw [jB (Nat.ne_of_lt (Nat.lt_of_lt_of_le (Heap.lt_size e) hT))];exact n
 ·rw [jB (jt e hn)];exact e
 ·rw [jB (jt e hn)];exact e
 ·rw [jB (jt e hn),e];simp
 ·obtain ⟨o,es,ep,ho,r⟩ := hm
  exact ⟨o,es,ep,k _ o (fun z => (hf _ z).2.1 rfl) ho,r⟩
 ·by_cases hb : b = T
  ·subst hb
   rw [jj] at e
   cases e
   exact new
  ·rw [jB hb] at e
   refine (I.hok b u e).stay (fun c v hc q => k c v ?_ q) (fun c q => by rw [jB (jt q hn)];exact q) fun c xs q => by rw [jB (jt q hn)];exact q
   rcases hc with z | z
   ·rw [z];exact nit b u e
   ·exact nit c _ z
end
def jdq (t : TS) : TS := fun D σ H => ∃ d u,H d = some u ∧ Mut (some u) ∧ ∀ od,t ⟨fun σ' H' => H' d = some (.frz od u) ∧ D.nx σ' (upd H' d u),fun v H' => H' d = some (.frz od u) ∧ D.rt v (upd H' d u),fun σ' H' => H' d = some (.frz od u) ∧ D.bk σ' (upd H' d u),fun σ' H' => H' d = some (.frz od u) ∧ D.ct σ' (upd H' d u)⟩ σ (upd H d (.frz od u))
def jaa (t : TE) : TE := fun σ H Q => ∃ d u,H d = some u ∧ Mut (some u) ∧ ∀ od,t σ (upd H d (.frz od u)) fun v H' => H' d = some (.frz od u) ∧ Q v (upd H' d u)
section
variable {X : Cx}
theorem jkD {tg : Expr} {pins : List (Addr × Obj)} {σ : St} {H : Hp} {s : Shared} {R : It → Hp → Prop} {J : It} {tn : Nat → Heap → Prop} {tk : Nat} (I : Inv X pins σ H s) (o : Obj)
  (T : Turn X.prog X.w X.K tg J [s.heap.objs.size] s.heap.objs.size tn) (st : tn 0 (s.heap.push o)) (q : R J H) : PIE X pins σ tg R (.ref s.heap.objs.size) { s with heap := s.heap.push o,toks := tk } := by
 refine ⟨s.heap.objs.size,[s.heap.objs.size],tn,J,H,rfl,I.kept fun b ob e => Heap.get?_push_of_some _ e,T,st,fun b hb => ?_,q⟩
 have e : b = s.heap.objs.size := by simpa using hb
 subst e
 exact I.fpOk (Nat.le_refl _) (I.hok.fresh (Nat.le_refl _))
end
section
variable {X : Cx} {tg : Expr}
end
section
variable {X : Cx} {tg : Expr}
end
def Its (x : Str) : It := ⟨fun i _ => i < x.cps.size,fun i H v H' => H' = H ∧ ∃ c,x.cps[i]? = some c ∧ v = .str ⟨#[c]⟩,fun i _ => x.cps.size ≤ i⟩
theorem jhy {P : Program} {w : World} {K : PySem.W.Frag} {tg : Expr} (it : Addr) (x : Str) (t : Tok) (ty : String) (hty : ty = "str_ascii_iterator" ∨ ty = "str_iterator") :
  Turn P w K tg (Its x) [it] it (fun i h => h.IsStrIter it ty x t i) where
 mem := by simp
 obj := fun i h st b hb => by
  have e : b = it := by simpa using hb
  subst e
  obtain ⟨o,e,c,d⟩ := st
  exact ⟨o,e,fun v z => by rw [d] at z;cases z⟩
 keep := fun i h h' st k => let ⟨o,ho,r⟩ := st;⟨o,k it (by simp) o ho,r⟩
 item := by
  intro X hP hw hK hc i pins s σ H E I hf st hg
  subst hP hw hK
  obtain ⟨f0,f1,f2,f3,f4,f5⟩ := hf it (by simp)
  have W : Walks X.prog X.w X.A it [it] [it] x.cps.size (SignAt x) (fun i h => h.IsStrIter it ty x t i) := by
   rcases hty with e | e
   ·rw [e];exact Walks.strAscii (I.ok.hd hc) it x t
   ·rw [e];exact Walks.strWide (I.ok.hd hc) it x t
  have hno : ["enumerate", "zip", "dict_itemiterator", "dict_reverseitemiterator", "odict_iterator", "itertools.zip_longest", "itertools.pairwise"].contains ty = false := by
   rcases hty with e | e
   ·rw [e];decide
   ·rw [e];decide
  refine W.item i s _ _ hg st fun v h' tk hv st' kk => ?_
  obtain ⟨c,u,hcx,rfl⟩ := hv
  have I1 : Inv X pins σ H { s with heap := h',toks := tk } := I.turned (fun b o hb e => kk b o (by simpa using hb) e) f0 f1 f3 f4 f5
  obtain ⟨oi,e,cc,dd⟩ := id st'
  exact ⟨_,rfl,jkj (s := { s with heap := h',toks := tk }) e cc dd hno ⟨.str ⟨#[c]⟩,H,I1,⟨u,rfl⟩,⟨rfl,c,hcx,rfl⟩,st',fun b hb => (hf b hb).1⟩⟩
 done := by
  intro X hP hw hK hc i pins s σ H E I hf st hg
  subst hP hw hK
  obtain ⟨f0,f1,f2,f3,f4,f5⟩ := hf it (by simp)
  have hx : x.cps[i]? = none := Array.getElem?_eq_none hg
  rcases hty with e | e
  ·rw [e] at st
   exact wpAny_pyNext_ascii_end (I.ok.hd hc) st hx fun h' eb => ⟨rfl,I.turned (t' := s.toks) (fun b o hb e => eb b o hb e) f0 f1 f3 f4 f5⟩
  ·rw [e] at st
   exact wpAny_pyNext_wide_end (I.ok.hd hc) st hx fun h' eb => ⟨rfl,I.turned (t' := s.toks) (fun b o hb e => eb b o hb e) f0 f1 f3 f4 f5⟩
 self := fun A i s Q E st h => by
  rcases hty with e | e
  ·rw [e] at st;exact wpAny_pyIter_striter_ascii st h
  ·rw [e] at st;exact wpAny_pyIter_striter_wide st h
def iStr (te : TE) : TI := fun σ H R => te σ H fun v H1 => ∃ x,v = .str x ∧ R (Its x) H1
theorem pi_str {X : Cx} {tg e : Expr} {te : TE} (he : PE X e te) : PI X tg e (iStr te) := by
 intro pins s σ H R I h
 refine thn (he pins s σ H _ I h) fun v s1 ⟨y,H1,I1,r1,x,ex,q⟩ => ?_
 subst ex
 obtain ⟨t,rfl⟩ := r1
 cases ha : x.cps.all (· < 128)
 ·exact wpAny_pyIter_wide ha (jkD (tk := s1.toks) I1 _ (jhy _ x t "str_iterator" (.inr rfl)) ⟨_,Heap.get?_push_size _ rfl,rfl,rfl⟩ q)
 ·exact wpAny_pyIter_ascii ha (jkD (tk := s1.toks) I1 _ (jhy _ x t "str_ascii_iterator" (.inl rfl)) ⟨_,Heap.get?_push_size _ rfl,rfl,rfl⟩ q)
section
variable {prog : Program} {w : World} {A : Around} {E : Value → Shared → Prop} {s : Shared}
end
section
variable {X : Cx} {pins : List (Addr × Obj)} {σ : St} {H : Hp} {s : Shared} {d : Addr} {o : Obj}
end
def Itk (d : Addr) (o : Obj) (kvs : List (Key × V)) : It :=
 ⟨fun i H => H d = some (.frz o (.dK kvs)) ∧ i < kvs.length,fun i H x H' => H' = H ∧ ∃ k v,kvs[i]? = some (k,v) ∧ x = kV k,fun i H => H d = some (.frz o (.dK kvs)) ∧ kvs.length ≤ i⟩
def Itkt (d : Addr) (o : Obj) (kvs : List (List Key × V)) : It :=
 ⟨fun i H => H d = some (.frz o (.dT kvs)) ∧ i < kvs.length,fun i H x H' => H' = H ∧ ∃ (k : List Key) (v : V) (q : Addr),kvs[i]? = some (k,v) ∧ x = .ref q ∧ H q = some (.tup (k.map kV)),fun i H => H d = some (.frz o (.dT kvs)) ∧ kvs.length ≤ i⟩
def Iti (d : Addr) (o : Obj) (kvs : List (Key × V)) : It :=
 ⟨fun i H => H d = some (.frz o (.dK kvs)) ∧ i < kvs.length,fun i H x H' => ∃ T k v,kvs[i]? = some (k,v) ∧ x = .ref T ∧ H T = none ∧ H' = upd H T (.tup [kV k,v]),fun i H => H d = some (.frz o (.dK kvs)) ∧ kvs.length ≤ i⟩
section
variable {P : Program} {w : World} {K : PySem.W.Frag} {tg : Expr} {d : Addr} {o : Obj} {es : Array DictEntry} {ep : Nat}
end
def jdR (td : TE) : TI := fun σ H R => td σ H fun x H1 => ∃ d o,x = .ref d ∧ ((∃ kvs,H1 d = some (.frz o (.dK kvs)) ∧ R (Itk d o kvs) H1) ∨ ∃ kvs,H1 d = some (.frz o (.dT kvs)) ∧ R (Itkt d o kvs) H1)
def jaq (td : TE) : TI := fun σ H R => td σ H fun x H1 => ∃ d o kvs,x = .ref d ∧ H1 d = some (.frz o (.dK kvs)) ∧ R (Iti d o kvs) H1
section
variable {X : Cx} {tg e : Expr} {td : TE} {apos cpos : Pos}
end
def Ite (K : PySem.W.Frag) (a : Addr) : It :=
 ⟨fun i H => ∃ (xs : List V) (x : V),SqL K H a xs ∧ xs[i]? = some x,fun i H v H' => ∃ T x,v = .ref T ∧ H T = none ∧ H' = upd H T (.tup [.int (i : Nat),x]) ∧ ∀ xs,SqL K H a xs → xs[i]? = some x,fun i H => ∃ xs : List V,SqL K H a xs ∧ xs.length ≤ i⟩
theorem jiG {P : Program} {w : World} {K : PySem.W.Frag} {elts : List Expr} {kk : Nat} {tpos : Pos} (a e it : Addr) :
  Turn P w K (.Tuple elts kk tpos) (Ite K a) [e,it] e (fun i h => (∃ old,IsEnum h e it ((i : Nat) : Int) old) ∧ h.IsListIter it a i ∧ e ≠ it) where
 mem := by simp
 obj := fun i h st b hb => by
  obtain ⟨⟨old,he⟩,⟨o,ho,hc,hd⟩,_⟩ := st
  have e' : b = e ∨ b = it := by simpa using hb
  rcases e' with z | z
  ·rw [z];exact ⟨_,he,fun v q => nomatch q⟩
  ·rw [z];exact ⟨o,ho,fun v q => by rw [hd] at q;cases q⟩
 keep := fun i h h' st k => let ⟨⟨old,he⟩,hi,hne⟩ := st;⟨⟨old,k e (by simp) _ he⟩,hi.at fun o q => k it (by simp) o q,hne⟩
 item := by
  intro X hP hw hK hc i pins s σ H E I hf st hg
  subst hP hw hK
  obtain ⟨⟨old,he⟩,hit,hne⟩ := st
  obtain ⟨xs,x,hq,hx⟩ := hg
  obtain ⟨its,rv,p,hz⟩ := I.list hq
  obtain ⟨u,hu,ru⟩ := rv.get hx
  have hel : e < s.heap.objs.size := Heap.lt_size he
  have hil : it < s.heap.objs.size := by obtain ⟨_,q,_⟩ := hit;exact Heap.lt_size q
  refine wpAny_pyNext_enum_item he hit p.isList (x := u) (by simpa using hu) hne fun h' ho hit' hT hsz hk => ?_
  refine ⟨_,rfl,wpAny_letOwnedTupleGo_enum (s := { s with heap := h',toks := s.toks + 1 }) ho fun h'' he' sb => ?_⟩
  have hT2 : h''.get? s.heap.objs.size = some { cls := .type "tuple",data := .seq #[.int i s.toks,u] } := (sb.2 _ (Nat.ne_of_gt hel)).trans hT
  have new : ObjOk X.prog X.w (upd H s.heap.objs.size (.tup [.int (i : Nat),x])) h'' s.heap.objs.size (.tup [.int (i : Nat),x]) :=
   ⟨by show 2 ≤ sizeLine;decide,[.int i s.toks,u],.cons ⟨_,rfl⟩ (.cons ru .nil),⟨_,hT2,rfl,_,rfl⟩⟩
  have I1 : Inv X pins σ (upd H s.heap.objs.size (.tup [.int (i : Nat),x])) { s with heap := h'',toks := s.toks + 1 } :=
   I.turnedNew (ch := [e,it]) (fun b ob hb q => (sb.2 b (fun z => hb (by simp [z]))).trans (hk b ob (fun z => hb (by simp [z])) (fun z => hb (by simp [z])) q)) hf (Nat.le_refl _) new
  refine ⟨.ref s.heap.objs.size,_,I1,rfl,⟨_,x,rfl,I.hok.fresh (Nat.le_refl _),rfl,fun ys hy => by rw [I.list_inj hy hq];exact hx⟩,⟨⟨u,?_⟩,hit'.at fun o q => (sb.2 it (Ne.symm hne)).trans q,hne⟩,fun b hb => ?_⟩
  ·have e1 : ((i + 1 : Nat) : Int) = (i : Int) + 1 := by omega
   rw [e1];exact he'
  ·have hb' : b < s.heap.objs.size := by
    have e' : b = e ∨ b = it := by simpa using hb
    rcases e' with z | z
    ·rw [z];exact hel
    ·rw [z];exact hil
   rw [jB (Nat.ne_of_lt hb')]
   exact (hf b hb).1
 done := by
  intro X hP hw hK hc i pins s σ H E I hf st hg
  subst hP hw hK
  obtain ⟨⟨old,he⟩,hit,hne⟩ := st
  obtain ⟨xs,hq,hx⟩ := hg
  obtain ⟨its,rv,p,hz⟩ := I.list hq
  obtain ⟨f0,f1,f2,f3,f4,f5⟩ := hf it (by simp)
  have hl := rv.length
  exact wpAny_pyNext_enum_end (I.ok.hd hc) he hit p.isList (by simp;omega) fun h' eb => ⟨rfl,I.turned (t' := s.toks) (fun b o hb q => eb b o hb q) f0 f1 f3 f4 f5⟩
 self := fun A i s Q E st h => let ⟨⟨_,he⟩,_⟩ := st;wpAny_pyIter_enum he h
def iEnum (K : PySem.W.Frag) (ta : TA) : TI := fun σ H R => ta σ H fun vs H1 => ∃ a xs,vs = [.ref a] ∧ SqL K H1 a xs ∧ R (Ite K a) H1
theorem jk1 {X : Cx} {e : Expr} {ta : TA} {p pos tpos : Pos} {elts : List Expr} {kk : Nat} (hg : Gl X "enumerate") (hm : X.mg "enumerate" = none) (ha : PA X [e] ta) (hs : starEach [e] X.env = [(false,eval e X.env)] := by rfl) :
  PI X (.Tuple elts kk tpos) (.Call (.Name "enumerate" p) [e] [] pos) (iEnum X.K ta) := by
 intro pins s σ H R I h
 refine Call_ (jcM I hg hm boot_enumerate (PyProof.Rows.callWith_type1 (thn (ha pos pins s σ H _ I h) fun us s1 ⟨vs,H1,I1,r1,q1⟩ => ?_) hs rfl))
 obtain ⟨a,xs,ex,hq,q⟩ := q1
 subst ex
 cases r1 with
 | cons r rr =>
  cases rr
  cases r
  obtain ⟨its,rv,p',hz⟩ := I1.list hq
  refine call_enumerate_list p'.isList fun h' he hit hsz hk => wpAny_pyIter_enum he ?_
  have I2 : Inv X pins σ H1 { s1 with heap := h' } := I1.kept (t' := s1.toks) hk
  refine ⟨s1.heap.objs.size + 1,[s1.heap.objs.size + 1,s1.heap.objs.size],_,_,H1,rfl,I2,jiG a (s1.heap.objs.size + 1) s1.heap.objs.size,⟨⟨.none,he⟩,hit,Nat.succ_ne_self _⟩,fun b hb => ?_,q⟩
  have e' : b = s1.heap.objs.size + 1 ∨ b = s1.heap.objs.size := by simpa using hb
  have hle : s1.heap.objs.size ≤ b := by
   rcases e' with z | z
   ·rw [z];exact Nat.le_add_right _ _
   ·rw [z];exact Nat.le_refl _
  exact I1.fpOk hle (I1.hok.fresh hle)
theorem jgF : bootBuiltins "zip" = some (.type "zip") := by decide +kernel
def Itz (K : PySem.W.Frag) (a b : Addr) : It :=
 ⟨fun i H => ∃ (xs ys : List V) (x y : V),SqL K H a xs ∧ SqL K H b ys ∧ xs[i]? = some x ∧ ys[i]? = some y,
  fun i H v H' => ∃ T x y,v = .ref T ∧ H T = none ∧ H' = upd H T (.tup [x,y]) ∧ (∀ xs,SqL K H a xs → xs[i]? = some x) ∧ ∀ ys,SqL K H b ys → ys[i]? = some y,
  fun i H => ∃ xs ys : List V,SqL K H a xs ∧ SqL K H b ys ∧ (xs.length ≤ i ∨ ys.length ≤ i)⟩
theorem jjQ {P : Program} {w : World} {K : PySem.W.Frag} {elts : List Expr} {kk : Nat} {tpos : Pos} {a b z TI TO i1 i2 : Addr} (D : ZipApart z TI TO i1 i2 a b) :
  Turn P w K (.Tuple elts kk tpos) (Itz K a b) [z,TI,TO,i1,i2] z (fun i h => IsZip h z TI TO .none ∧ IsPair h TI (.ref i1) (.ref i2) ∧ (∃ x y,IsPair h TO x y) ∧ h.IsListIter i1 a i ∧ h.IsListIter i2 b i) where
 mem := by simp
 obj := fun i h st c hc => by
  obtain ⟨hz,hTI,⟨x,y,hTO⟩,⟨o1,e1,_,d1⟩,⟨o2,e2,_,d2⟩⟩ := st
  have e' : c = z ∨ c = TI ∨ c = TO ∨ c = i1 ∨ c = i2 := by simpa using hc
  rcases e' with q | q | q | q | q
  ·rw [q];exact ⟨_,hz,fun v q => nomatch q⟩
  ·rw [q];exact ⟨_,hTI,fun v q => nomatch q⟩
  ·rw [q];exact ⟨_,hTO,fun v q => nomatch q⟩
  ·rw [q];exact ⟨o1,e1,fun v q => by rw [d1] at q;cases q⟩
  ·rw [q];exact ⟨o2,e2,fun v q => by rw [d2] at q;cases q⟩
 keep := fun i h h' st k => by
  obtain ⟨hz,hTI,⟨x,y,hTO⟩,h1,h2⟩ := st
  exact ⟨k z (by simp) _ hz,k TI (by simp) _ hTI,⟨x,y,k TO (by simp) _ hTO⟩,h1.at fun o q => k i1 (by simp) o q,h2.at fun o q => k i2 (by simp) o q⟩
 item := by
  intro X hP hw hK hc i pins s σ H E I hf st hg
  subst hP hw hK
  obtain ⟨hz,hTI,⟨x0,y0,hTO⟩,h1,h2⟩ := st
  obtain ⟨xs,ys,x,y,hqx,hqy,hx,hy⟩ := hg
  obtain ⟨its,rv,p,_⟩ := I.list hqx
  obtain ⟨its2,rv2,p2,_⟩ := I.list hqy
  obtain ⟨u,hu,ru⟩ := rv.get hx
  obtain ⟨u2,hu2,ru2⟩ := rv2.get hy
  have hzl : z < s.heap.objs.size := Heap.lt_size hz
  refine wpAny_pyNext_zip_item D hz hTI hTO h1 h2 p.isList p2.isList (x := u) (y := u2) (by simpa using hu) (by simpa using hu2) fun h' z' TO' h1' h2' hT hsz hk => ?_
  refine ⟨_,rfl,wpAny_letOwnedTupleGo_zip (s := { s with heap := h' }) z' fun h'' z'' sb => ?_⟩
  have hT2 : h''.get? s.heap.objs.size = some { cls := .type "tuple",data := .seq #[u,u2] } := (sb.2 _ (Nat.ne_of_gt hzl)).trans hT
  have new : ObjOk X.prog X.w (upd H s.heap.objs.size (.tup [x,y])) h'' s.heap.objs.size (.tup [x,y]) :=
   ⟨by show 2 ≤ sizeLine;decide,[u,u2],.cons ru (.cons ru2 .nil),⟨_,hT2,rfl,_,rfl⟩⟩
  have I1 : Inv X pins σ (upd H s.heap.objs.size (.tup [x,y])) { s with heap := h'' } :=
   I.turnedNew (t' := s.toks) (ch := [z,TI,TO,i1,i2]) (fun c o hb q => (sb.2 c (fun q' => hb (by simp [q']))).trans (hk c o (fun q' => hb (by simp [q'])) (fun q' => hb (by simp [q'])) (fun q' => hb (by simp [q'])) (fun q' => hb (by simp [q'])) q)) hf (Nat.le_refl _) new
  refine ⟨.ref s.heap.objs.size,_,I1,rfl,⟨_,x,y,rfl,I.hok.fresh (Nat.le_refl _),rfl,fun l hl => by rw [I.list_inj hl hqx];exact hx,fun l hl => by rw [I.list_inj hl hqy];exact hy⟩,⟨z'',?_,⟨u,u2,?_⟩,?_,?_⟩,fun c hcm => ?_⟩
  ·exact (sb.2 _ D.TIz).trans (hk _ _ D.TIz D.TITO D.TIi1 D.TIi2 hTI)
  ·exact (sb.2 _ D.TOz).trans TO'
  ·exact h1'.at fun o q => (sb.2 _ D.i1z).trans q
  ·exact h2'.at fun o q => (sb.2 _ D.i2z).trans q
  ·have hlt : c < s.heap.objs.size := by
    have e' : c = z ∨ c = TI ∨ c = TO ∨ c = i1 ∨ c = i2 := by simpa using hcm
    rcases e' with q | q | q | q | q
    ·rw [q];exact hzl
    ·rw [q];exact Heap.lt_size hTI
    ·rw [q];exact Heap.lt_size hTO
    ·rw [q];obtain ⟨_,e1,_⟩ := h1;exact Heap.lt_size e1
    ·rw [q];obtain ⟨_,e2,_⟩ := h2;exact Heap.lt_size e2
   rw [jB (Nat.ne_of_lt hlt)]
   exact (hf c hcm).1
 done := by
  intro X hP hw hK hc i pins s σ H E I hf st hg
  subst hP hw hK
  obtain ⟨hz,hTI,⟨x0,y0,hTO⟩,h1,h2⟩ := st
  obtain ⟨xs,ys,hqx,hqy,hend⟩ := hg
  obtain ⟨its,rv,p,_⟩ := I.list hqx
  obtain ⟨its2,rv2,p2,_⟩ := I.list hqy
  have l1 := rv.length
  have l2 := rv2.length
  have he : its.toArray[i]? = none ∨ its2.toArray[i]? = none := by
   rcases hend with q | q
   ·exact .inl (by simp;omega)
   ·exact .inr (by simp;omega)
  exact wpAny_pyNext_zip_end (I.ok.hd hc) D hz hTI hTO h1 h2 p.isList p2.isList he fun h' hk => ⟨rfl,I.turnedL (t' := s.toks) (ch := [z,TI,TO,i1,i2]) (fun c o hb q =>
   hk c o (fun q' => hb (by simp [q'])) (fun q' => hb (by simp [q'])) (fun q' => hb (by simp [q'])) (fun q' => hb (by simp [q'])) q) hf⟩
 self := fun A i s Q E st h => wpAny_pyIter_zip st.1 h
def iZip (K : PySem.W.Frag) (ta : TA) : TI := fun σ H R => ta σ H fun vs H1 => ∃ a b xs ys,vs = [.ref a,.ref b] ∧ SqL K H1 a xs ∧ SqL K H1 b ys ∧ R (Itz K a b) H1
theorem jlJ {X : Cx} {e e2 : Expr} {ta : TA} {p pos tpos : Pos} {elts : List Expr} {kk : Nat} (hg : Gl X "zip") (hm : X.mg "zip" = none) (ha : PA X [e,e2] ta)
  (hs : starEach [e,e2] X.env = (false,eval e X.env) :: starEach [e2] X.env := by rfl) (hpl : (backTo pos (starEach [e2] X.env)).any (·.1) = false := by rfl) :
  PI X (.Tuple elts kk tpos) (.Call (.Name "zip" p) [e,e2] [] pos) (iZip X.K ta) := by
 intro pins s σ H R I h
 refine Call_ (jcM I hg hm jgF (PyProof.Rows.callWith_type1 (thn (ha pos pins s σ H _ I h) fun us s1 ⟨vs,H1,I1,r1,q1⟩ => ?_) hs hpl))
 obtain ⟨a,b,xs,ys,ex,hqx,hqy,q⟩ := q1
 subst ex
 cases r1 with
 | cons r rr =>
  cases rr with
  | cons r' rr =>
   cases rr
   cases r
   cases r'
   obtain ⟨its,rv,p1,_⟩ := I1.list hqx
   obtain ⟨its2,rv2,p2,_⟩ := I1.list hqy
   have la : a < s1.heap.objs.size := p1.lt
   have lb : b < s1.heap.objs.size := p2.lt
   refine call_zip_2 p1.isList p2.isList fun h' hz hTI hTO h1 h2 hsz hk => wpAny_pyIter_zip hz ?_
   have I2 : Inv X pins σ H1 { s1 with heap := h' } := I1.kept (t' := s1.toks) hk
   refine ⟨s1.heap.objs.size + 4,[s1.heap.objs.size + 4,s1.heap.objs.size + 2,s1.heap.objs.size + 3,s1.heap.objs.size,s1.heap.objs.size + 1],_,_,H1,rfl,I2,jjQ (PySem.W.ktu_apart s1.heap.objs.size a b la lb),⟨hz,hTI,⟨_,_,hTO⟩,h1,h2⟩,fun c hcm => ?_,q⟩
   have e' : c = s1.heap.objs.size + 4 ∨ c = s1.heap.objs.size + 2 ∨ c = s1.heap.objs.size + 3 ∨ c = s1.heap.objs.size ∨ c = s1.heap.objs.size + 1 := by simpa using hcm
   have hle : s1.heap.objs.size ≤ c := by
    rcases e' with z | z | z | z | z
    ·rw [z];exact Nat.le_add_right _ _
    ·rw [z];exact Nat.le_add_right _ _
    ·rw [z];exact Nat.le_add_right _ _
    ·rw [z];exact Nat.le_refl _
    ·rw [z];exact Nat.le_add_right _ _
   exact I1.fpOk hle (I1.hok.fresh hle)
end L2
section
namespace Bits
open PySem PyProof.Rows
end Bits
end
section
namespace TL
open PySem PySem.Builtin PySem.Builtin.Str PySem.StrLaws
abbrev tl (x : Str) : List Nat := x.cps.toList
theorem jcL (x : Str) : x.length = (tl x).length := by simp [tl,Str.length]
theorem jmd {x y : Str} (h : tl x = tl y) : x = y := Str.ext' (Array.toList_inj.mp h)
theorem tl_append (x y : Str) : tl (x ++ y) = tl x ++ tl y := by
 show (x ++ y).cps.toList = _
 rw [Str.cps_append,Array.toList_append]
theorem jck : ∀ {l m : List Str},l.map tl = m.map tl → l = m
 | [],[],_ => rfl
 | [],_ :: _,h => by simp at h
 | _ :: _,[],h => by simp at h
 | x :: l,y :: m,h => by
  rw [List.map_cons,List.map_cons] at h
  injection h with h1 h2
  rw [jmd h1,jck h2]
def pre (S l : List Nat) : Bool := l.take S.length == S
def spl (S : List Nat) : Nat → List Nat → List Nat → List (List Nat)
 | _,acc,[] => [acc]
 | 0,acc,c :: r => if pre S (c :: r) = true then acc :: spl S (S.length - 1) [] r else spl S 0 (acc ++ [c]) r
 | k + 1,acc,_ :: r => spl S k acc r
def par (S : List Nat) : List Nat → List Nat → Option (List Nat × List Nat)
 | _,[] => none
 | acc,c :: r => if pre S (c :: r) = true then some (acc,(c :: r).drop S.length) else par S (acc ++ [c]) r
theorem jeX (S : List Nat) (k : Nat) (acc : List Nat) : spl S k acc [] = [acc] := by cases k <;> rfl
theorem jkN {S acc r : List Nat} {c : Nat} (h : pre S (c :: r) = true) : spl S 0 acc (c :: r) = acc :: spl S (S.length - 1) [] r := by
 show (if pre S (c :: r) = true then acc :: spl S (S.length - 1) [] r else spl S 0 (acc ++ [c]) r) = _
 rw [if_pos h]
theorem jjU {S acc r : List Nat} {c : Nat} (h : pre S (c :: r) = false) : spl S 0 acc (c :: r) = spl S 0 (acc ++ [c]) r := by
 show (if pre S (c :: r) = true then acc :: spl S (S.length - 1) [] r else spl S 0 (acc ++ [c]) r) = _
 rw [if_neg (by rw [h];exact Bool.false_ne_true)]
theorem jhA (S : List Nat) : ∀ (k : Nat) (acc l : List Nat),spl S k acc l = spl S 0 acc (l.drop k)
 | 0,_,_ => by rw [List.drop_zero]
 | k + 1,acc,[] => by rw [List.drop_nil,jeX,jeX]
 | k + 1,acc,c :: r => by
  show spl S k acc r = spl S 0 acc (r.drop k)
  exact jhA S k acc r
theorem jkY {S : List Nat} (hS : S ≠ []) : pre S [] = false := by
 cases S with
 | nil => exact absurd rfl hS
 | cons s S => rfl
theorem jgX {s c : Nat} (S r : List Nat) (h : c ≠ s) : pre (s :: S) (c :: r) = false := by
 cases hp : pre (s :: S) (c :: r) with
 | false => rfl
 | true =>
  have e : (c :: r).take (s :: S).length = s :: S := eq_of_beq hp
  rw [List.length_cons,List.take_succ_cons] at e
  injection e with e1 e2
  exact absurd e1 h
theorem jj2 (S r : List Nat) : pre S (S ++ r) = true := by
 show ((S ++ r).take S.length == S) = true
 have e : (S ++ r).take S.length = S := List.take_left
 rw [e] <;> exact beq_self_eq_true S
theorem jcn {L : List Nat} {a : Nat} (h : a < L.length) : ∃ c,L.drop a = c :: L.drop (a + 1) := ⟨L[a],List.drop_eq_getElem_cons h⟩
theorem jdu (S L : List Nat) : ∀ (m a : Nat) (acc : List Nat),a + m ≤ L.length → (∀ k,a ≤ k → k < a + m → pre S (L.drop k) = false) →
  spl S 0 acc (L.drop a) = spl S 0 (acc ++ (L.drop a).take m) (L.drop (a + m))
 | 0,a,acc,_,_ => by rw [List.take_zero,List.append_nil,Nat.add_zero]
 | m + 1,a,acc,h,hn => by
  have hlt : a < L.length := by omega
  obtain ⟨c,e⟩ := jcn hlt
  have h0 := hn a (Nat.le_refl _) (by omega)
  have ih := jdu S L m (a + 1) (acc ++ [c]) (by omega) (fun k h1 h2 => hn k (by omega) (by omega))
  have e2 : a + 1 + m = a + (m + 1) := by omega
  rw [e2] at ih
  rw [e] at h0
  rw [e,jjU h0,ih,List.take_succ_cons,List.append_assoc] <;> rfl
theorem jhV (L : List Nat) (a b : Nat) : (L.drop a).drop b = L.drop (a + b) := by
 first
  | rw [List.drop_drop]
  | rw [List.drop_drop,Nat.add_comm]
theorem jkB {S L : List Nat} (hS : S ≠ []) {c : Nat} {acc : List Nat} (h : pre S (L.drop c) = true) : spl S 0 acc (L.drop c) = acc :: spl S 0 [] (L.drop (c + S.length)) := by
 rw [← jhV]
 cases e : L.drop c with
 | nil => rw [e,jkY hS] at h;cases h
 | cons d r =>
  rw [e] at h
  rw [jkN h,jhA]
  cases S with
  | nil => exact absurd rfl hS
  | cons s S => rfl
theorem jkL {x y : Str} (hy : tl y ≠ []) (i : Nat) : At x y x.length i ↔ pre (tl y) ((tl x).drop i) = true := by
 have hx := jcL x
 have hl := jcL y
 constructor
 ·intro h
  have h2 := h.2
  rw [subAt_eq,hl] at h2
  exact h2
 ·intro h
  have e : ((tl x).drop i).take (tl y).length = tl y := eq_of_beq h
  have e1 := congrArg List.length e
  rw [List.length_take,List.length_drop] at e1
  have e2 : 0 < (tl y).length := List.length_pos_iff.mpr hy
  refine ⟨by omega,?_⟩
  rw [subAt_eq,hl]
  exact h
theorem jlZ {x y : Str} (hy : tl y ≠ []) {i : Nat} (h : ¬ At x y x.length i) : pre (tl y) ((tl x).drop i) = false := by
 cases hp : pre (tl y) ((tl x).drop i) with
 | false => rfl
 | true => exact absurd ((jkL hy i).mpr hp) h
theorem len1 {y : Str} (hy : tl y ≠ []) : 1 ≤ y.length := by
 have e2 : 0 < (tl y).length := List.length_pos_iff.mpr hy
 rw [jcL y]
 exact e2
theorem jfN (x : Str) (i j : Nat) : tl (strSub x i j) = ((tl x).drop i).take (j - i) := strSub_toList x i j
theorem jeV (x : Str) (i : Nat) : tl (strSub x i x.length) = (tl x).drop i := by
 rw [jfN,jcL x]
 exact List.take_of_length_le (by rw [List.length_drop] <;> omega)
theorem jfZ {x y : Str} (hy : tl y ≠ []) : ∀ (cuts : List Nat) (a f : Nat),a ≤ (tl x).length → ChainG x y x.length a cuts f → (∀ k,f ≤ k → ¬ At x y x.length k) →
  (partsFrom x y.length a cuts).map tl = spl (tl y) 0 [] ((tl x).drop a)
 | [],a,f,ha,h,hn => by
  have e : f = a := h
  subst e
  show [tl (strSub x f x.length)] = _
  have run := jdu (tl y) (tl x) ((tl x).length - f) f [] (by omega) (fun k h1 _ => jlZ hy (hn k h1))
  have e2 : f + ((tl x).length - f) = (tl x).length := by omega
  rw [e2,List.drop_length,jeX,List.nil_append,List.take_of_length_le (by rw [List.length_drop] <;> omega)] at run
  rw [run,jeV]
 | c :: r,a,f,ha,h,hn => by
  obtain ⟨h1,h2,h3,h4⟩ := h
  have hc : c + y.length ≤ x.length := h2.1
  have hx := jcL x
  have hl := jcL y
  have ih := jfZ hy r (c + y.length) f (by omega) h4 hn
  show tl (strSub x a c) :: (partsFrom x y.length (c + y.length) r).map tl = _
  have run := jdu (tl y) (tl x) (c - a) a [] (by omega) (fun k k1 k2 => jlZ hy (h3 k k1 (by omega)))
  have e2 : a + (c - a) = c := by omega
  rw [e2,List.nil_append,jkB hy ((jkL hy c).mp h2)] at run
  rw [run,ih,jfN,hl]
theorem jiJ (x y : Str) (hy : tl y ≠ []) (hk : ¬ Builtin.Str.strKind x < Builtin.Str.strKind y) : (Txt.split x y).map tl = spl (tl y) 0 [] (tl x) := by
 obtain ⟨f,g,hn⟩ := occ_tight x y (len1 hy)
 have key := jfZ hy _ 0 f (Nat.zero_le _) g hn
 rw [List.drop_zero] at key
 have none_case : occurrences x y 0 x.length (x.length + 1) = [] → [x].map tl = spl (tl y) 0 [] (tl x) := fun ho => by
  rw [ho] at key
  rw [← key]
  show [tl x] = [tl (strSub x 0 x.length)]
  rw [sub_whole]
 unfold Txt.split
 by_cases h1 : (decide (x.length < y.length) || decide (Builtin.Str.strKind x < Builtin.Str.strKind y)) = true
 ·rw [if_pos h1]
  have hlt : x.length < y.length := by
   simp only [Bool.or_eq_true,decide_eq_true_eq] at h1
   rcases h1 with h | h
   ·exact h
   ·exact absurd h hk
  refine none_case ?_
  cases ho : occurrences x y 0 x.length (x.length + 1) with
  | nil => rfl
  | cons c r =>
   rw [ho] at g
   have hc : c + y.length ≤ x.length := g.2.1.1
   omega
 ·rw [if_neg h1]
  by_cases h2 : (occurrences x y 0 x.length (x.length + 1)).isEmpty = true
  ·rw [if_pos h2]
   exact none_case (List.isEmpty_iff.mp h2)
  ·rw [if_neg h2,partsBetween_eq]
   exact key
theorem jlk {x y : Str} (h : y.cps.all (· < 256) = true) : ¬ Builtin.Str.strKind x < Builtin.Str.strKind y := by
 have e : Builtin.Str.strKind y = 1 := by unfold PySem.Builtin.Str.strKind;rw [if_pos h]
 rw [e]
 unfold PySem.Builtin.Str.strKind
 split
 ·omega
 ·split <;> omega
theorem jjT {S p rest acc : List Nat} (hS : S ≠ []) (h : ∀ i,i < p.length → pre S ((p ++ (S ++ rest)).drop i) = false) :
  spl S 0 acc (p ++ (S ++ rest)) = (acc ++ p) :: spl S 0 [] rest := by
 have run := jdu S (p ++ (S ++ rest)) p.length 0 acc (by rw [List.length_append];omega) (fun k _ k2 => h k (by omega))
 have ed : (p ++ (S ++ rest)).drop p.length = S ++ rest := List.drop_left
 rw [List.drop_zero,Nat.zero_add,List.take_left] at run
 rw [run,jkB hS (by rw [ed];exact jj2 S rest),← jhV,ed,List.drop_left]
theorem jjV {S p acc : List Nat} (h : ∀ i,i < p.length → pre S (p.drop i) = false) : spl S 0 acc p = [acc ++ p] := by
 have run := jdu S p p.length 0 acc (by omega) (fun k _ k2 => h k (by omega))
 rw [List.drop_zero,Nat.zero_add,List.drop_length,jeX,List.take_length] at run
 exact run
theorem jjo {s : Nat} {S p q : List Nat} (h : s ∉ p) : ∀ i,i < p.length → pre (s :: S) ((p ++ q).drop i) = false := fun i hi => by
 have hlt : i < (p ++ q).length := by rw [List.length_append];omega
 have e : (p ++ q).drop i = (p ++ q)[i] :: (p ++ q).drop (i + 1) := List.drop_eq_getElem_cons hlt
 rw [e]
 refine jgX _ _ fun z => h ?_
 have e1 : (p ++ q)[i] = p[i] := List.getElem_append_left hi
 rw [← z,e1]
 exact List.getElem_mem hi
theorem jiK {s : Nat} {S p rest acc : List Nat} (h : s ∉ p) : spl (s :: S) 0 acc (p ++ (s :: S ++ rest)) = (acc ++ p) :: spl (s :: S) 0 [] rest :=
 jjT (by simp) (jjo h)
theorem jiL {s : Nat} {S p acc : List Nat} (h : s ∉ p) : spl (s :: S) 0 acc p = [acc ++ p] := jjV fun i hi => by
 have z := jjo (S := S) (q := []) h i hi
 rw [List.append_nil] at z
 exact z
def joinL (S : List Nat) : List (List Nat) → List Nat
 | [] => []
 | [p] => p
 | p :: q :: r => p ++ (S ++ joinL S (q :: r))
theorem tl_join (y : Str) : ∀ parts : List Str,tl (Str.join y parts) = joinL (tl y) (parts.map tl)
 | [] => rfl
 | [_] => rfl
 | x :: z :: r => by
  show tl (x ++ y ++ Str.join y (z :: r)) = tl x ++ (tl y ++ joinL (tl y) ((z :: r).map tl))
  rw [tl_append,tl_append,tl_join y (z :: r),List.append_assoc]
theorem jhB {s : Nat} {S : List Nat} : ∀ {parts : List (List Nat)},parts ≠ [] → (∀ p ∈ parts,s ∉ p) → spl (s :: S) 0 [] (joinL (s :: S) parts) = parts
 | [],h,_ => absurd rfl h
 | [p],_,hp => by
  show spl (s :: S) 0 [] p = [p]
  rw [jiL (hp p (List.mem_singleton.mpr rfl)),List.nil_append]
 | p :: q :: r,_,hp => by
  show spl (s :: S) 0 [] (p ++ (s :: S ++ joinL (s :: S) (q :: r))) = p :: q :: r
  rw [jiK (hp p (List.mem_cons_self ..)),List.nil_append,jhB (by simp) fun z hz => hp z (List.mem_cons_of_mem _ hz)]
theorem join_eq (y : Str) (parts : List Str) : Txt.join y parts = Str.join y parts := glued_eq_join y parts
theorem jeB {y : Str} {s : Nat} {S : List Nat} (ey : tl y = s :: S) (hk : y.cps.all (· < 256) = true) {parts : List Str} (hne : parts ≠ []) (hp : ∀ p ∈ parts,s ∉ tl p) :
  Txt.split (Txt.join y parts) y = parts := by
 refine jck ?_
 rw [jiJ _ y (by rw [ey];simp) (jlk hk),join_eq,tl_join,ey]
 refine jhB (fun e => hne (List.map_eq_nil_iff.mp e)) fun p h => ?_
 obtain ⟨z,hz,rfl⟩ := List.mem_map.mp h
 exact hp z hz
def numL (n : Nat) : List Nat := (Nat.toDigits 10 n).map Char.toNat
theorem jdm (n : Nat) : tl (Str.ofString (toString ((n : Nat) : Int))) = numL n := PySem.W.KIN.signs_num n
theorem jbX : ∀ d : Nat,d < 10 → (Nat.digitChar d).toNat = 48 + d := by decide
theorem jg0 {n : Nat} (h : n < 10) : numL n = [48 + n] := by
 unfold numL
 rw [Nat.toDigits_of_lt_base h]
 show [(Nat.digitChar n).toNat] = _
 rw [jbX n h]
theorem jdC {n : Nat} (h : 10 ≤ n) : numL n = numL (n / 10) ++ [48 + n % 10] := by
 have hm : n % 10 < 10 := Nat.mod_lt n (by decide)
 have t : Nat.toDigits 10 (n / 10) ++ Nat.toDigits 10 (n % 10) = Nat.toDigits 10 (10 * (n / 10) + n % 10) := Nat.toDigits_append_toDigits (by decide) (by omega) hm
 rw [Nat.div_add_mod] at t
 show (Nat.toDigits 10 n).map Char.toNat = _
 rw [← t,List.map_append,Nat.toDigits_of_lt_base hm]
 show (Nat.toDigits 10 (n / 10)).map Char.toNat ++ [(Nat.digitChar (n % 10)).toNat] = _
 rw [jbX _ hm] <;> rfl
theorem jdD (n : Nat) : NumText.AllDigits (numL n) := by
 induction n using Nat.strongRecOn with
 | _ n ih =>
  by_cases h : n < 10
  ·rw [jg0 h]
   intro c hc
   rw [List.mem_singleton.mp hc]
   omega
  ·rw [jdC (by omega)]
   intro c hc
   rcases List.mem_append.mp hc with hc | hc
   ·exact ih (n / 10) (by omega) c hc
   ·have hm : n % 10 < 10 := Nat.mod_lt n (by decide)
    rw [List.mem_singleton.mp hc]
    omega
theorem jgZ (n : Nat) : numL n ≠ [] := by
 by_cases h : n < 10
 ·rw [jg0 h]
  simp
 ·rw [jdC (by omega)]
  simp
theorem ji4 {n s : Nat} (h : s < 48 ∨ 57 < s) : s ∉ numL n := fun hm => by
 have r := jdD n s hm
 omega
theorem jka (n : Nat) : NumText.digitsVal (numL n) = n := PySem.W.KIN.val_back n
theorem numL_len {n k : Nat} (hk : 0 < k) (h : n < 10 ^ k) : (numL n).length ≤ k := by
 have z := PyProof.Rows.toString_length_le (v := (n : Int)) (by omega) hk (by
  have e : ((10 : Int) ^ k) = ((10 ^ k : Nat) : Int) := by
   first
    | exact (Int.natCast_pow 10 k).symm
    | simp
  rw [e]
  first | exact Int.ofNat_lt.mpr h | omega)
 rw [jcL,jdm] at z
 exact z
theorem jlm {n : Nat} (h : (numL n).length ≤ 4300) : intText? (Str.ofString (toString ((n : Nat) : Int))) = some (n : Int) := by
 have e := intText_digits (x := Str.ofString (toString ((n : Nat) : Int))) (by rw [show (Str.ofString (toString ((n : Nat) : Int))).cps.toList = numL n from jdm n];exact jdD n)
  (by rw [show (Str.ofString (toString ((n : Nat) : Int))).cps.toList = numL n from jdm n];exact jgZ n) (by rw [jcL,jdm];exact h)
 rw [show (Str.ofString (toString ((n : Nat) : Int))).cps.toList = numL n from jdm n,jka] at e
 exact e
end TL
end
namespace L2
open PySem PySem.Spec PyProof.Rows
theorem jfK : ∀ l : List (Str × Tok),Vals ((l.map (·.1)).map V.str) (strValues l)
 | [] => .nil
 | p :: r => .cons ⟨p.2,rfl⟩ (jfK r)
theorem jae : ∀ {ys : List Str} {us : List Value},Vals (ys.map V.str) us → StrsAre us ys
 | [],_,.nil => .nil
 | y :: ys,_,.cons r t => by
  obtain ⟨k,rfl⟩ := r
  exact .cons y k (jae t)
def jhG (ys : List Str) : Hp → VK → Prop := fun H Q => ∀ p,H p = none → Q (.ref p) (upd H p (.lst (ys.map V.str)))
section
variable {X : Cx} {pins : List (Addr × Obj)} {σ : St} {H : Hp} {s : Shared} {Q : VK}
theorem jdO {l : List (Str × Tok)} {ys : List Str} {k : Nat} (I : Inv X pins σ H s) (e : l.map (·.1) = ys) (hz : ys.length ≤ sizeLine) (h : jhG ys H Q) :
  EP X pins σ Q (.ref s.heap.objs.size) { s with toks := k,heap := s.heap.push { cls := .type "list",data := .seq (strValues l).toArray } } := by
 have hp := I.hok.fresh (Nat.le_refl _)
 refine ⟨.ref s.heap.objs.size,upd H s.heap.objs.size (.lst (ys.map V.str)),I.laid (fun b u q => Heap.get?_push_of_some _ q) (Nat.le_refl _) ⟨by rw [List.length_map];exact hz,strValues l,_,?_,Heap.get?_push_size _ rfl⟩,rfl,h _ hp⟩
 rw [← e]
 exact jfK l
end
section
variable {X : Cx}
theorem jkc : MtR X "str.split" (fun x xs H Q => ∃ a b,x = .str a ∧ xs = [.str b] ∧ (b.length == 0) = false ∧ a.length + 2 ≤ sizeLine ∧ jhG (Txt.split a b) H Q) := by
 intro pins s σ H x xs v us Q I rx rs h
 obtain ⟨a,b,rfl,rfl,hb,hz,h⟩ := h
 obtain ⟨t,rfl⟩ := rx
 cases rs with
 | cons r1 rs =>
  cases rs
  obtain ⟨u,rfl⟩ := r1
  have hl : (Txt.split a b).length ≤ sizeLine := Nat.le_trans (PyProof.Rows.split_le a b) hz
  have hn : (Builtin.Str.partsBetween a (Builtin.Str.occurrences a b 0 a.length (a.length + 1)) b.length).length ≤ sizeLine := by
   have e1 := StrLaws.occ_length_le a b 0 a.length (a.length + 1)
   rw [length_partsBetween];omega
  cases h1 : (decide (a.length < b.length) || decide (Builtin.Str.strKind a < Builtin.Str.strKind b))
  ·cases hf : (Builtin.Str.occurrences a b 0 a.length (a.length + 1)).isEmpty
   ·refine call_meets F.slot_str_split (typeIs_str _ _ _) F.entry_str_split (F.args_str_split_2 _ _) (meets_str_split_sep a b t u h1 hb hf (by omega) hn) ?_
    show EP X pins σ Q (.ref s.heap.objs.size) { s with toks := _,heap := s.heap.push { cls := .type "list",data := .seq (strsFrom s.toks (Builtin.Str.partsBetween a (Builtin.Str.occurrences a b 0 a.length (a.length + 1)) b.length)).toArray } }
    rw [strsFrom_eq]
    exact jdO (ys := Txt.split a b) I ((numbered_texts _ _).trans ((if_neg (ne_true_of_eq_false h1)).trans (if_neg (ne_true_of_eq_false hf))).symm) hl h
   ·refine call_meets F.slot_str_split (typeIs_str _ _ _) F.entry_str_split (F.args_str_split_2 _ _) (meets_str_split_not_found a b t u h1 hb hf) ?_
    exact jdO (l := [(a,t)]) (ys := Txt.split a b) (k := s.toks) I ((if_neg (ne_true_of_eq_false h1)).trans (if_pos hf)).symm hl h
  ·refine call_meets F.slot_str_split (typeIs_str _ _ _) F.entry_str_split (F.args_str_split_2 _ _) (meets_str_split_cannot_occur a b t u h1) ?_
   exact jdO (l := [(a,t)]) (ys := Txt.split a b) (k := s.toks) I (if_pos h1).symm hl h
theorem jlg : MtR X "str.join" (fun x xs H Q => ∃ a p,∃ ys : List Str,x = .str a ∧ xs = [.ref p] ∧ (SqL X.K H p (ys.map V.str) ∨ SqT X.K H p (ys.map V.str)) ∧
  (ys.map (·.length)).sum + ys.length * a.length ≤ 16777216 ∧ Q (.str (Txt.join a ys)) H) := by
 intro pins s σ H x xs v us Q I rx rs h
 obtain ⟨a,p,ys,rfl,rfl,hp,hz,h⟩ := h
 obtain ⟨t,rfl⟩ := rx
 cases rs with
 | cons r1 rs =>
  cases rs
  cases r1
  rcases hp with hp | hp
  ·obtain ⟨its,r,⟨o,n,ho,hc,_,hd⟩,_⟩ := I.list hp
   exact PyProof.Rows.join_list (items := its.toArray) ⟨o,ho,hc,n,hd⟩ (by rw [List.toList_toArray];exact jae r) hz fun t' k => ⟨.str _,H,I.tok k,⟨t',rfl⟩,h⟩
  ·obtain ⟨its,r,ht,_⟩ := I.tuple hp
   exact PyProof.Rows.join_tuple (items := its.toArray) ht (by rw [List.toList_toArray];exact jae r) hz fun t' k => ⟨.str _,H,I.tok k,⟨t',rfl⟩,h⟩
theorem jgD : CallR X (.type "int") (fun xs H Q => ∃ a n,xs = [.str a] ∧ PySem.intText? a = some n ∧ a.length ≤ 640 ∧ Q (.int n) H) := by
 intro pins s σ H xs us Q I rs h
 obtain ⟨a,n,rfl,hn,hl,h⟩ := h
 cases rs with
 | cons r1 rs =>
  cases rs
  obtain ⟨t,rfl⟩ := r1
  exact PySem.W.KIN.call_text hn hl ⟨.int n,H,I.tok _,⟨_,rfl⟩,h⟩
end
section
variable {X : Cx} {o e : Expr} {to te : TE}
def tM1 (r : V → List V → Hp → VK → Prop) (to te : TE) : TE := fun σ H Q => to σ H fun x H1 => (∃ a,x = .str a) ∧ te σ H1 fun y H2 => r x [y] H2 Q
theorem jlL {id : String} {name : Str} {apos pos : Pos} {r : V → List V → Hp → VK → Prop} (slot : Slot "str" name id) (ty : typeOf (.builtin id) = pure (.type "method_descriptor")) (rule : MtR X id r) (ho : PE X o to) (he : PE X e te)
  (hs : starEach [e] X.env = [(false,eval e X.env)] := by rfl) (hbase : attributeBase o name X.env (eval o X.env) = eval o X.env := by rfl) (hline : (apos.endLine == pos.line) = true := by rfl) :
  PE X (.Call (.Attribute o name apos) [e] [] pos) (tM1 r to te) := by
 intro pins s σ H Q I h
 refine PySem.Call_method1 hbase hs hline (thn (ho pins s σ H _ I h) fun v s1 ⟨x,H1,I1,r1,q1⟩ => ?_)
 obtain ⟨⟨a,rfl⟩,q1⟩ := q1
 obtain ⟨t,rfl⟩ := _root_.id r1
 refine ⟨"str",_,F.plainAttrs_str,slot,ty,typeIs_str _ _ _,(fun _ e => nomatch e),Calls.callWith_builtin rfl (Calls.evalArgs_plain (Calls.spliced_cons ?_))⟩
 exact thn (he pins s1 σ H1 _ I1 q1) fun u s2 ⟨y,H2,I2,r2,q2⟩ => Calls.spliced_nil (rule pins s2 σ H2 _ [y] _ [u] Q I2 r1 (.cons r2 .nil) q2)
end
end L2
namespace L2
open PySem PySem.Spec PyProof.Rows
section
variable {X : Cx}
theorem je4 : OpR X (compareOp .NotIn) (fun x y H Q => ∃ (c : Nat) (z : Str),x = .str ⟨#[c]⟩ ∧ y = .str z ∧ Q (.bl (!decide (c ∈ z.cps.toList))) H) := by
 intro pins s σ H x y v u Q I rx ry h
 obtain ⟨c,z,rfl,rfl,q⟩ := h
 obtain ⟨t,rfl⟩ := rx
 obtain ⟨t',rfl⟩ := ry
 exact PyProof.Rows.notIn_str (zB I q (congrArg Bool.not (PySem.StrLaws.found_one z c).symm))
end
end L2
namespace Att
open PySem PySem.W PySem.Calls PyProof.Rows
theorem jdQ {P : Params} {h : Heap} : ∀ (ns : List Int) (vs : List Value),WellAll P h vs (ns.map WData.int) → IntsAre vs ns := by
 intro ns
 induction ns with
 | nil =>
  intro vs w
  rw [List.map_nil] at w
  cases w
  exact .nil
 | cons n ns ih =>
  intro vs w
  rw [List.map_cons] at w
  cases w with
  | cons a b =>
   cases a
   exact .cons _ _ (ih _ b)
theorem jiP {l : OpenLaw} {n : Nat} (hn : l.most = some n) {P : Params} {h : Heap} {args : List WData} {vals : List Value}
  (hpre : l.row.toRowW.claim.pre args = true) (hwl : WellAll P h vals args) :
  ∃ a vs ns,vals = [Value.ref a] ∧ args = [WData.list (ns.map WData.int)] ∧ h.get? a = some { cls := .type "list",data := .seq vs.toArray } ∧ IntsAre vs ns ∧ ns.length ≤ n := by
 have hsh : WShape.hasAll [] args [.list .int] = true := (pre_splitW hpre).1
 have hc : l.pre.holds [] { args := args } = true := (pre_splitW hpre).2
 obtain ⟨d,r,rfl,h1,h2⟩ := hasAllW_cons hsh
 obtain rfl := hasAllW_nil h2
 obtain ⟨xs,rfl,h3⟩ := hasW_list h1
 obtain ⟨ns,rfl⟩ := items_int h3
 have hlen : ns.length ≤ n := by
  unfold OpenLaw.pre at hc
  have h4 : (WTm.not (.lt (.lit (.int (n : Int))) (.len (.arg 0)))).holds [] { args := [.list (ns.map .int)] } = true := by
   have h4 := (holds_andW hc).1
   rw [hn] at h4
   exact h4
  have h5 := condW_of h4 (w_not (w_lt w_lit (w_len_list (w_arg rfl))))
  rw [List.length_map] at h5
  refine Nat.le_of_not_lt fun q => ?_
  have q' : (n : Int) < ((ns.length : Nat) : Int) := by omega
  first
   | (rw [decide_eq_true q'] at h5;exact absurd h5 (by decide))
   | (simp at h5;omega)
 cases hwl with
 | cons w1 w2 =>
  cases w2
  cases w1 with
  | list ho hall => exact ⟨_,_,ns,rfl,rfl,ho,jdQ ns _ hall,hlen⟩
theorem jiW (l : OpenLaw) (args : List WData) : l.row.toRowW.claim.post args (.bool true) args = true :=
 postW_of (r := l.row.toRowW) (X := (true == true))
  (show WShape.has [] (.bool true) .bool = true by first | rfl | decide | simp [WShape.has,WShape.arms,WShape.armsAll])
  (show (WTm.eq .res (.lit (.bool true))).value [] { args := args,res := some (.bool true),after := args } = some (.bool (true == true)) from w_eq_bool (w_res rfl) w_lit) rfl
theorem attach_call {l : OpenLaw} {n : Nat} {q : Program} {loose : List Str} {XP : (Str → Option Value) → Heap → Prop} {YP : World → Heap → Prop} {d : DefRec}
  (hn : l.most = some n) (hdf : d.params.defaults = [])
  (call : ∀ (w : World) (s₀ s₁ : Shared) (mg mb : Str → Option Value) (fa : Addr) (o : Obj) (pm cd doc : Value) (a : Addr) (vs : List Value) (ns : List Int),
   Ground q loose [] XP w s₀ mg mb s₁.heap → YP w s₁.heap →
   s₁.heap.get? fa = some o → o.data = .func (docDef d.name d.params d.body d.scope pm cd doc) → s₁.heap.CodeRec cd d.name → mg d.name = some (.ref fa) →
   s₁.heap.get? a = some { cls := .type "list",data := .seq vs.toArray } → IntsAre vs ns → ns.length ≤ n → s₁.gens = #[] →
   codeAny (model l.prog w) callerA (.call (.ref fa) ⟨[.ref a],[]⟩) (fun r s' => r = .ok (.ret (.bool true)) ∧ OldK s₁.heap s'.heap ∧ s'.os = s₁.os ∧ AllBare s'.gens) s₁) :
  WalkO q loose XP YP l.row.toRowW d [] (fun f vs => PySem.call f vs) := by
 intro w s₀ s₁ mg mb G Y fa o pm cd doc dV kV ho hd hcd hD hmg hg args vals as hpre hlay hrd hwl hlo
 obtain rfl : dV = .none := Dflts.none hD hdf
 obtain rfl : kV = .none := Dflts.noKw hD
 obtain ⟨a,vs,ns,rfl,rfl,hobj,hints,hlen⟩ := jiP hn hpre hwl
 refine enter_call (codeAny_mono (call w s₀ s₁ mg mb fa o pm cd doc a vs ns G Y ho (fd_plain hd) hcd hmg hobj hints hlen hg) fun r s' hq => ?_)
 obtain ⟨rfl,h2,h3,h4⟩ := hq
 exact ⟨.inl ⟨.bool true,.bool true,[],rfl,fun _ => rfl,.bool true,jiW l _,fun _ => ⟨List.Pairwise.nil,fun _ hm => (nomatch hm)⟩⟩,h2,h3,h4⟩
section
variable {prog : Program} {w : World} {A : Around} {E : Value → Shared → Prop} {s : Shared} {K : Frag}
def jm7 (h : Heap) (L d : Addr) : List (Addr × Obj) := (List.range h.objs.size).filterMap fun a => if a = L ∨ a = d then none else (h.get? a).map fun o => (a,o)
end
end Att
namespace L2
open PySem PySem.Spec PyProof.Rows
theorem jfM : ∀ {vs : List Value} {ns : List Int},IntsAre vs ns → Vals (ns.map V.int) vs
 | _,_,.nil => .nil
 | _,_,.cons n t h => .cons ⟨t,rfl⟩ (jfM h)
def Only (H : Hp) : Prop := ∀ b,H b = none ∨ ∃ o xs,H b = some (.frz o (.lst xs))
theorem jke {P : Program} {w : World} {K : PySem.W.Frag} {mg mb : Str → Option Value} {CX : CXT} {k : Nat} {fa a : Addr} {fd : FuncData} {x : Str} {sp : Sp} {s₁ : Shared} {vs : List Value} {ns : List Int}
  (KX : K.In s₁.heap) (hns : s₁.heap.Ns mainGlobals mg) (hb : s₁.heap.Ns builtinsNs mb) (hbb : ∀ x : Str,x ≠ "__name__" → mb x = bootBuiltins x) (hlim : s₁.heap.NoLimit) (hg : s₁.gens = #[])
  (ha : s₁.heap.get? a = some { cls := .type "list",data := .seq vs.toArray }) (hi : IntsAre vs ns) (hl : ns.length ≤ sizeLine) (hr : Room k callerA)
  (F : ∀ base : Heap,K.In base → base.Ns mainGlobals mg → FnOk P w K mg base CX k fa fd [x] sp) (hbind : ∀ (s : Shared) (u : Value),BindsTo s fd ⟨[u],[]⟩ [(x,u)])
  (hsp : ∀ H : Hp,Only H → SqL K H a (ns.map V.int) → sp [.ref a] H (fun v _ => v = .bl true) fun _ _ _ => False)
  (hCX : ∀ H e s',CX [] H s₁ (fun _ _ _ => False) e s' → False) :
  codeAny (model P w) callerA (.call (.ref fa) ⟨[.ref a],[]⟩) (fun r s' => r = .ok (.ret (.bool true)) ∧ OldK s₁.heap s'.heap ∧ s'.os = s₁.os ∧ AllBare s'.gens) s₁ := by
 have rv := jfM hi
 have lenV := hi.length
 have core : ∀ H : Hp,Only H → SqL K H a (ns.map V.int) → HOk P w H s₁.heap → (∀ b,H b ≠ none → b = a) → (H a ≠ none → K.lookup a = none) →
   codeAny (model P w) callerA (.call (.ref fa) ⟨[.ref a],[]⟩) (fun r s' => r = .ok (.ret (.bool true)) ∧ OldK s₁.heap s'.heap ∧ s'.os = s₁.os ∧ AllBare s'.gens) s₁ := by
  intro H hO hS hok hA hK
  have base_of : ∀ {b : Addr} {o : Obj},s₁.heap.get? b = some o → H b = none → (hidT s₁.heap H).get? b = some o := fun e n => jki e n
  have noA : ∀ {b : Addr} {o : Obj} {es : Array DictEntry} {ep : Nat},s₁.heap.get? b = some o → o.data = .dict es ep → H b = none := fun {b o es ep} e d => by
   cases q : H b with
   | none => rfl
   | some u =>
    have e' : b = a := hA b (by rw [q];simp)
    subst e'
    rw [ha] at e;cases e
    have d' : Data.seq vs.toArray _ = Data.dict es ep := d
    cases d'
  have nsK : ∀ {b : Addr} {m : Str → Option Value},s₁.heap.Ns b m → (hidT s₁.heap H).Ns b m := fun {b m} ⟨o,es,ep,e,d,r⟩ => ⟨o,es,ep,base_of e (noA e d),d,r⟩
  have hKb : K.In (hidT s₁.heap H) := fun b o e => base_of (KX b o e) (by
   cases q : H b with
   | none => rfl
   | some u =>
    have e' : b = a := hA b (by rw [q];simp)
    subst e'
    rw [hK (by rw [q];simp)] at e;cases e)
  have hM : Mod K mg (hidT s₁.heap H) := ⟨hKb,nsK hns,⟨mb,nsK hb,hbb⟩,let ⟨mc,h1,h2⟩ := hlim;⟨mc,nsK h1,h2⟩⟩
  have e0 : Env0 P w K mg (hidT s₁.heap H) callerA [] s₁ H := ⟨rfl,hM,fun b o e => jla e,Nat.le_of_eq (jjl _ _),trivial,fun b hb => absurd (show b ∈ ([] : List Addr) from hb) (by simp),hok,.of_eq hg⟩
  refine codeAny_mono ((F _ hKb (nsK hns)).run callerA [] s₁ H ⟨[.ref a],[]⟩ [.ref a] [.ref a] _ _ hr e0 (hbind s₁ (.ref a)) (.cons rfl .nil) (hsp H hO hS)) fun r s' h => ?_
  cases r with
  | error e => exact (hCX H e s' h).elim
  | ok fl =>
   cases fl with
   | next => exact False.elim h
   | brk => exact False.elim h
   | cont => exact False.elim h
   | ret u =>
    obtain ⟨v,H',os,bare,un,hok',r',q⟩ := h
    have q' : v = .bl true := q
    subst q'
    obtain rfl : u = Value.bool true := r'
    refine ⟨rfl,OldK.of_keep fun b o e => ?_,os,bare⟩
    cases q : H b with
    | none => exact un.keep b o e q (by intro z;exact absurd (show b ∈ ([] : List Addr) from z) (by simp)) (by simp)
    | some u =>
     rcases hO b with z | ⟨ob,xs,z⟩
     ·rw [q] at z;cases z
     ·have z2 := un.frzs b ob _ z
      obtain ⟨e1,_⟩ := hok b _ z
      obtain ⟨e2,_⟩ := hok' b _ z2
      rw [e] at e1;cases e1
      exact e2
 cases hk : K.lookup a with
 | some o =>
  have e := KX a o hk
  rw [ha] at e
  cases e
  refine core (fun _ => none) (fun _ => .inl rfl) (.inr ⟨_,vs.toArray,_,hk,rfl,rfl,rfl,by rw [List.size_toArray,lenV];exact hl,by simpa using rv⟩) (fun b u z => by have z' : (none : Option HO) = some u := z;cases z') (fun b z => absurd rfl z) fun z => absurd rfl z
 | none =>
  refine core (fun b => if b = a then some (.frz { cls := .type "list",data := .seq vs.toArray } (.lst (ns.map V.int))) else none) (fun b => ?_) (.inl (.inr ⟨{ cls := .type "list",data := .seq vs.toArray },if_pos rfl⟩)) (fun b u z => ?_) (fun b z => ?_) fun _ => hk
  ·by_cases hb : b = a
   ·exact .inr ⟨_,_,if_pos hb⟩
   ·exact .inl (if_neg hb)
  ·by_cases hb : b = a
   ·have z' := (if_pos hb).symm.trans z
    cases z'
    subst hb
    exact ⟨ha,by rw [List.length_map];exact hl,vs,_,rv,ha⟩
   ·have z' := (if_neg hb).symm.trans z
    cases z'
  ·by_cases hb : b = a
   ·exact hb
   ·exact absurd (if_neg hb) z
end L2
namespace L2
open PySem PySem.Spec PyProof.Rows
theorem walk_of {l : PySem.W.OpenLaw} {n k : Nat} {q : Program} {loose : List Str} {XP : (Str → Option Value) → Heap → Prop} {YP : World → Heap → Prop} {d : DefRec} {K : Params → PySem.W.Frag} {CX : World → CXT} {sp : World → Sp} {x : Str}
  (hn : l.most = some n) (hn2 : n ≤ sizeLine) (hdf : d.params.defaults = []) (hr : Room k callerA)
  (hY : ∀ (w : World) (h : Heap),YP w h → (K w.params).In h)
  (F : ∀ (w : World) (mg : Str → Option Value) (fa : Addr) (h : Heap),(K w.params).In h → h.Ns mainGlobals mg → mg d.name = some (.ref fa) →
   ∃ fd : FuncData,(∀ (s : Shared) (u : Value),BindsTo s fd ⟨[u],[]⟩ [(x,u)]) ∧
    ∀ base : Heap,(K w.params).In base → base.Ns mainGlobals mg → FnOk l.prog w (K w.params) mg base (CX w) k fa fd [x] (sp w))
  (hsp : ∀ (w : World) (H : Hp) (a : Addr) (ns : List Int),ns.length ≤ n → Only H → SqL (K w.params) H a (ns.map V.int) → sp w [.ref a] H (fun v _ => v = .bl true) fun _ _ _ => False)
  (hCX : ∀ (w : World) (H : Hp) (s : Shared) (e : Value) (s' : Shared),CX w [] H s (fun _ _ _ => False) e s' → False) :
  PySem.W.WalkO q loose XP YP l.row.toRowW d [] (fun f vs => PySem.call f vs) := by
 refine Att.attach_call hn hdf fun w s₀ s₁ mg mb fa o pm cd doc a vs ns G Y ho hd hcd hmg hobj hints hlen hg => ?_
 have KX := hY w _ Y
 obtain ⟨fd,hb,hF⟩ := F w mg fa _ KX G.T.g hmg
 exact jke KX G.T.g G.T.b G.T.builtins G.T.nolimit hg hobj hints (Nat.le_trans hlen hn2) hr hF hb (fun H hO hS => hsp w H a ns hlen hO hS) fun H e s' => hCX w H s₁ e s'
end L2
/- THE LAST THEOREM (shape; LID, My.* are yours):
   My.Adr: a structure of the addresses that your layer names (classes, functions); My.Txt K t: a structure (Prop) of the equations over K;
   My.txt_mk : {K} {implicit addresses ..} (e1 : nsIn K mainGlobals "law" = some (some (.ref f))) (e2 : K.lookup f = some ⟨oc, od, .func (fnOf "law" "law" params body scope dV kV doc pm an cdv ct), sl⟩) (e3 : codeIn K cdv "law" = true) .. : ∃ t, My.Txt K t
(the tactic k_is has no namespace: write k_is) -/
namespace L2
open PySem PySem.Spec PyProof.Rows
def defArgs (s : Stmt) : Arguments := match s with
 | .FunctionDef _ a _ _ _ _ _ _ _ _ => a
 | _ => { posonlyargs := [],args := [],vararg := none,kwonlyargs := [],kw_defaults := [],kwarg := none,defaults := [] }
def defBody (s : Stmt) : List Stmt := match s with
 | .FunctionDef _ _ b _ _ _ _ _ _ _ => b
 | _ => []
def defScope (s : Stmt) : Scope := match s with
 | .FunctionDef _ _ _ _ _ _ sc _ _ _ => sc
 | _ => { kind := .function,names := [],isGenerator := false,isCoroutine := false }
abbrev CX0 : CXT := fun _ _ _ _ _ _ => False
abbrev E0 : XK := fun _ _ _ => False
theorem j5 {X : Cx} : Passes CX0 X E0 := fun _ _ _ _ _ _ _ h => h.elim
structure Fun (K : PySem.W.Frag) (x qual : Str) (st : Stmt) (f : Addr) (fd : FuncData) : Prop where
 ex : ∃ (oc : Value) (od : Option Addr) (kV doc pm : Value) (an : Option Addr) (cdv ct : Value) (osl : Array (Option Value)),
  fd = PySem.W.fnOf x qual (defArgs st) (defBody st) (defScope st) .none kV doc pm an cdv ct ∧ K.lookup f = some ⟨oc,od,.func fd,osl⟩ ∧ PySem.W.codeIn K cdv qual = true
 kp : PySem.W.keepIn K (.ref f) = true
section
variable {P : Program} {w : World} {K : PySem.W.Frag} {mg : Str → Option Value} {base : Heap}
theorem Fun.ok {x qual : Str} {st : Stmt} {f : Addr} {fd : FuncData} {N ps : List Str} {k : Nat} {sp : Sp} (F : Fun K x qual st f fd) (S : FnScope N ps (defScope st)) (len : ∀ vs H Q E,sp vs H Q E → vs.length = ps.length)
  (hbody : ∀ (cdv : Value) (A : Around) (outer : List Env) (s : Shared) (H : Hp) (vs : List V) (Q : VK) (E : XK),Room k (A.deeper (envOfC qual (defScope st) s.heap.objs.size f cdv)) → sp vs H Q E →
   ∃ t,PSs (cxOf CX0 P w K mg base N qual (defScope st) f cdv A outer s H E).nox (defBody st) t ∧ t { nx := fun _ H' => Q .non H',rt := Q } (start N vs) H) : FnOk P w K mg base CX0 (k + 1) f fd ps sp := by
 obtain ⟨oc,od,kV,doc,pm,an,cdv,ct,osl,rfl,lk,hcd⟩ := F.ex
 refine jmZ lk hcd S len fun A outer s H vs Q E hr hsp => ?_
 obtain ⟨t,h,q⟩ := hbody cdv A outer s H vs Q E hr hsp
 exact ⟨t,h.nox,q⟩
theorem Fun.binds {x qual : Str} {st : Stmt} {f : Addr} {fd : FuncData} {ps : List Str} (F : Fun K x qual st f fd)
  (h : ∀ (kV doc pm : Value) (an : Option Addr) (cdv ct : Value) (us : List Value),us.length = ps.length → bindArgs (PySem.W.fnOf x qual (defArgs st) (defBody st) (defScope st) .none kV doc pm an cdv ct) ⟨us,[]⟩ = pure (ps.zip us)) : Binds K fd ps [] := by
 obtain ⟨oc,od,kV,doc,pm,an,cdv,ct,osl,rfl,lk,hcd⟩ := F.ex
 exact .all (h kV doc pm an cdv ct)
theorem jkI {x qual : Str} {st : Stmt} {f : Addr} {oc : Value} {od an : Option Addr} {osl : Array (Option Value)} {kV doc pm cdv ct : Value} (l : K.lookup f = some ⟨oc,od,.func (PySem.W.fnOf x qual (defArgs st) (defBody st) (defScope st) .none kV doc pm an cdv ct),osl⟩)
  (c : PySem.W.codeIn K cdv qual = true) (k : PySem.W.keepIn K (.ref f) = true) : Fun K x qual st f (PySem.W.fnOf x qual (defArgs st) (defBody st) (defScope st) .none kV doc pm an cdv ct) := ⟨⟨oc,od,kV,doc,pm,an,cdv,ct,osl,rfl,l,c⟩,k⟩
end
theorem jkh {A : Around} {k : Nat} (hr : Room k A) : A.units + 1 < cLine := Nat.lt_of_le_of_lt (Nat.add_le_add_left (by decide : 1 ≤ 64) _) hr.units
section
variable {X : Cx}
theorem pv (i : Nat) {x : Str} {pos : Pos} (hN : X.N[i]? = some x := by rfl) (hv : Vis X.env.scope x := by first | exact Or.inl rfl | exact Or.inr (Or.inl rfl) | exact Or.inr (Or.inr rfl)) (hd : (x == ("__debug__" : Str)) = false := by decide)
  (hcd : (x == ("__classdict__" : Str)) = false := by decide) : PE X (.Name x pos) (tVar i) := pe_var hN hv hd hcd
end
theorem iteF {A B : Prop} (h : B) : if false = true then A else B := by
 rw [if_neg Bool.false_ne_true]
 exact h
theorem iteT {A B : Prop} (h : A) : if true = true then A else B := by
 rw [if_pos rfl]
 exact h
theorem jmY {c A B : Prop} [Decidable c] (hc : c) (h : B) : if (!decide c) = true then A else B := by
 rw [decide_eq_true hc]
 exact iteF h
def Same (H H' : Hp) : Prop := ∀ b o,H b = some o → H' b = some o
theorem Same.refl (H : Hp) : Same H H := fun _ _ h => h
theorem Same.trans {H H1 H2 : Hp} (a : Same H H1) (b : Same H1 H2) : Same H H2 := fun c o h => b c o (a c o h)
theorem Same.free {H H' : Hp} (e : Same H H') {l : Addr} (h : H' l = Option.none) : H l = Option.none := by
 cases q : H l with
 | none => rfl
 | some o =>
  rw [e l o q] at h
  cases h
section
variable {κ : Type} [DecidableEq κ]
end
theorem jby {xs : List V} {z : Int} {j : Nat} {v : V} (e : z = (j : Int)) (h : xs[j]? = some v) : atI xs z = some v := by
 rw [e]
 exact jhm h
end L2
section
namespace L2
open PySem PySem.Spec PyProof.Rows
structure FlyAt (h : Heap) (e : Addr) (cls : Value) (dx : Option Addr) (T : Addr) (fl : Value) : Prop where
 ob : ∃ oe vs,h.get? e = some oe ∧ oe.cls = cls ∧ oe.dict = dx ∧ oe.data = .fields vs ∧ vs[1]? = some (.ref T)
 tr : ∃ oT ts,h.get? T = some oT ∧ oT.data = .fields ts ∧ ts[3]? = some fl
 ne : T ≠ e
section
variable {M : Model} {A : Around} {E : Value → Shared → Prop} {s : Shared}
end
end L2
end
section
namespace L2
open PySem PySem.Spec PyProof.Rows
def CXE (P : Program) (w : World) : CXT := fun outer H s E e s' => ∃ (a T : Addr) (cls : Value) (dx : Option Addr) (H' : Hp),e = .ref a ∧ s'.os = s.os ∧ AllBare s'.gens ∧ Un (frs outer) [] H H' s.heap s'.heap ∧ HOk P w H' s'.heap ∧
 FlyAt s'.heap a cls dx T .none ∧ s.heap.get? a = none ∧ s.heap.get? T = none ∧ H' a = none ∧ H' T = none ∧ E cls dx H'
section
variable {X : Cx} {pins : List (Addr × Obj)} {σ : St} {H : Hp} {s : Shared} {h' : Heap} {e T : Addr}
end
end L2
end
section
namespace L2
open PySem PySem.Spec PyProof.Rows
abbrev bmE : List Value := [.type "Exception",.type "BaseException",.type "object"]
section
variable {prog : Program} {w : World} {A : Around} {E : Value → Shared → Prop} {h : Heap} {g : Array GenState} {d : Drawn} {t : Nat} {os : OsState}
variable {nm q : Str} {C N x : Addr} {bs : List Value} {sn : List Str} {sub : List Value} {ab : Bool} {col : Option Bool} {dd : Option Addr} {k0 k1 k2 k3 k5 : Option Value} {newId : String}
 {mN : Str → Option Value} {f : Str} {v : Value} {vs : Array Value} {sl : Array (Option Value)}
end
structure XCls (K : PySem.W.Frag) (C fI : Addr) (f : Str) : Prop where
 ob : ∃ nm q N bs sn sub ab col dd k0 k1 k2 k3 k5,K.lookup C = some (excClassObj nm q C N bs bmE true sn sub ab col dd k0 k1 k2 k3 k5 "Exception.__new__") ∧ PySem.W.nsOkIn K N = true ∧
  PySem.W.nsIn K N "__init__" = some (some (.ref fI)) ∧ PySem.W.nsIn K N f = some none ∧ PySem.W.nsIn K N "__getattribute__" = some none ∧ PySem.W.nsIn K N "__getattr__" = some none
 fn : ∃ od dt sl,K.lookup fI = some ⟨.type "function",od,dt,sl⟩
 kp : PySem.W.keepIn K (.ref C) = true
 sa : PySem.W.findIn K (.ref C) "__setattr__" = some (some (.builtin "object.__setattr__"))
 nB : typeLookup (.type "Exception") f = pure none
def xob (C t : Addr) (dx : Option Addr) : Obj := ⟨.ref C,dx,.fields #[.ref t,.none,.none,.none,.bool false,.none],#[]⟩
def isX (C a t : Addr) (dx : Option Addr) : HO := .ext fun h => h.get? a = some (xob C t dx)
section
variable {P : Program} {w : World} {H H' : Hp} {h h' : Heap} {a : Addr} {o : HO}
end
end L2
end
section
namespace L2
open PySem PySem.Spec PyProof.Rows
section
variable {prog : Program} {w : World} {A : Around} {E : Value → Shared → Prop} {h : Heap} {g : Array GenState} {d : Drawn} {t : Nat} {os : OsState}
variable {nm q : Str} {C N a dx : Addr} {bs bm : List Value} {sn : List Str} {sub : List Value} {ab : Bool} {col : Option Bool} {dd : Option Addr} {k0 k1 k2 k3 k5 : Option Value} {B newId : String}
 {mN mA : Str → Option Value} {f : Str} {v : Value} {o : Obj}
end
end L2
end
section
namespace L2
open PySem PySem.Spec PyProof.Rows
section
variable {X : Cx} {pins : List (Addr × Obj)} {σ : St} {H : Hp} {s : Shared} {e : Addr}
theorem Inv.drop {φ : Heap → Prop} (I : Inv X pins σ H s) (he : H e = some (.ext φ)) (n0 : X.s_0.heap.get? e = none) : Inv X pins σ (fun b => if b = e then none else H b) s := by
 have k : ∀ {b : Addr} {o : HO},H b = some o → (∀ ψ,o ≠ .ext ψ) → (if b = e then none else H b) = some o := fun {b o} hb ne => by
  rw [if_neg]
  ·exact hb
  ·intro z
   rw [z,he] at hb
   cases hb
   exact ne φ rfl
 have f : ∀ {b : Addr},H b = none → (if b = e then none else H b) = none := fun {b} hb => by
  split
  ·rfl
  ·exact hb
 have B := I.base
 refine ⟨I.ok,I.os,I.bare,⟨B.keep,B.slot,fun b o hb n hx => f (B.free b o hb n hx),B.there,fun b xs q => k (B.tups b xs q) (fun _ z => nomatch z),fun b o u q => k (B.frzs b o u q) (fun _ z => nomatch z),fun b ps q => ?_⟩,I.loc,I.cell,f I.free,fun x c q => f (I.freeC x c q),fun p hp => ?_,fun b u q => ?_,I.len⟩
 ·obtain ⟨m,z⟩ := B.tbls b ps q
  exact ⟨m,k z (fun _ z => nomatch z)⟩
 ·obtain ⟨a1,a2,a3⟩ := I.pin p hp
  exact ⟨a1,f a2,a3⟩
 ·by_cases z : b = e
  ·rw [if_pos z] at q;cases q
  ·rw [if_neg z] at q
   exact (I.hok b u q).stay (fun _ _ _ r => r) (fun c r => k r (fun _ z => nomatch z)) fun c xs r => k r (fun _ z => nomatch z)
end
def jdv (K : PySem.W.Frag) (ta tv : TE) (f : Str) : TS := fun D σ H => tv σ H fun y H1 => ta σ H1 fun x H2 => ∃ a C fI t,x = .ref a ∧ H2 a = some (isX C a t none) ∧ XCls K C fI f ∧
 ∀ dx,H2 dx = none → dx ≠ a → D.nx σ (upd (upd H2 a (isX C a t (some dx))) dx (.xd [(f,y)]))
end L2
end
section
namespace L2
open PySem PySem.Spec PyProof.Rows
def g9 (C : Addr) (f : Str) (E : XK) (t : TA) : TS := fun D σ H => t σ H fun vs H1 => ∃ v,vs = [v] ∧ ∀ dx,H1 dx = none → E (.ref C) (some dx) (upd H1 dx (.xd [(f,v)]))
section
variable {P : Program} {w : World} {K : PySem.W.Frag} {mg : Str → Option Value} {base : Heap} {N : List Str} {qual : Str} {scope : Scope} {g : Addr} {cd : Value} {A : Around} {outer : List Env} {s0 : Shared} {H0 : Hp} {E : XK}
 {C fI : Addr} {fdI : FuncData} {f x ps1 ps2 : Str} {k : Nat} {e : Expr} {t : TA} {p pos cpos : Pos}
end
end L2
end
section
namespace L2
open PySem PySem.Spec PyProof.Rows
section
variable {X : Cx} {pins : List (Addr × Obj)} {σ : St} {H : Hp} {s : Shared} {h' : Heap} {e T : Addr}
end
def yY (sp : Sp) (C : Addr) (fl : Str) (t : TA) : TS := fun D σ H => t σ H fun vs H1 => sp vs H1 (fun _ H2 => D.nx σ H2) fun cls dx H2 => cls = .ref C ∧ ∃ d v,dx = some d ∧ H2 d = some (.xd [(fl,v)]) ∧ D.rt v H2
section
variable {P : Program} {w : World} {X : Cx} {C fI f : Addr} {fd : FuncData} {ps : List Str} {sp : Sp} {k i : Nat} {x y n fl : Str} {e : Expr} {es : List Expr} {t : TA} {p pos cpos epos np np2 ap rp hpos : Pos}
end
end L2
end
section
namespace L2
open PySem PySem.Spec PyProof.Rows
def Cal (P : Program) (w : World) (K : PySem.W.Frag) (mg : Str → Option Value) (base : Heap) (CX : CXT) (x : Str) (k : Nat) (ps : List Str) (sp : Sp) : Prop :=
 ∃ (f : Addr) (fd : FuncData),FnOk P w K mg base CX k f fd ps sp ∧ Binds K fd ps [] ∧ PySem.W.keepIn K (.ref f) = true ∧ mg x = some (.ref f)
def tCallC (sp : Sp) (E : XK) (t : TA) : TE := fun σ H Q => t σ H fun vs H1 => sp vs H1 Q E
theorem jj6 {X : Cx} {CX : CXT} {x : Str} {k kc : Nat} {ps : List Str} {sp : Sp} {E : XK} {e : Expr} {es : List Expr} {t : TA} {p pos : Pos} (c : Cal X.prog X.w X.K X.mg X.base CX x kc ps sp) (hr : Room k X.A) (hk : kc ≤ k) (hx : Passes CX X E) (ha : PA X (e :: es) t) (hg : Gl X x := by rfl)
  (hdb : (x == ("__debug__" : Str)) = false := by decide) (he : starEach (e :: es) X.env = (false,eval e X.env) :: starEach es X.env := by rfl) (hpl : (backTo pos (starEach es X.env)).any (·.1) = false := by rfl) :
  PE X (.Call (.Name x p) (e :: es) [] pos) (tCallC sp E t) := by
 obtain ⟨f,fd,F,b,kp,m⟩ := c
 have z := jk2 (pos := pos) (p := p) F (hr.mono hk) hg m kp b .nil hx ha hdb he hpl
 intro pins s σ H Q I h
 refine z pins s σ H Q I ?_
 unfold tCallC at h
 unfold jlE
 simpa using h
theorem jh5 {X : Cx} : CallR X (.builtin "isinstance") (fun xs H Q => ∃ x c t b,xs = [x,.ty c] ∧ TyOf X.K H x t ∧ PySem.W.kitOne X.K t (.type c) = some b ∧ Q (.bl b) H) := by
 intro pins s σ H xs us Q I r h
 obtain ⟨x,c,t,b,rfl,ty,e,q⟩ := h
 obtain ⟨u,w',rfl,ru,rw'⟩ := jjP r
 obtain rfl : w' = Value.type c := rw'
 exact jjj I ru ty e fun tk => ⟨.bl b,H,I.tok tk,rfl,q⟩
end L2
namespace K3
open PySem L2
theorem cx_K {CX : CXT} {P : Program} {w : World} {K : PySem.W.Frag} {mg : Str → Option Value} {base : Heap} {N : List Str} {qual : Str} {scope : Scope} {f : Addr} {cd : Value} {A : Around} {outer : List Env} {s : Shared} {H : Hp} {E : XK} : (cxOf CX P w K mg base N qual scope f cd A outer s H E).K = K := rfl
theorem jd8 {CX : CXT} {P : Program} {w : World} {K : PySem.W.Frag} {mg : Str → Option Value} {base : Heap} {N : List Str} {qual : Str} {scope : Scope} {f : Addr} {cd : Value} {A : Around} {outer : List Env} {s : Shared} {H : Hp} {E : XK} : (cxOf CX P w K mg base N qual scope f cd A outer s H E).nox.K = K := rfl
theorem jgc {K : PySem.W.Frag} : PySem.W.kitOne K (.type "int") (.type "bool") = some false := by rfl
theorem jha {K : PySem.W.Frag} : PySem.W.kitOne K (.type "int") (.type "str") = some false := by rfl
theorem jhb {K : PySem.W.Frag} : PySem.W.kitOne K (.type "int") (.type "int") = some true := by rfl
theorem jfq {K : PySem.W.Frag} : PySem.W.kitOne K (.type "int") (.type "tuple") = some false := by rfl
theorem jgb {K : PySem.W.Frag} : PySem.W.kitOne K (.type "int") (.type "list") = some false := by rfl
theorem jf8 {K : PySem.W.Frag} : PySem.W.kitOne K (.type "str") (.type "bool") = some false := by rfl
theorem jdP {K : PySem.W.Frag} : PySem.W.kitOne K (.type "str") (.type "str") = some true := by rfl
theorem jg9 {K : PySem.W.Frag} : PySem.W.kitOne K (.type "str") (.type "int") = some false := by rfl
theorem jfn {K : PySem.W.Frag} : PySem.W.kitOne K (.type "str") (.type "tuple") = some false := by rfl
theorem jf7 {K : PySem.W.Frag} : PySem.W.kitOne K (.type "str") (.type "list") = some false := by rfl
theorem jek {K : PySem.W.Frag} : PySem.W.kitOne K (.type "tuple") (.type "bool") = some false := by rfl
theorem jfl {K : PySem.W.Frag} : PySem.W.kitOne K (.type "tuple") (.type "str") = some false := by rfl
theorem jfm {K : PySem.W.Frag} : PySem.W.kitOne K (.type "tuple") (.type "int") = some false := by rfl
theorem zu {K : PySem.W.Frag} : PySem.W.kitOne K (.type "tuple") (.type "tuple") = some true := by rfl
theorem jej {K : PySem.W.Frag} : PySem.W.kitOne K (.type "tuple") (.type "list") = some false := by rfl
theorem jfp {K : PySem.W.Frag} : PySem.W.kitOne K (.type "list") (.type "bool") = some false := by rfl
theorem jf9 {K : PySem.W.Frag} : PySem.W.kitOne K (.type "list") (.type "str") = some false := by rfl
theorem jga {K : PySem.W.Frag} : PySem.W.kitOne K (.type "list") (.type "int") = some false := by rfl
theorem jel {K : PySem.W.Frag} : PySem.W.kitOne K (.type "list") (.type "tuple") = some false := by rfl
theorem jfo {K : PySem.W.Frag} : PySem.W.kitOne K (.type "list") (.type "list") = some true := by rfl
theorem jfs {K : PySem.W.Frag} : PySem.W.kitOne K (.type "bool") (.type "bool") = some true := by rfl
theorem jgd {K : PySem.W.Frag} : PySem.W.kitOne K (.type "bool") (.type "str") = some false := by rfl
theorem jge {K : PySem.W.Frag} : PySem.W.kitOne K (.type "bool") (.type "int") = some true := by rfl
theorem jem {K : PySem.W.Frag} : PySem.W.kitOne K (.type "bool") (.type "tuple") = some false := by rfl
theorem jfr {K : PySem.W.Frag} : PySem.W.kitOne K (.type "bool") (.type "list") = some false := by rfl
theorem jcm {K : PySem.W.Frag} : PySem.W.kitOne K (.type "NoneType") (.type "bool") = some false := by rfl
theorem jc3 {K : PySem.W.Frag} : PySem.W.kitOne K (.type "NoneType") (.type "str") = some false := by rfl
theorem jc4 {K : PySem.W.Frag} : PySem.W.kitOne K (.type "NoneType") (.type "int") = some false := by rfl
theorem jbP {K : PySem.W.Frag} : PySem.W.kitOne K (.type "NoneType") (.type "tuple") = some false := by rfl
theorem jcl {K : PySem.W.Frag} : PySem.W.kitOne K (.type "NoneType") (.type "list") = some false := by rfl
theorem iteN {c A B : Prop} [Decidable c] (h : ¬ c) (b : B) : if c then A else B := by rw [if_neg h];exact b
theorem iteP {c A B : Prop} [Decidable c] (h : c) (a : A) : if c then A else B := by rw [if_pos h];exact a
theorem jbe : bootBuiltins "int" = some (.type "int") := by decide +kernel
theorem gE : bootBuiltins "bool" = some (.type "bool") := by decide +kernel
theorem gf : bootBuiltins "str" = some (.type "str") := by decide +kernel
theorem jjE : bootBuiltins "list" = some (.type "list") := by decide +kernel
theorem zN : bootBuiltins "tuple" = some (.type "tuple") := by decide +kernel
theorem jmm : bootBuiltins "max" = some (.builtin "max") := by decide +kernel
theorem jo : bootBuiltins "isinstance" = some (.builtin "isinstance") := by decide +kernel
theorem jmn : bootBuiltins "any" = some (.builtin "any") := by decide +kernel
end K3
end
section
namespace K3
open PySem L2
inductive Op2 where
 | add | take | times | over | rest | less | same | and | or
 deriving DecidableEq
def Op2.str : Op2 → Str
 | .add => "add" | .take => "take" | .times => "times" | .over => "over" | .rest => "rest" | .less => "less" | .same => "same" | .and => "and" | .or => "or"
inductive Part where
 | num (n : Int)
 | name (i : Int)
 | op (w : Op2) (a b : Part)
 | not (a : Part)
 | get (a : Part)
 | pick (a b c : Part)
mutual
inductive Deed where
 | set (i : Int) (p : Part)
 | put (c p : Part)
 | say (p : Part)
 | stop (p : Part)
 | iff (p : Part) (b o : Body)
 | whl (p : Part) (b : Body)
inductive Body where
 | nil
 | cons (d : Deed) (b : Body)
end
def InR (x : Int) : Prop := 0 ≤ x ∧ x ≤ 10006
def Part.ok (nm : Int) : Part → Prop
 | .num n => InR n
 | .name i => 0 ≤ i ∧ i < nm
 | .op _ a b => a.ok nm ∧ b.ok nm
 | .not a => a.ok nm
 | .get a => a.ok nm
 | .pick a b c => a.ok nm ∧ b.ok nm ∧ c.ok nm
def Part.count : Part → Nat
 | .num _ => 1
 | .name _ => 1
 | .op _ a b => 1 + a.count + b.count
 | .not a => 1 + a.count
 | .get a => 1 + a.count
 | .pick a b c => 1 + a.count + b.count + c.count
mutual
def Deed.ok (nm : Int) : Deed → Prop
 | .set i p => (0 ≤ i ∧ i < nm) ∧ p.ok nm
 | .put c p => c.ok nm ∧ p.ok nm
 | .say p => p.ok nm
 | .stop p => p.ok nm
 | .iff p b o => p.ok nm ∧ b.ok nm ∧ o.ok nm
 | .whl p b => p.ok nm ∧ b.ok nm
def Body.ok (nm : Int) : Body → Prop
 | .nil => True
 | .cons d b => d.ok nm ∧ b.ok nm
end
mutual
def Deed.count : Deed → Nat
 | .set _ p => 1 + p.count
 | .put c p => 1 + c.count + p.count
 | .say p => 1 + p.count
 | .stop p => 1 + p.count
 | .iff p b o => 1 + p.count + b.count + o.count
 | .whl p b => 1 + p.count + b.count
def Body.count : Body → Nat
 | .nil => 0
 | .cons d b => d.count + b.count
end
def TupKeep (H H' : Hp) : Prop := ∀ b xs,H b = some (.tup xs) → H' b = some (.tup xs)
theorem TupKeep.trans {H H1 H2 : Hp} (a : TupKeep H H1) (b : TupKeep H1 H2) : TupKeep H H2 := fun c xs h => b c xs (a c xs h)
theorem TupKeep.same {H H' : Hp} (s : Same H H') : TupKeep H H' := fun b xs h => s b _ h
inductive Fault where
 | over | cell
def Fault.str : Fault → Str
 | .over => "over" | .cell => "cell"
inductive End where
 | worth (n : Int) | fault (f : Fault) | long
abbrev PR := Except Fault Int
def b2n (b : Bool) : Int := if b then 1 else 0
def reck : Op2 → Int → Int → PR
 | .add,x,y => .ok ((x + y) % 10007)
 | .take,x,y => .ok ((x - y) % 10007)
 | .times,x,y => .ok (x * y % 10007)
 | .less,x,y => .ok (b2n (decide (x < y)))
 | .same,x,y => .ok (b2n (decide (x = y)))
 | .over,x,y => if y = 0 then .error .over else .ok (x / y)
 | .rest,x,y => if y = 0 then .error .over else .ok (x % y)
 | .and,x,y => .ok (b2n (decide (x ≠ 0 ∧ y ≠ 0)))
 | .or,x,y => .ok (b2n (decide (x ≠ 0 ∨ y ≠ 0)))
def jdc (ns cs : List Int) : Part → PR
 | .num n => .ok n
 | .name i => .ok (ns.getD i.toNat 0)
 | .not a => match jdc ns cs a with
  | .error e => .error e
  | .ok x => .ok (b2n (decide (x = 0)))
 | .get a => match jdc ns cs a with
  | .error e => .error e
  | .ok x => if x > 15 then .error .cell else .ok (cs.getD x.toNat 0)
 | .pick a b c => match jdc ns cs a with
  | .error e => .error e
  | .ok x => if x ≠ 0 then jdc ns cs b else jdc ns cs c
 | .op .and a b => match jdc ns cs a with
  | .error e => .error e
  | .ok x => if x = 0 then .ok 0 else match jdc ns cs b with
   | .error e => .error e
   | .ok y => .ok (b2n (decide (y ≠ 0)))
 | .op .or a b => match jdc ns cs a with
  | .error e => .error e
  | .ok x => if x ≠ 0 then .ok 1 else match jdc ns cs b with
   | .error e => .error e
   | .ok y => .ok (b2n (decide (y ≠ 0)))
 | .op w a b => match jdc ns cs a with
  | .error e => .error e
  | .ok x => match jdc ns cs b with
   | .error e => .error e
   | .ok y => reck w x y
structure S where
 ns : List Int
 cs : List Int
 sd : List Int
 fu : Nat
def loop (step : S → S × Option End) (p : Part) : Nat → S → S × Option End
 | 0,s => (s,some .long)
 | k + 1,s => match jdc s.ns s.cs p with
  | .error e => (s,some (.fault e))
  | .ok x => if x = 0 then (s,none) else if s.fu = 0 then (s,some .long) else
   match step { s with fu := s.fu - 1 } with
   | (s',some e) => (s',some e)
   | (s',none) => loop step p k s'
end K3
end
section
namespace K3
open PySem L2
structure Good (nm : Int) (s : S) : Prop where
 nl : (s.ns.length : Int) = nm
 nr : ∀ x ∈ s.ns,InR x
 cl : s.cs.length = 16
 cr : ∀ x ∈ s.cs,InR x
theorem jlq {l : List Int} (h : ∀ x ∈ l,InR x) (i : Nat) : InR (l.getD i 0) := by
 rw [List.getD_eq_getElem?_getD]
 cases e : l[i]? with
 | none => exact ⟨by decide,by decide⟩
 | some x => exact h x (List.mem_of_getElem? e)
theorem Good.set {nm : Int} {s : S} (g : Good nm s) {i : Nat} {x : Int} (hx : InR x) : Good nm { s with ns := s.ns.set i x } :=
 ⟨by rw [← g.nl];simp,fun y hy => by
  rcases List.mem_or_eq_of_mem_set hy with h | h
  ·exact g.nr y h
  ·rw [h];exact hx,g.cl,g.cr⟩
structure Af (nm : Int) (c : Nat) (s s' : S) : Prop where
 good : Good nm s → Good nm s'
 fu : s'.fu ≤ s.fu
 sd : s'.sd.length + 400 * s'.fu ≤ s.sd.length + 400 * s.fu + c
theorem Af.trans {nm : Int} {c d e : Nat} {s s1 s2 : S} (a : Af nm c s s1) (b : Af nm d s1 s2) (h : c + d ≤ e) : Af nm e s s2 :=
 ⟨fun g => b.good (a.good g),Nat.le_trans b.fu a.fu,by have := a.sd;have := b.sd;omega⟩
end K3
end
section
namespace L2
open PySem PySem.Spec PyProof.Rows
section
variable {prog : Program} {w : World} {A : Around} {E : Value → Shared → Prop} {s : Shared}
theorem jaN {j l : Addr} {i : Nat} {us : Array Value} {x : Value} {Q : Value → Shared → Prop} (g : s.heap.IsTupleIter j l i) (gt : s.heap.IsTuple l us) (ex : us[i]? = some x)
  (q : ∀ h',h'.IsTupleIter j l (i + 1) → Heap.SameBut j s.heap h' → Q x { s with heap := h' }) : wpAny (model prog w) A (Builtin.SmallTypes.nextOf (.ref j)) Q E s := by
 obtain ⟨ob,eo,ec,ed⟩ := id g
 obtain ⟨ot,et,_,m,ett⟩ := gt
 unfold Builtin.SmallTypes.nextOf
 refine wpAny_bind (wpAny_callSpecial?_slot (name := Str.ofString "__next__") g.typeIs F.slot_tuple_iterator_next (wpAny_call_entry F.slot_tuple_iterator_next g.typeIs F.entry_tuple_iterator_next ?_ (F.args_tuple_iterator_next_1 _)))
 show wpAny _ _ (field (.ref j) 0 >>= _) _ _ s
 refine wpAny_bind (wpAny_field eo ed (x := .ref l) rfl ?_)
 show wpAny _ _ (if (Value.ref l == Value.none) = true then _ else _) _ _ s;rw [if_neg (fun z : (Value.ref l == Value.none) = true => Bool.false_ne_true z)]
 show wpAny _ _ (field (.ref j) 1 >>= _) _ _ s
 refine wpAny_bind (wpAny_field eo ed (x := .int i 0) rfl ?_)
 show wpAny _ _ (seqItems? (.ref l) >>= _) _ _ s;refine wpAny_bind (wpAny_seqItems et ett ?_)
 simp only [Int.toNat_natCast,ex]
 refine wpAny_bind (wpAny_setField eo ed (by simp) (wpAny_pure ⟨x,rfl,wpAny_pure (q _ ?_ (Heap.SameBut.update ..))⟩))
 exact ⟨_,Heap.get?_update_self _ eo (Obj.isFreed_of_fields (Obj.data_mapFields ed _)),(Obj.cls_mapFields ..).trans ec,by rw [Obj.data_mapFields ed];simp [rawInt]⟩
theorem jbH {j l : Addr} {i : Nat} {us : Array Value} {Q : Value → Shared → Prop} (hh : A.handled = none) (g : s.heap.IsTupleIter j l i) (gt : s.heap.IsTuple l us) (ex : us[i]? = none)
  (q : ∀ h' e,Heap.ExtBut j s.heap h' → (∃ o,h'.get? e = some o ∧ o.cls = .type "StopIteration") → E (.ref e) { s with heap := h' }) : wpAny (model prog w) A (Builtin.SmallTypes.nextOf (.ref j)) Q E s := by
 obtain ⟨ob,eo,ec,ed⟩ := id g
 obtain ⟨ot,et,_,m,ett⟩ := gt
 unfold Builtin.SmallTypes.nextOf
 refine wpAny_bind (wpAny_callSpecial?_slot (name := Str.ofString "__next__") g.typeIs F.slot_tuple_iterator_next (wpAny_call_entry F.slot_tuple_iterator_next g.typeIs F.entry_tuple_iterator_next ?_ (F.args_tuple_iterator_next_1 _)))
 show wpAny _ _ (field (.ref j) 0 >>= _) _ _ s
 refine wpAny_bind (wpAny_field eo ed (x := .ref l) rfl ?_)
 show wpAny _ _ (if (Value.ref l == Value.none) = true then _ else _) _ _ s;rw [if_neg (fun z : (Value.ref l == Value.none) = true => Bool.false_ne_true z)]
 show wpAny _ _ (field (.ref j) 1 >>= _) _ _ s
 refine wpAny_bind (wpAny_field eo ed (x := .int i 0) rfl ?_)
 show wpAny _ _ (seqItems? (.ref l) >>= _) _ _ s;refine wpAny_bind (wpAny_seqItems et ett ?_)
 simp only [Int.toNat_natCast,ex]
 refine wpAny_bind (wpAny_rule (wpAny_bind (wpAny_setField eo ed (by simp) ?_)))
 show wpAny _ _ (newExc (.type "StopIteration") [] >>= _) _ _ _;refine wpAny_bind ?_
 simp only [newExc,newTuple];refine wpAny_bind (wpAny_newObj_type ?_ (by size_fits))
 refine wpAny_bind (m := firstArgMember _ _) (wpAny_of_eq (a := Value.none) (by first | rfl | (simp only [firstArgMember];rfl)) ?_);refine wpAny_newObj_type ?_ (by size_fits)
 simp only [raiseNew];refine wpAny_bind (wpAny_handled ?_)
 first | rw [hh] | rw [show A.in1.handled = none from hh]
 refine wpAny_bind (wpAny_pure (wpAny_throw (q _ _ (((Heap.SameBut.update ..).extBut.push _).push _) ⟨_,Heap.get?_push_size _ rfl,rfl⟩)))
theorem jiB {z TI TO i1 i2 l1 l2 : Addr} {k1 k2 : Nat} {us vs : Array Value} {x y a b : Value} {Q : Value → Shared → Prop} (D : ZipApart z TI TO i1 i2 l1 l2) (gz : IsZip s.heap z TI TO .none) (gI : IsPair s.heap TI (.ref i1) (.ref i2)) (gO : IsPair s.heap TO a b)
  (g1 : s.heap.IsTupleIter i1 l1 k1) (g2 : s.heap.IsTupleIter i2 l2 k2) (gl1 : s.heap.IsTuple l1 us) (gl2 : s.heap.IsTuple l2 vs) (ex : us[k1]? = some x) (ey : vs[k2]? = some y)
  (q : ∀ h',IsZip h' z TI TO (rawInt s.heap.objs.size) → IsPair h' TO x y → h'.IsTupleIter i1 l1 (k1 + 1) → h'.IsTupleIter i2 l2 (k2 + 1) → IsPair h' s.heap.objs.size x y → h'.objs.size = s.heap.objs.size + 1 →
   (∀ c o,c ≠ z → c ≠ TO → c ≠ i1 → c ≠ i2 → s.heap.get? c = some o → h'.get? c = some o) → Q (.ref s.heap.objs.size) { s with heap := h' }) :
  wpAny (model prog w) A (Builtin.«zip.__next__» ⟨[.ref z],[]⟩) (fun fin s' => ∃ v,fin = .done (.ret v) ∧ Q v s') E s := by
 show wpAny _ _ (field (.ref z) 2 >>= _) _ _ _;refine wpAny_bind (wpAny_field gz rfl (x := .bool false) rfl ?_)
 show wpAny _ _ (field (.ref z) 3 >>= _) _ _ _;refine wpAny_bind (wpAny_field gz rfl (x := .ref TI) rfl ?_)
 refine wpAny_bind (wpAny_seqItems gI rfl ?_)
 show wpAny _ _ (Builtin.SmallTypes.ownedTupleIsFree (.ref z) >>= _) _ _ _;refine wpAny_bind ?_
 unfold Builtin.SmallTypes.ownedTupleIsFree
 refine wpAny_bind (wpAny_field gz rfl (x := .none) rfl (wpAny_pure ?_))
 simp only [if_true]
 refine wpAny_bind (wpAny_rule ?_)
 refine wpAny_bind (wpAny_field gz rfl (x := .ref TO) rfl ?_)
 refine wpAny_bind (wpAny_setField_rec gz (by simp) fun p1 z1 s1 => ?_)
 have z1 : IsZip p1 z TI TO .ellipsis := z1
 refine wpAny_bind ?_
 simp only [List.zipIdx_cons,List.zipIdx_nil,List.forIn_cons,List.forIn_nil];refine wpAny_bind (wpAny_bind (wpAny_onRaise ?_))
 show wpAny _ _ (Builtin.SmallTypes.nextOf (.ref i1) >>= _) _ _ _
 refine wpAny_bind (jaN (g1.extBut s1.extBut D.i1z) (gl1.extBut s1.extBut D.l1z) ex fun p2 j2 s2 => wpAny_pure ?_)
 have O2 : IsPair p2 TO a b := s2.extBut _ _ D.TOi1 (s1.extBut _ _ D.TOz gO)
 refine wpAny_bind (wpAny_seqItems O2 rfl ?_)
 refine wpAny_bind (wpAny_updateSeq_pair O2 fun p3 O3 s3 => ?_)
 have O3 : IsPair p3 TO x b := O3
 refine wpAny_bind (wpAny_letGo (wpAny_pure ?_));refine wpAny_bind (wpAny_bind (wpAny_onRaise ?_))
 show wpAny _ _ (Builtin.SmallTypes.nextOf (.ref i2) >>= _) _ _ _
 refine wpAny_bind (jaN (((g2.extBut s1.extBut D.i2z).extBut s2.extBut D.i12.symm).extBut s3.extBut D.TOi2.symm) (((gl2.extBut s1.extBut D.l2z).extBut s2.extBut D.l2i1).extBut s3.extBut D.l2TO) ey fun p4 j4 s4 => wpAny_pure ?_)
 have O4 : IsPair p4 TO x b := s4.extBut _ _ D.TOi2 O3
 refine wpAny_bind (wpAny_seqItems O4 rfl ?_)
 refine wpAny_bind (wpAny_updateSeq_pair O4 fun p5 O5 s5 => ?_)
 have O5 : IsPair p5 TO x y := O5
 refine wpAny_bind (wpAny_letGo (wpAny_pure (wpAny_pure ?_)));refine wpAny_bind (wpAny_seqItems O5 rfl ?_)
 refine wpAny_bind (wpAny_newTuple ?_)
 have sz : p5.objs.size = s.heap.objs.size := by rw [s5.1,s4.1,s3.1,s2.1,s1.1]
 have z5 : IsZip p5 z TI TO .ellipsis := s5.extBut _ _ D.TOz.symm (s4.extBut _ _ D.i2z.symm (s3.extBut _ _ D.TOz.symm (s2.extBut _ _ D.i1z.symm z1)))
 have kp : ∀ c o,c ≠ z → c ≠ TO → c ≠ i1 → c ≠ i2 → s.heap.get? c = some o → p5.get? c = some o := fun c o c1 c2 c3 c4 e =>
  s5.extBut _ _ c2 (s4.extBut _ _ c4 (s3.extBut _ _ c2 (s2.extBut _ _ c3 (s1.extBut _ _ c1 e))))
 have n1 : p5.IsTupleIter i1 l1 (k1 + 1) := ((j2.extBut s3.extBut D.TOi1.symm).extBut s4.extBut D.i12).extBut s5.extBut D.TOi1.symm
 have n2 : p5.IsTupleIter i2 l2 (k2 + 1) := j4.extBut s5.extBut D.TOi2.symm
 have lz : z < p5.objs.size := Heap.lt_size z5
 show wpAny _ _ (Builtin.SmallTypes.ownedTupleHandOut (.ref z) (.ref p5.objs.size) >>= _) _ _ _
 refine wpAny_bind ?_
 unfold Builtin.SmallTypes.ownedTupleHandOut
 have z6 : IsZip (p5.push { cls := .type "tuple",data := .seq #[x,y] }) z TI TO .ellipsis := Heap.get?_push_of_some _ z5
 refine wpAny_bind (wpAny_setField_rec z6 (by simp) fun p7 z7 s7 => ?_)
 have z7 : IsZip p7 z TI TO (rawInt p5.objs.size) := z7
 refine wpAny_setField_rec z7 (by simp) fun p8 z8 s8 => ?_
 have z8 : IsZip p8 z TI TO (rawInt p5.objs.size) := z8
 have up : ∀ c o,c ≠ z → p5.get? c = some o → p8.get? c = some o := fun c o c1 e => s8.extBut _ _ c1 (s7.extBut _ _ c1 (Heap.get?_push_of_some _ e))
 have T8 : IsPair p8 p5.objs.size x y := s8.extBut _ _ (Nat.ne_of_gt lz) (s7.extBut _ _ (Nat.ne_of_gt lz) (Heap.get?_push_size _ rfl))
 have zz : p8.objs.size = p5.objs.size + 1 := by rw [s8.1,s7.1,Heap.size_push]
 rw [sz] at z8 T8 zz
 refine wpAny_pure ⟨_,rfl,?_⟩
 show Q (.ref p5.objs.size) _
 rw [sz]
 exact q p8 z8 (up _ _ D.TOz O5) (n1.at fun o e => up _ o D.i1z e) (n2.at fun o e => up _ o D.i2z e) T8 zz fun c o c1 c2 c3 c4 e => up c o c1 (kp c o c1 c2 c3 c4 e)
theorem jjO {z TI TO i1 i2 l1 l2 : Addr} {k1 k2 : Nat} {us vs : Array Value} {a b : Value} {Q : Fin → Shared → Prop} (hh : A.handled = none) (D : ZipApart z TI TO i1 i2 l1 l2) (gz : IsZip s.heap z TI TO .none) (gI : IsPair s.heap TI (.ref i1) (.ref i2)) (gO : IsPair s.heap TO a b)
  (g1 : s.heap.IsTupleIter i1 l1 k1) (g2 : s.heap.IsTupleIter i2 l2 k2) (gl1 : s.heap.IsTuple l1 us) (gl2 : s.heap.IsTuple l2 vs) (fin : us[k1]? = none ∨ vs[k2]? = none)
  (q : ∀ h' e,(∀ c o,c ≠ z → c ≠ TO → c ≠ i1 → c ≠ i2 → s.heap.get? c = some o → h'.get? c = some o) → (∃ o,h'.get? e = some o ∧ o.cls = .type "StopIteration") → E (.ref e) { s with heap := h' }) :
  wpAny (model prog w) A (Builtin.«zip.__next__» ⟨[.ref z],[]⟩) Q E s := by
 show wpAny _ _ (field (.ref z) 2 >>= _) _ _ _;refine wpAny_bind (wpAny_field gz rfl (x := .bool false) rfl ?_)
 show wpAny _ _ (field (.ref z) 3 >>= _) _ _ _;refine wpAny_bind (wpAny_field gz rfl (x := .ref TI) rfl ?_)
 refine wpAny_bind (wpAny_seqItems gI rfl ?_)
 show wpAny _ _ (Builtin.SmallTypes.ownedTupleIsFree (.ref z) >>= _) _ _ _;refine wpAny_bind ?_
 unfold Builtin.SmallTypes.ownedTupleIsFree
 refine wpAny_bind (wpAny_field gz rfl (x := .none) rfl (wpAny_pure ?_))
 simp only [if_true]
 refine wpAny_bind (wpAny_rule ?_)
 refine wpAny_bind (wpAny_field gz rfl (x := .ref TO) rfl ?_)
 refine wpAny_bind (wpAny_setField_rec gz (by simp) fun p1 z1 s1 => ?_)
 have z1 : IsZip p1 z TI TO .ellipsis := z1
 refine wpAny_bind ?_
 simp only [List.zipIdx_cons,List.zipIdx_nil,List.forIn_cons,List.forIn_nil];refine wpAny_bind (wpAny_bind (wpAny_onRaise ?_))
 show wpAny _ _ (Builtin.SmallTypes.nextOf (.ref i1) >>= _) _ _ _
 cases ex : us[k1]? with
 | none =>
  refine wpAny_bind (jbH hh (g1.extBut s1.extBut D.i1z) (gl1.extBut s1.extBut D.l1z) ex fun p2 e s2 he => ?_)
  obtain ⟨oe,ho,hc⟩ := he
  have z2 : IsZip p2 z TI TO .ellipsis := s2 _ _ D.i1z.symm z1
  have nz : e ≠ z := fun x => by subst x;rw [z2] at ho;cases ho;simp at hc
  refine wpAny_setField_rec z2 (by simp) fun p3 _ s3 => q p3 e (fun c o c1 _ c3 _ x => s3.extBut _ _ c1 (s2 _ _ c3 (s1.extBut _ _ c1 x))) ⟨oe,s3.extBut _ _ nz ho,hc⟩
 | some x =>
  have ey : vs[k2]? = none := fin.resolve_left (by rw [ex];exact fun z => by cases z)
  refine wpAny_bind (jaN (g1.extBut s1.extBut D.i1z) (gl1.extBut s1.extBut D.l1z) ex fun p2 j2 s2 => wpAny_pure ?_)
  have O2 : IsPair p2 TO a b := s2.extBut _ _ D.TOi1 (s1.extBut _ _ D.TOz gO)
  refine wpAny_bind (wpAny_seqItems O2 rfl ?_)
  refine wpAny_bind (wpAny_updateSeq_pair O2 fun p3 O3 s3 => ?_)
  refine wpAny_bind (wpAny_letGo (wpAny_pure ?_));refine wpAny_bind (wpAny_bind (wpAny_onRaise ?_))
  show wpAny _ _ (Builtin.SmallTypes.nextOf (.ref i2) >>= _) _ _ _
  refine wpAny_bind (jbH hh (((g2.extBut s1.extBut D.i2z).extBut s2.extBut D.i12.symm).extBut s3.extBut D.TOi2.symm) (((gl2.extBut s1.extBut D.l2z).extBut s2.extBut D.l2i1).extBut s3.extBut D.l2TO) ey fun p4 e s4 he => ?_)
  obtain ⟨oe,ho,hc⟩ := he
  have z4 : IsZip p4 z TI TO .ellipsis := s4 _ _ D.i2z.symm (s3.extBut _ _ D.TOz.symm (s2.extBut _ _ D.i1z.symm z1))
  have nz : e ≠ z := fun x => by subst x;rw [z4] at ho;cases ho;simp at hc
  refine wpAny_setField_rec z4 (by simp) fun p5 _ s5 => q p5 e (fun c o c1 c2 c3 c4 x => s5.extBut _ _ c1 (s4 _ _ c4 (s3.extBut _ _ c2 (s2.extBut _ _ c3 (s1.extBut _ _ c1 x))))) ⟨oe,s5.extBut _ _ nz ho,hc⟩
theorem jfW {z TI TO i1 i2 l1 l2 : Addr} {k1 k2 : Nat} {us vs : Array Value} {x y a b : Value} {Q : Option Value → Shared → Prop} (D : ZipApart z TI TO i1 i2 l1 l2) (gz : IsZip s.heap z TI TO .none) (gI : IsPair s.heap TI (.ref i1) (.ref i2)) (gO : IsPair s.heap TO a b)
  (g1 : s.heap.IsTupleIter i1 l1 k1) (g2 : s.heap.IsTupleIter i2 l2 k2) (gl1 : s.heap.IsTuple l1 us) (gl2 : s.heap.IsTuple l2 vs) (ex : us[k1]? = some x) (ey : vs[k2]? = some y)
  (q : ∀ h',IsZip h' z TI TO (rawInt s.heap.objs.size) → IsPair h' TO x y → h'.IsTupleIter i1 l1 (k1 + 1) → h'.IsTupleIter i2 l2 (k2 + 1) → IsPair h' s.heap.objs.size x y → h'.objs.size = s.heap.objs.size + 1 →
   (∀ c o,c ≠ z → c ≠ TO → c ≠ i1 → c ≠ i2 → s.heap.get? c = some o → h'.get? c = some o) → Q (some (.ref s.heap.objs.size)) { s with heap := h' }) : wpAny (model prog w) A (pyNext (.ref z)) Q E s := by
 have ty : s.TypeIs (.ref z) "zip" := ⟨_,gz,rfl⟩
 unfold pyNext
 exact wpAny_bind (wpAny_attempt (wpAny_callSpecial?_slot (name := Str.ofString "__next__") ty F.slot_zip_next (wpAny_call_entry F.slot_zip_next ty F.entry_zip_next (jiB D gz gI gO g1 g2 gl1 gl2 ex ey fun h' a1 a2 a3 a4 a5 a6 a7 => wpAny_pure (q h' a1 a2 a3 a4 a5 a6 a7)) (F.args_zip_next_1 _))))
theorem jgW {z TI TO i1 i2 l1 l2 : Addr} {k1 k2 : Nat} {us vs : Array Value} {a b : Value} {Q : Option Value → Shared → Prop} (hh : A.handled = none) (D : ZipApart z TI TO i1 i2 l1 l2) (gz : IsZip s.heap z TI TO .none) (gI : IsPair s.heap TI (.ref i1) (.ref i2)) (gO : IsPair s.heap TO a b)
  (g1 : s.heap.IsTupleIter i1 l1 k1) (g2 : s.heap.IsTupleIter i2 l2 k2) (gl1 : s.heap.IsTuple l1 us) (gl2 : s.heap.IsTuple l2 vs) (fin : us[k1]? = none ∨ vs[k2]? = none)
  (q : ∀ h',(∀ c o,c ≠ z → c ≠ TO → c ≠ i1 → c ≠ i2 → s.heap.get? c = some o → h'.get? c = some o) → Q none { s with heap := h' }) : wpAny (model prog w) A (pyNext (.ref z)) Q E s := by
 have ty : s.TypeIs (.ref z) "zip" := ⟨_,gz,rfl⟩
 unfold pyNext
 refine wpAny_bind (wpAny_attempt (wpAny_callSpecial?_slot (name := Str.ofString "__next__") ty F.slot_zip_next (wpAny_call_entry F.slot_zip_next ty F.entry_zip_next (jjO hh D gz gI gO g1 g2 gl1 gl2 fin fun h' e hk he => ?_) (F.args_zip_next_1 _))))
 obtain ⟨o,eo,ec⟩ := he
 exact wpAny_bind (wpAny_isInstance (T := "StopIteration") (b := true) ⟨o,eo,ec⟩ isSubtype_stop (wpAny_pure (q _ hk)))
abbrev zT1 (h : Heap) (l1 : Addr) : Heap := h.push { cls := .type "tuple_iterator",data := .fields #[.ref l1,.int 0 0] }
abbrev zT2 (h : Heap) (l1 l2 : Addr) : Heap := (zT1 h l1).push { cls := .type "tuple_iterator",data := .fields #[.ref l2,.int 0 0] }
abbrev zT3 (h : Heap) (l1 l2 : Addr) : Heap := (zT2 h l1 l2).push { cls := .type "tuple",data := .seq #[.ref h.objs.size,.ref (zT1 h l1).objs.size] }
abbrev zT4 (h : Heap) (l1 l2 : Addr) : Heap := (zT3 h l1 l2).push { cls := .type "tuple",data := .seq #[.none,.none] }
abbrev zT5 (h : Heap) (l1 l2 : Addr) : Heap := (zT4 h l1 l2).push { cls := .type "zip",data := .fields #[.none,.bool false,.bool false,.ref (zT2 h l1 l2).objs.size,.ref (zT3 h l1 l2).objs.size] }
theorem jkd (l1 l2 : Addr) (us vs : Array Value) : Meets (Builtin.«zip.__new__» ⟨[.type "zip",.ref l1,.ref l2],[]⟩) (fun _ R s => s.heap.IsTuple l1 us ∧ s.heap.IsTuple l2 vs ∧ R (.ok (.ret (.ref (zT4 s.heap l1 l2).objs.size))) { s with heap := zT5 s.heap l1 l2 }) :=
 .of_wp fun prog w A R s h => by
  obtain ⟨hp,g,d,tk,os⟩ := s
  obtain ⟨e1,e2,h⟩ := h
  have hsub := sub_zip
  have L1 : Heap.IsTuple (Shared.heap ⟨hp,g,d,tk,os⟩) l1 us := e1
  have L2 : Heap.IsTuple (Shared.heap ⟨hp.push { cls := .type "tuple_iterator",data := .fields #[.ref l1,.int 0 0] },g,d,tk,os⟩) l2 vs := Heap.IsTuple.push e2 _
  wp_walk using wpAny_pyIter_tuple L1,wpAny_pyIter_tuple L2
  exact ⟨_,rfl,h⟩
theorem jlu {l1 l2 : Addr} {us vs : Array Value} {Q : Value → Shared → Prop} (e1 : s.heap.IsTuple l1 us) (e2 : s.heap.IsTuple l2 vs)
  (h : ∀ h',IsZip h' (s.heap.objs.size + 4) (s.heap.objs.size + 2) (s.heap.objs.size + 3) .none → IsPair h' (s.heap.objs.size + 2) (.ref s.heap.objs.size) (.ref (s.heap.objs.size + 1)) → IsPair h' (s.heap.objs.size + 3) .none .none →
   h'.IsTupleIter s.heap.objs.size l1 0 → h'.IsTupleIter (s.heap.objs.size + 1) l2 0 → (∀ c o,s.heap.get? c = some o → h'.get? c = some o) → Q (.ref (s.heap.objs.size + 4)) { s with heap := h' }) : wpAny (model prog w) A (call (.type "zip") [.ref l1,.ref l2]) Q E s := by
 refine callType_new F.called_zip (by decide) (F.typeCall_zip_2 _ _) (F.newCall_zip_2 _ _) (fun obj => F.args_object_init_3 obj _ _) F.entry_zip_new (jkd l1 l2 us vs) ⟨e1,e2,?_⟩
 have z1 : (zT1 s.heap l1).objs.size = s.heap.objs.size + 1 := Heap.size_push ..
 have z2 : (zT2 s.heap l1 l2).objs.size = s.heap.objs.size + 2 := by rw [Heap.size_push,z1]
 have z3 : (zT3 s.heap l1 l2).objs.size = s.heap.objs.size + 3 := by rw [Heap.size_push,z2]
 have z4 : (zT4 s.heap l1 l2).objs.size = s.heap.objs.size + 4 := by rw [Heap.size_push,z3]
 have up : ∀ (h : Heap) (o : Obj) {c : Addr} {u : Obj},h.get? c = some u → (h.push o).get? c = some u := fun h o c u e => Heap.get?_push_of_some _ e
 have g5 : (zT5 s.heap l1 l2).get? (zT4 s.heap l1 l2).objs.size = some _ := Heap.get?_push_size _ rfl
 have g4 : (zT5 s.heap l1 l2).get? (zT3 s.heap l1 l2).objs.size = some _ := up _ _ (Heap.get?_push_size _ rfl)
 have g3 : (zT5 s.heap l1 l2).get? (zT2 s.heap l1 l2).objs.size = some _ := up _ _ (up _ _ (Heap.get?_push_size _ rfl))
 have g2 : (zT5 s.heap l1 l2).get? (zT1 s.heap l1).objs.size = some _ := up _ _ (up _ _ (up _ _ (Heap.get?_push_size _ rfl)))
 have g1 : (zT5 s.heap l1 l2).get? s.heap.objs.size = some _ := up _ _ (up _ _ (up _ _ (up _ _ (Heap.get?_push_size _ rfl))))
 show _ ∧ _
 rw [z2,z3,z4] at g5
 rw [z1,z2] at g3
 rw [z3] at g4
 rw [z1] at g2
 rw [z4]
 exact ⟨⟨_,g5,rfl⟩,h _ g5 g3 g4 ⟨_,g1,rfl,rfl⟩ ⟨_,g2,rfl,rfl⟩ fun c o x => up _ _ (up _ _ (up _ _ (up _ _ (up _ _ x))))⟩
end
end L2
end
section
namespace L2
open PySem PySem.Spec PyProof.Rows
theorem jhT {h : Heap} {a : Addr} {us : Array Value} (p : h.IsTuple a us) : a < h.objs.size := let ⟨_,e,_⟩ := p;Heap.lt_size e
def ItzT (K : PySem.W.Frag) (a b : Addr) : It :=
 ⟨fun i H => ∃ (xs ys : List V) (x y : V),SqT K H a xs ∧ SqT K H b ys ∧ xs[i]? = some x ∧ ys[i]? = some y,
  fun i H v H' => ∃ T x y,v = .ref T ∧ H T = none ∧ H' = upd H T (.tup [x,y]) ∧ (∀ xs,SqT K H a xs → xs[i]? = some x) ∧ ∀ ys,SqT K H b ys → ys[i]? = some y,
  fun i H => ∃ xs ys : List V,SqT K H a xs ∧ SqT K H b ys ∧ (xs.length ≤ i ∨ ys.length ≤ i)⟩
theorem jiE {P : Program} {w : World} {K : PySem.W.Frag} {elts : List Expr} {kk : Nat} {tpos : Pos} {a b z TI TO i1 i2 : Addr} (D : ZipApart z TI TO i1 i2 a b) :
  Turn P w K (.Tuple elts kk tpos) (ItzT K a b) [z,TI,TO,i1,i2] z (fun i h => IsZip h z TI TO .none ∧ IsPair h TI (.ref i1) (.ref i2) ∧ (∃ x y,IsPair h TO x y) ∧ h.IsTupleIter i1 a i ∧ h.IsTupleIter i2 b i) where
 mem := by simp
 obj := fun i h st c hc => by
  obtain ⟨hz,hTI,⟨x,y,hTO⟩,⟨o1,e1,_,d1⟩,⟨o2,e2,_,d2⟩⟩ := st
  have e' : c = z ∨ c = TI ∨ c = TO ∨ c = i1 ∨ c = i2 := by simpa using hc
  rcases e' with q | q | q | q | q
  ·rw [q];exact ⟨_,hz,fun v q => nomatch q⟩
  ·rw [q];exact ⟨_,hTI,fun v q => nomatch q⟩
  ·rw [q];exact ⟨_,hTO,fun v q => nomatch q⟩
  ·rw [q];exact ⟨o1,e1,fun v q => by rw [d1] at q;cases q⟩
  ·rw [q];exact ⟨o2,e2,fun v q => by rw [d2] at q;cases q⟩
 keep := fun i h h' st k => by
  obtain ⟨hz,hTI,⟨x,y,hTO⟩,h1,h2⟩ := st
  exact ⟨k z (by simp) _ hz,k TI (by simp) _ hTI,⟨x,y,k TO (by simp) _ hTO⟩,h1.at fun o q => k i1 (by simp) o q,h2.at fun o q => k i2 (by simp) o q⟩
 item := by
  intro X hP hw hK hc i pins s σ H E I hf st hg
  subst hP hw hK
  obtain ⟨hz,hTI,⟨x0,y0,hTO⟩,h1,h2⟩ := st
  obtain ⟨xs,ys,x,y,hqx,hqy,hx,hy⟩ := hg
  obtain ⟨its,rv,p,_⟩ := I.tuple hqx
  obtain ⟨its2,rv2,p2,_⟩ := I.tuple hqy
  obtain ⟨u,hu,ru⟩ := rv.get hx
  obtain ⟨u2,hu2,ru2⟩ := rv2.get hy
  have hzl : z < s.heap.objs.size := Heap.lt_size hz
  refine jfW D hz hTI hTO h1 h2 p p2 (x := u) (y := u2) (by simpa using hu) (by simpa using hu2) fun h' z' TO' h1' h2' hT hsz hk => ?_
  refine ⟨_,rfl,wpAny_letOwnedTupleGo_zip (s := { s with heap := h' }) z' fun h'' z'' sb => ?_⟩
  have hT2 : h''.get? s.heap.objs.size = some { cls := .type "tuple",data := .seq #[u,u2] } := (sb.2 _ (Nat.ne_of_gt hzl)).trans hT
  have new : ObjOk X.prog X.w (upd H s.heap.objs.size (.tup [x,y])) h'' s.heap.objs.size (.tup [x,y]) :=
   ⟨by show 2 ≤ sizeLine;decide,[u,u2],.cons ru (.cons ru2 .nil),⟨_,hT2,rfl,_,rfl⟩⟩
  have I1 : Inv X pins σ (upd H s.heap.objs.size (.tup [x,y])) { s with heap := h'' } :=
   I.turnedNew (t' := s.toks) (ch := [z,TI,TO,i1,i2]) (fun c o hb q => (sb.2 c (fun q' => hb (by simp [q']))).trans (hk c o (fun q' => hb (by simp [q'])) (fun q' => hb (by simp [q'])) (fun q' => hb (by simp [q'])) (fun q' => hb (by simp [q'])) q)) hf (Nat.le_refl _) new
  refine ⟨.ref s.heap.objs.size,_,I1,rfl,⟨_,x,y,rfl,I.hok.fresh (Nat.le_refl _),rfl,fun l hl => by rw [I.tuple_inj hl hqx];exact hx,fun l hl => by rw [I.tuple_inj hl hqy];exact hy⟩,⟨z'',?_,⟨u,u2,?_⟩,?_,?_⟩,fun c hcm => ?_⟩
  ·exact (sb.2 _ D.TIz).trans (hk _ _ D.TIz D.TITO D.TIi1 D.TIi2 hTI)
  ·exact (sb.2 _ D.TOz).trans TO'
  ·exact h1'.at fun o q => (sb.2 _ D.i1z).trans q
  ·exact h2'.at fun o q => (sb.2 _ D.i2z).trans q
  ·have hlt : c < s.heap.objs.size := by
    have e' : c = z ∨ c = TI ∨ c = TO ∨ c = i1 ∨ c = i2 := by simpa using hcm
    rcases e' with q | q | q | q | q
    ·rw [q];exact hzl
    ·rw [q];exact Heap.lt_size hTI
    ·rw [q];exact Heap.lt_size hTO
    ·rw [q];obtain ⟨_,e1,_⟩ := h1;exact Heap.lt_size e1
    ·rw [q];obtain ⟨_,e2,_⟩ := h2;exact Heap.lt_size e2
   rw [jB (Nat.ne_of_lt hlt)]
   exact (hf c hcm).1
 done := by
  intro X hP hw hK hc i pins s σ H E I hf st hg
  subst hP hw hK
  obtain ⟨hz,hTI,⟨x0,y0,hTO⟩,h1,h2⟩ := st
  obtain ⟨xs,ys,hqx,hqy,hend⟩ := hg
  obtain ⟨its,rv,p,_⟩ := I.tuple hqx
  obtain ⟨its2,rv2,p2,_⟩ := I.tuple hqy
  have l1 := rv.length
  have l2 := rv2.length
  have he : its.toArray[i]? = none ∨ its2.toArray[i]? = none := by
   rcases hend with q | q
   ·exact .inl (by simp;omega)
   ·exact .inr (by simp;omega)
  exact jgW (I.ok.hd hc) D hz hTI hTO h1 h2 p p2 he fun h' hk => ⟨rfl,I.turnedL (t' := s.toks) (ch := [z,TI,TO,i1,i2]) (fun c o hb q =>
   hk c o (fun q' => hb (by simp [q'])) (fun q' => hb (by simp [q'])) (fun q' => hb (by simp [q'])) (fun q' => hb (by simp [q'])) q) hf⟩
 self := fun A i s Q E st h => wpAny_pyIter_zip st.1 h
def iZipT (K : PySem.W.Frag) (ta : TA) : TI := fun σ H R => ta σ H fun vs H1 => ∃ a b xs ys,vs = [.ref a,.ref b] ∧ SqT K H1 a xs ∧ SqT K H1 b ys ∧ R (ItzT K a b) H1
theorem jk0 {X : Cx} {e e2 : Expr} {ta : TA} {p pos tpos : Pos} {elts : List Expr} {kk : Nat} (hg : Gl X "zip") (hm : X.mg "zip" = none) (ha : PA X [e,e2] ta)
  (hs : starEach [e,e2] X.env = (false,eval e X.env) :: starEach [e2] X.env := by rfl) (hpl : (backTo pos (starEach [e2] X.env)).any (·.1) = false := by rfl) :
  PI X (.Tuple elts kk tpos) (.Call (.Name "zip" p) [e,e2] [] pos) (iZipT X.K ta) := by
 intro pins s σ H R I h
 refine Call_ (jcM I hg hm jgF (PyProof.Rows.callWith_type1 (thn (ha pos pins s σ H _ I h) fun us s1 ⟨vs,H1,I1,r1,q1⟩ => ?_) hs hpl))
 obtain ⟨a,b,xs,ys,ex,hqx,hqy,q⟩ := q1
 subst ex
 cases r1 with
 | cons r rr =>
  cases rr with
  | cons r' rr =>
   cases rr
   cases r
   cases r'
   obtain ⟨its,rv,p1,_⟩ := I1.tuple hqx
   obtain ⟨its2,rv2,p2,_⟩ := I1.tuple hqy
   have la : a < s1.heap.objs.size := jhT p1
   have lb : b < s1.heap.objs.size := jhT p2
   refine jlu p1 p2 fun h' hz hTI hTO h1 h2 hk => wpAny_pyIter_zip hz ?_
   have I2 : Inv X pins σ H1 { s1 with heap := h' } := I1.kept (t' := s1.toks) hk
   refine ⟨s1.heap.objs.size + 4,[s1.heap.objs.size + 4,s1.heap.objs.size + 2,s1.heap.objs.size + 3,s1.heap.objs.size,s1.heap.objs.size + 1],_,_,H1,rfl,I2,jiE (PySem.W.ktu_apart s1.heap.objs.size a b la lb),⟨hz,hTI,⟨_,_,hTO⟩,h1,h2⟩,fun c hcm => ?_,q⟩
   have e' : c = s1.heap.objs.size + 4 ∨ c = s1.heap.objs.size + 2 ∨ c = s1.heap.objs.size + 3 ∨ c = s1.heap.objs.size ∨ c = s1.heap.objs.size + 1 := by simpa using hcm
   have hle : s1.heap.objs.size ≤ c := by
    rcases e' with z | z | z | z | z
    ·rw [z];exact Nat.le_add_right _ _
    ·rw [z];exact Nat.le_add_right _ _
    ·rw [z];exact Nat.le_add_right _ _
    ·rw [z];exact Nat.le_refl _
    ·rw [z];exact Nat.le_add_right _ _
   exact I1.fpOk hle (I1.hok.fresh hle)
theorem jkk {K : PySem.W.Frag} {a b : Addr} {xs ys : List V} {g : TG} {tb : TS} {D : Ends} {σ : St} {H : Hp} (Pv : Nat → St → Hp → Prop) (h0 : Pv 0 σ H) (e : xs.length = ys.length) (hl : ∀ i σ H,i ≤ xs.length → Pv i σ H → SqT K H a xs ∧ SqT K H b ys)
  (hs : ∀ i x y σ H T,xs[i]? = some x → ys[i]? = some y → Pv i σ H → H T = none → g (.ref T) σ (upd H T (.tup [x,y])) fun σ2 H2 => tb { D with nx := Pv (i + 1),ct := Pv (i + 1),bk := D.nx } σ2 H2) (hd : ∀ σ H,Pv xs.length σ H → D.nx σ H) :
  ∃ W : Nat → Nat → St → Hp → Prop,(∃ m,W 0 m σ H) ∧ ∀ i m σ H,W i m σ H →
   ((ItzT K a b).stop i H ∧ D.nx σ H) ∨ ((ItzT K a b).go i H ∧ ∃ N : St → Hp → Prop,(∀ σ' H',N σ' H' → ∃ m',m' < m ∧ W (i + 1) m' σ' H') ∧ ∀ x H',(ItzT K a b).yld i H x H' → g x σ H' fun σ2 H2 => tb { D with nx := N,ct := N,bk := D.nx } σ2 H2) := by
 refine ⟨fun i m σ H => m = xs.length - i ∧ i ≤ xs.length ∧ Pv i σ H,⟨xs.length,by simp,Nat.zero_le _,h0⟩,?_⟩
 rintro i m σ H ⟨rfl,hi,p⟩
 obtain ⟨q1,q2⟩ := hl i σ H hi p
 by_cases hlt : i < xs.length
 ·refine .inr ⟨⟨xs,ys,xs[i],ys[i],q1,q2,List.getElem?_eq_getElem hlt,List.getElem?_eq_getElem (by omega)⟩,Pv (i + 1),fun σ' H' n => ⟨xs.length - (i + 1),by omega,rfl,hlt,n⟩,?_⟩
  rintro v H' ⟨T,x,y,rfl,hT,rfl,e1,e2⟩
  exact hs i x y σ H T (e1 _ q1) (e2 _ q2) p hT
 ·obtain rfl : i = xs.length := by omega
  exact .inl ⟨⟨xs,ys,q1,q2,.inl (Nat.le_refl _)⟩,hd σ H p⟩
end L2
end
section
namespace L2
open PySem PySem.Spec PyProof.Rows
def KD (P : Program) (w : World) (K : PySem.W.Frag) (a : Addr) (kvs : List (Key × Value)) : Prop := (a == sysModules) = false ∧ ∀ h,K.In h → h.DictOf (zV P w) a kvs
def tKGet (P : Program) (w : World) (K : PySem.W.Frag) (td ty : TE) : TE := fun σ H Q => td σ H fun x H1 => ∃ a kvs,x = .ref a ∧ KD P w K a kvs ∧ ty σ H1 fun y H2 => ∃ k v,y = kV k ∧ RelV v ((valueAt kvs k).getD .none) ∧ Q v H2
section
variable {X : Cx} {o e f : Expr} {apos cpos : Pos} {td ty tx : TE}
theorem pe_kget (ho : PE X o td) (he : PE X e ty) (m : M1 X o "get" apos e cpos) : PE X (.Call (.Attribute o "get" apos) [e] [] cpos) (tKGet X.prog X.w X.K td ty) := by
 intro pins s σ H Q I h
 refine wpAny_Call_method m.base m.few m.line PySem.F.plainAttrs_dict PySem.F.slot_dict_get PySem.F.type_dict_get (thn (ho pins s σ H _ I h) fun u s1 ⟨x,H1,I1,rx,a,kvs,ex,d,q1⟩ => ?_)
 subst ex
 obtain rfl : u = Value.ref a := rx
 have dd := d.2 _ I1.kIn
 refine ⟨dd.typeIs,fun b q => ?_,?_⟩
 ·cases q
  obtain ⟨ob,_,_,h1,h2,_⟩ := dd
  exact ⟨ob,h1,h2.2.1⟩
 rw [m.trees]
 refine Calls.callWith_builtin rfl (Calls.evalArgs_plain (Calls.spliced_cons (thn (he pins s1 σ H1 _ I1 q1) fun iv s2 ⟨y,H2,I2,ry,k,v,ey,rv,q2⟩ => Calls.spliced_nil ?_)))
 subst ey
 have d2 := d.2 _ I2.kIn
 exact call_meetsIn PySem.F.slot_dict_get d2.typeIs PySem.F.entry_dict_get (PySem.F.args_dict_get_2 _ _) (meets_dict_get (zV X.prog X.w) a (jen ry) d.1) ⟨_,d2.mapOf,v,H2,I2.tok _,rv,q2⟩
end
end L2
end
section
namespace L2
open PySem PySem.Spec PyProof.Rows
section
open PySem.AutoSeq1 (wpAny_loadPart')
theorem jg6 (l : Addr) (us : Array Value) (n : Nat) (dd : Option Addr) (sl : Array (Option Value)) :
  Meets (Builtin.«enumerate.__new__» ⟨[.type "enumerate",.ref l],[]⟩) (fun _ R s => s.heap.get? l = some { cls := .type "tuple",dict := dd,data := .seq us n,slots := sl } ∧
   R (.ok (.ret (.ref (s.heap.push { cls := .type "tuple_iterator",data := .fields #[.ref l,.int 0 0] }).objs.size)))
    { s with heap := (s.heap.push { cls := .type "tuple_iterator",data := .fields #[.ref l,.int 0 0] }).push { cls := .type "enumerate",data := .fields #[.none,.bool false,.ref s.heap.objs.size,rawInt 0,.none,.none] } }) :=
 .of_wp fun prog w A R s h => by
  obtain ⟨hp,g,d,tk,os⟩ := s
  obtain ⟨hl,h⟩ := h
  have hL : (⟨hp,g,d,tk,os⟩ : Shared).heap.IsTuple l us := ⟨_,hl,rfl,n,rfl⟩
  have hsub := sub_enumerate
  wp_walk using wpAny_loadPart' hl,wpAny_pyIter_tuple hL
  refine wpAny_stack_any fun st => wpAny_pure ?_
  split
  ·rename_i c _ _ _ _ _
   cases (c == Value.type "enumerate")
   ·wp_walk using wpAny_loadPart' hl,wpAny_pyIter_tuple hL
    exact ⟨_,rfl,h⟩
   ·wp_walk using wpAny_loadPart' hl,wpAny_pyIter_tuple hL
    exact ⟨_,rfl,h⟩
  ·wp_walk using wpAny_loadPart' hl,wpAny_pyIter_tuple hL
   exact ⟨_,rfl,h⟩
end
section
variable {prog : Program} {w : World} {A : Around} {E : Value → Shared → Prop} {s : Shared}
theorem jir {l : Addr} {us : Array Value} {Q : Value → Shared → Prop} (ht : s.heap.IsTuple l us)
  (q : ∀ h',IsEnum h' (s.heap.objs.size + 1) s.heap.objs.size 0 .none → h'.IsTupleIter s.heap.objs.size l 0 → (∀ b o,s.heap.get? b = some o → h'.get? b = some o) → Q (.ref (s.heap.objs.size + 1)) { s with heap := h' }) :
  wpAny (model prog w) A (call (.type "enumerate") [.ref l]) Q E s := by
 obtain ⟨⟨c,dd,dt,sl⟩,hl,hc,n,hd⟩ := ht
 simp only at hc hd
 subst hc hd
 refine callType_new F.called_enumerate (by decide) (F.typeCall_enumerate_1 _) (F.newCall_enumerate_1 _) (fun ob => F.args_object_init_2 ob _) F.entry_enumerate_new (jg6 l us n dd sl) ⟨hl,?_⟩
 have z1 : (s.heap.push { cls := .type "tuple_iterator",data := .fields #[.ref l,.int 0 0] }).objs.size = s.heap.objs.size + 1 := Heap.size_push ..
 show _ ∧ _
 rw [z1]
 have g := Heap.get?_push_size (s.heap.push { cls := .type "tuple_iterator",data := .fields #[.ref l,.int 0 0] }) (o := { cls := .type "enumerate",data := .fields #[.none,.bool false,.ref s.heap.objs.size,rawInt 0,.none,.none] }) rfl
 rw [z1] at g
 exact ⟨⟨_,g,rfl⟩,q _ g ⟨_,Heap.get?_push_of_some _ (Heap.get?_push_size _ rfl),rfl,rfl⟩ fun b o x => Heap.get?_push_of_some _ (Heap.get?_push_of_some _ x)⟩
theorem jmi {j l : Addr} {us : Array Value} (hh : A.handled = none) (ne : j ≠ l) : Draws prog w A j [j,l] us.size (fun i x => us[i]? = some x) (fun i h => h.IsTupleIter j l i ∧ h.IsTuple l us) where
 live := fun i h st => let ⟨⟨o,e,_⟩,_⟩ := st;⟨o,e⟩
 frame := fun i h h' st k => let ⟨⟨o,e,r⟩,⟨o2,e2,r2⟩⟩ := st;⟨⟨o,k j (by simp) o e,r⟩,⟨o2,k l (by simp) o2 e2,r2⟩⟩
 item := fun i s Q E hi st q => by
  obtain ⟨h1,h2⟩ := st
  refine jaN h1 h2 (x := us[i]) (by simp [hi]) fun h' h1' sb => ?_
  obtain ⟨o2,e2,r2⟩ := h2
  exact q us[i] h' s.toks (by simp [hi]) ⟨h1',⟨o2,(sb.2 l (Ne.symm ne)).trans e2,r2⟩⟩ sb
 done := fun s Q E st q => jbH hh st.1 st.2 (by simp) q
end
def IteT (K : PySem.W.Frag) (a : Addr) : It :=
 ⟨fun i H => ∃ (xs : List V) (x : V),SqT K H a xs ∧ xs[i]? = some x,fun i H v H' => ∃ T x,v = .ref T ∧ H T = none ∧ H' = upd H T (.tup [.int (i : Nat),x]) ∧ ∀ xs,SqT K H a xs → xs[i]? = some x,fun i H => ∃ xs : List V,SqT K H a xs ∧ xs.length ≤ i⟩
theorem jia {P : Program} {w : World} {K : PySem.W.Frag} {elts : List Expr} {kk : Nat} {tpos : Pos} (a e it : Addr) :
  Turn P w K (.Tuple elts kk tpos) (IteT K a) [e,it] e (fun i h => (∃ old,IsEnum h e it ((i : Nat) : Int) old) ∧ h.IsTupleIter it a i ∧ e ≠ it) where
 mem := by simp
 obj := fun i h st b hb => by
  obtain ⟨⟨old,he⟩,⟨o,ho,hc,hd⟩,_⟩ := st
  have e' : b = e ∨ b = it := by simpa using hb
  rcases e' with z | z
  ·rw [z];exact ⟨_,he,fun v q => nomatch q⟩
  ·rw [z];exact ⟨o,ho,fun v q => by rw [hd] at q;cases q⟩
 keep := fun i h h' st k => let ⟨⟨old,he⟩,hi,hne⟩ := st;⟨⟨old,k e (by simp) _ he⟩,hi.at fun o q => k it (by simp) o q,hne⟩
 item := by
  intro X hP hw hK hc i pins s σ H E I hf st hg
  subst hP hw hK
  obtain ⟨⟨old,he⟩,hit,hne⟩ := st
  obtain ⟨xs,x,hq,hx⟩ := hg
  obtain ⟨its,rv,p,hz⟩ := I.tuple hq
  obtain ⟨u,hu,ru⟩ := rv.get hx
  have hel : e < s.heap.objs.size := Heap.lt_size he
  have hil : it < s.heap.objs.size := by obtain ⟨_,q,_⟩ := hit;exact Heap.lt_size q
  have nia : it ≠ a := fun z => by
   obtain ⟨o1,e1,c1,_⟩ := hit
   obtain ⟨o2,e2,c2,_⟩ := p
   rw [z,e2] at e1
   cases e1
   rw [c2] at c1
   exact absurd c1 (by intro z;injection z with z;exact absurd z (by decide))
  have nea : e ≠ a := fun z => by
   obtain ⟨o2,e2,c2,_⟩ := p
   rw [z] at he
   rw [he] at e2
   cases e2
   exact absurd c2 (by intro z;injection z with z;exact absurd z (by decide))
  refine wpAny_pyNext_enum_itemD (jmi (us := its.toArray) (I.ok.hd hc) nia) he ⟨hit,p⟩ (by have := List.getElem?_eq_some_iff.mp hu;obtain ⟨z,_⟩ := this;simpa using z) hne (by simp [hne,nea]) fun x' h' tk px ho st' hT hsz hk => ?_
  obtain rfl : u = x' := by
   have px : its.toArray[i]? = some x' := px
   have : its[i]? = some x' := by simpa using px
   rw [hu] at this
   exact Option.some.inj this
  refine ⟨_,rfl,wpAny_letOwnedTupleGo_enum (s := { s with heap := h',toks := tk + 1 }) ho fun h'' he' sb => ?_⟩
  have hT2 : h''.get? s.heap.objs.size = some { cls := .type "tuple",data := .seq #[.int i tk,u] } := (sb.2 _ (Nat.ne_of_gt hel)).trans hT
  have new : ObjOk X.prog X.w (upd H s.heap.objs.size (.tup [.int (i : Nat),x])) h'' s.heap.objs.size (.tup [.int (i : Nat),x]) :=
   ⟨by show 2 ≤ sizeLine;decide,[.int i tk,u],.cons ⟨_,rfl⟩ (.cons ru .nil),⟨_,hT2,rfl,_,rfl⟩⟩
  have I1 : Inv X pins σ (upd H s.heap.objs.size (.tup [.int (i : Nat),x])) { s with heap := h'',toks := tk + 1 } :=
   I.turnedNew (ch := [e,it]) (fun b ob hb q => (sb.2 b (fun z => hb (by simp [z]))).trans (hk b ob (fun z => hb (by simp [z])) (fun z => hb (by simp [z])) q)) hf (Nat.le_refl _) new
  refine ⟨.ref s.heap.objs.size,_,I1,rfl,⟨_,x,rfl,I.hok.fresh (Nat.le_refl _),rfl,fun ys hy => by rw [I.tuple_inj hy hq];exact hx⟩,⟨⟨u,?_⟩,st'.1.at fun o q => (sb.2 it (Ne.symm hne)).trans q,hne⟩,fun b hb => ?_⟩
  ·have e1 : ((i + 1 : Nat) : Int) = (i : Int) + 1 := by omega
   rw [e1];exact he'
  ·have hb' : b < s.heap.objs.size := by
    have e' : b = e ∨ b = it := by simpa using hb
    rcases e' with z | z
    ·rw [z];exact hel
    ·rw [z];exact hil
   rw [jB (Nat.ne_of_lt hb')]
   exact (hf b hb).1
 done := by
  intro X hP hw hK hc i pins s σ H E I hf st hg
  subst hP hw hK
  obtain ⟨⟨old,he⟩,hit,hne⟩ := st
  obtain ⟨xs,hq,hx⟩ := hg
  obtain ⟨its,rv,p,hz⟩ := I.tuple hq
  obtain ⟨f0,f1,f2,f3,f4,f5⟩ := hf it (by simp)
  have hl := rv.length
  have hT : s.TypeIs (.ref e) "enumerate" := ⟨_,he,rfl⟩
  unfold pyNext
  refine wpAny_bind (wpAny_attempt (wpAny_callSpecial?_slot (name := Str.ofString "__next__") hT F.slot_enumerate_next (wpAny_call_entry F.slot_enumerate_next hT F.entry_enumerate_next ?_ (F.args_enumerate_next_1 _))))
  show wpAny _ _ (field (.ref e) 2 >>= _) _ _ _
  refine wpAny_bind (wpAny_field he rfl (x := .ref it) rfl ?_)
  refine wpAny_bind (jbH (I.ok.hd hc) hit p (by simp;omega) fun h' x he' hx' => ?_)
  obtain ⟨o,ho,hcc⟩ := hx'
  refine wpAny_bind (wpAny_isInstance (T := "StopIteration") (b := true) ⟨o,ho,hcc⟩ isSubtype_stop ?_)
  exact wpAny_pure ⟨rfl,I.turned (t' := s.toks) (fun b o hb q => he' b o hb q) f0 f1 f3 f4 f5⟩
 self := fun A i s Q E st h => let ⟨⟨_,he⟩,_⟩ := st;wpAny_pyIter_enum he h
def iEnumT (K : PySem.W.Frag) (ta : TA) : TI := fun σ H R => ta σ H fun vs H1 => ∃ a xs,vs = [.ref a] ∧ SqT K H1 a xs ∧ R (IteT K a) H1
theorem jj5 {X : Cx} {e : Expr} {ta : TA} {p pos tpos : Pos} {elts : List Expr} {kk : Nat} (hg : Gl X "enumerate") (hm : X.mg "enumerate" = none) (ha : PA X [e] ta) (hs : starEach [e] X.env = [(false,eval e X.env)] := by rfl) :
  PI X (.Tuple elts kk tpos) (.Call (.Name "enumerate" p) [e] [] pos) (iEnumT X.K ta) := by
 intro pins s σ H R I h
 refine Call_ (jcM I hg hm boot_enumerate (PyProof.Rows.callWith_type1 (thn (ha pos pins s σ H _ I h) fun us s1 ⟨vs,H1,I1,r1,q1⟩ => ?_) hs rfl))
 obtain ⟨a,xs,ex,hq,q⟩ := q1
 subst ex
 cases r1 with
 | cons r rr =>
  cases rr
  cases r
  obtain ⟨its,rv,p',hz⟩ := I1.tuple hq
  refine jir p' fun h' he hit hk => wpAny_pyIter_enum he ?_
  have I2 : Inv X pins σ H1 { s1 with heap := h' } := I1.kept (t' := s1.toks) hk
  refine ⟨s1.heap.objs.size + 1,[s1.heap.objs.size + 1,s1.heap.objs.size],_,_,H1,rfl,I2,jia a (s1.heap.objs.size + 1) s1.heap.objs.size,⟨⟨.none,he⟩,hit,Nat.succ_ne_self _⟩,fun b hb => ?_,q⟩
  have e' : b = s1.heap.objs.size + 1 ∨ b = s1.heap.objs.size := by simpa using hb
  have hle : s1.heap.objs.size ≤ b := by
   rcases e' with z | z
   ·rw [z];exact Nat.le_add_right _ _
   ·rw [z];exact Nat.le_refl _
  exact I1.fpOk hle (I1.hok.fresh hle)
theorem jgj {K : PySem.W.Frag} {a : Addr} {xs : List V} {g : TG} {tb : TS} {D : Ends} {σ : St} {H : Hp} (Pv : Nat → St → Hp → Prop) (h0 : Pv 0 σ H) (hl : ∀ i σ H,i ≤ xs.length → Pv i σ H → SqT K H a xs)
  (hs : ∀ i x σ H T,xs[i]? = some x → Pv i σ H → H T = none → g (.ref T) σ (upd H T (.tup [.int (i : Nat),x])) fun σ2 H2 => tb { D with nx := Pv (i + 1),ct := Pv (i + 1),bk := D.nx } σ2 H2) (hd : ∀ σ H,Pv xs.length σ H → D.nx σ H) :
  ∃ W : Nat → Nat → St → Hp → Prop,(∃ m,W 0 m σ H) ∧ ∀ i m σ H,W i m σ H →
   ((IteT K a).stop i H ∧ D.nx σ H) ∨ ((IteT K a).go i H ∧ ∃ N : St → Hp → Prop,(∀ σ' H',N σ' H' → ∃ m',m' < m ∧ W (i + 1) m' σ' H') ∧ ∀ x H',(IteT K a).yld i H x H' → g x σ H' fun σ2 H2 => tb { D with nx := N,ct := N,bk := D.nx } σ2 H2) := by
 refine ⟨fun i m σ H => m = xs.length - i ∧ i ≤ xs.length ∧ Pv i σ H,⟨xs.length,by simp,Nat.zero_le _,h0⟩,?_⟩
 rintro i m σ H ⟨rfl,hi,p⟩
 have q1 := hl i σ H hi p
 by_cases hlt : i < xs.length
 ·refine .inr ⟨⟨xs,xs[i],q1,List.getElem?_eq_getElem hlt⟩,Pv (i + 1),fun σ' H' n => ⟨xs.length - (i + 1),by omega,rfl,hlt,n⟩,?_⟩
  rintro v H' ⟨T,x,rfl,hT,rfl,e1⟩
  exact hs i x σ H T (e1 _ q1) p hT
 ·obtain rfl : i = xs.length := by omega
  exact .inl ⟨⟨xs,q1,Nat.le_refl _⟩,hd σ H p⟩
end L2
end
section
namespace K3
open PySem L2
def Tp (K : PySem.W.Frag) (H : Hp) (a : Addr) (xs : List V) : Prop := H a = some (.tup xs) ∨
 ∃ (o : Obj) (its : Array Value) (n : Nat),K.lookup a = some o ∧ o.cls = .type "tuple" ∧ o.data = .seq its n ∧ its.size ≤ sizeLine ∧ Vals xs its.toList
theorem Tp.sq {K : PySem.W.Frag} {H : Hp} {a : Addr} {xs : List V} (h : Tp K H a xs) : SqT K H a xs := by
 rcases h with h | h
 ·exact SqT.of h
 ·exact .inr h
theorem Tp.mono {K : PySem.W.Frag} {H H' : Hp} {a : Addr} {xs : List V} (h : Tp K H a xs) (k : TupKeep H H') : Tp K H' a xs := by
 rcases h with h | h
 ·exact .inl (k _ _ h)
 ·exact .inr h
def TyO (K : PySem.W.Frag) (H : Hp) (x : V) (t : Value) : Prop := TyOf K H x t ∨ ∃ a xs,x = .ref a ∧ t = .type "tuple" ∧ Tp K H a xs
theorem Tp.ty {K : PySem.W.Frag} {H : Hp} {a : Addr} {xs : List V} (h : Tp K H a xs) : TyO K H (.ref a) (.type "tuple") := .inr ⟨a,xs,rfl,rfl,h⟩
theorem jO {X : Cx} : CallR X (.builtin "isinstance") (fun xs H Q => ∃ x c t b,xs = [x,.ty c] ∧ TyO X.K H x t ∧ PySem.W.kitOne X.K t (.type c) = some b ∧ Q (.bl b) H) := by
 intro pins s σ H xs us Q I r h
 obtain ⟨x,c,t,b,rfl,ty,e,q⟩ := h
 rcases ty with ty | ⟨a,ys,rfl,rfl,h⟩
 ·exact jh5 pins s σ H _ us Q I r ⟨x,c,t,b,rfl,ty,e,q⟩
 ·rcases h with h | ⟨o,its,n,hk,hc,_⟩
  ·exact jh5 pins s σ H _ us Q I r ⟨_,c,_,b,rfl,TyOf.tup h,e,q⟩
  ·obtain ⟨u,w',rfl,ru,rw'⟩ := jjP r
   obtain rfl : w' = Value.type c := rw'
   obtain rfl : u = Value.ref a := ru
   exact PySem.W.kia_one PySem.W.kitx_tuple I.kIn ⟨o,I.kIn a o hk,hc⟩ e (fun z => nomatch z) fun tk => ⟨.bl b,H,I.tok tk,rfl,q⟩
def AllAt {α : Type} (R : α → V → Prop) : List α → List V → Prop
 | [],vs => vs = []
 | x :: xs,vs => ∃ v r,vs = v :: r ∧ R x v ∧ AllAt R xs r
theorem AllAt.imp {α : Type} {R R' : α → V → Prop} (k : ∀ x v,R x v → R' x v) : ∀ {xs : List α} {vs : List V},AllAt R xs vs → AllAt R' xs vs
 | [],_,h => h
 | _ :: _,_,⟨v,r,e,h1,h2⟩ => ⟨v,r,e,k _ _ h1,AllAt.imp k h2⟩
theorem AllAt.len {α : Type} {R : α → V → Prop} : ∀ {xs : List α} {vs : List V},AllAt R xs vs → vs.length = xs.length
 | [],vs,h => by rw [show vs = [] from h];rfl
 | _ :: _,_,⟨v,r,e,_,h2⟩ => by rw [e,List.length_cons,List.length_cons,AllAt.len h2]
theorem AllAt.get {α : Type} {R : α → V → Prop} : ∀ {xs : List α} {vs : List V} {i : Nat} {v : V},AllAt R xs vs → vs[i]? = some v → ∃ x,xs[i]? = some x ∧ R x v
 | [],vs,i,v,h,e => by rw [show vs = [] from h] at e;cases i <;> cases e
 | x :: _,_,0,v,⟨u,r,e,h1,_⟩,ev => by rw [e] at ev;cases ev;exact ⟨x,rfl,h1⟩
 | _ :: _,_,i + 1,v,⟨u,r,e,_,h2⟩,ev => by rw [e,List.getElem?_cons_succ] at ev;rw [List.getElem?_cons_succ];exact AllAt.get h2 ev
theorem AllAt.of {α : Type} {R : α → V → Prop} : ∀ {xs : List α} {vs : List V} {i : Nat} {x : α},AllAt R xs vs → xs[i]? = some x → ∃ v,vs[i]? = some v ∧ R x v
 | [],vs,i,x,h,e => by cases i <;> cases e
 | y :: _,_,0,x,⟨u,r,e,h1,_⟩,ev => by cases ev;rw [e];exact ⟨u,rfl,h1⟩
 | _ :: _,_,i + 1,x,⟨u,r,e,_,h2⟩,ev => by rw [List.getElem?_cons_succ] at ev;rw [e,List.getElem?_cons_succ];exact AllAt.of h2 ev
theorem AllAt.app {α : Type} {R : α → V → Prop} : ∀ {xs ys : List α} {vs ws : List V},AllAt R xs vs → AllAt R ys ws → AllAt R (xs ++ ys) (vs ++ ws)
 | [],_,vs,_,h1,h2 => by rw [show vs = [] from h1];exact h2
 | _ :: _,_,_,_,⟨v,r,e,h,h1⟩,h2 => by rw [e];exact ⟨v,_,rfl,h,AllAt.app h1 h2⟩
theorem AllAt.one {α : Type} {R : α → V → Prop} {x : α} {v : V} (h : R x v) : AllAt R [x] [v] := ⟨v,[],rfl,h,rfl⟩
theorem AllAt.take {α : Type} {R : α → V → Prop} : ∀ {xs : List α} {vs : List V} (i : Nat),AllAt R xs vs → AllAt R (xs.take i) (vs.take i)
 | [],vs,i,h => by rw [show vs = [] from h];simp [AllAt]
 | _ :: _,_,0,_ => by simp [AllAt]
 | _ :: _,_,i + 1,⟨v,r,e,h,h1⟩ => by rw [e];exact ⟨v,_,rfl,h,AllAt.take i h1⟩
inductive Row where
 | num (t r n : Int)
 | copy (t r a : Int)
 | not (t r a : Int)
 | get (t r a : Int)
 | op (w : Op2) (t r a b : Int)
 | put (t a b : Int)
 | say (t a : Int)
 | stop (t a : Int)
 | test (t p q a : Int)
def Row.t : Row → Int
 | .num t _ _ => t | .copy t _ _ => t | .not t _ _ => t | .get t _ _ => t | .op _ t _ _ _ => t | .put t _ _ => t | .say t _ => t | .stop t _ => t | .test t _ _ _ => t
def Row.vs : Row → List V
 | .num t r n => [.int t,.str "num",.int r,.int n]
 | .copy t r a => [.int t,.str "copy",.int r,.int a]
 | .not t r a => [.int t,.str "not",.int r,.int a]
 | .get t r a => [.int t,.str "get",.int r,.int a]
 | .op w t r a b => [.int t,.str w.str,.int r,.int a,.int b]
 | .put t a b => [.int t,.str "put",.int a,.int b]
 | .say t a => [.int t,.str "say",.int a]
 | .stop t a => [.int t,.str "stop",.int a]
 | .test t p q a => [.int t,.str "test",.int p,.int q,.int a]
def In2 (x : Int) : Prop := 0 ≤ x ∧ x ≤ 1999
def Row.ok : Row → Prop
 | .num t r n => In2 t ∧ In2 r ∧ InR n
 | .copy t r a => In2 t ∧ In2 r ∧ In2 a
 | .not t r a => In2 t ∧ In2 r ∧ In2 a
 | .get t r a => In2 t ∧ In2 r ∧ In2 a
 | .op w t r a b => (w ≠ .and ∧ w ≠ .or) ∧ In2 t ∧ In2 r ∧ In2 a ∧ In2 b
 | .put t a b => In2 t ∧ In2 a ∧ In2 b
 | .say t a => In2 t ∧ In2 a
 | .stop t a => In2 t ∧ In2 a
 | .test t p q a => In2 t ∧ (1 ≤ p ∧ p ≤ 1999) ∧ (1 ≤ q ∧ q ≤ 1999) ∧ p ≠ q ∧ In2 a
structure Piece where
 rows : List Row
 goes : List (Int × Int)
def GoOk (n : Nat) (g : Int × Int) : Prop := In2 g.1 ∧ -1 ≤ g.2 ∧ g.2 < n
structure Piece.ok (n : Nat) (p : Piece) : Prop where
 rl : p.rows.length ≤ 1500
 ro : ∀ r ∈ p.rows,r.ok
 g1 : 1 ≤ p.goes.length
 g8 : p.goes.length ≤ 8
 go : ∀ g ∈ p.goes,GoOk n g
 last : ∀ g,p.goes[p.goes.length - 1]? = some g → g.1 = 0
structure PsOk (ps : List Piece) : Prop where
 p1 : 1 ≤ ps.length
 p9 : ps.length ≤ 999
 ok : ∀ p ∈ ps,p.ok ps.length
def RowAt (K : PySem.W.Frag) (H : Hp) (r : Row) (v : V) : Prop := ∃ a,v = .ref a ∧ Tp K H a r.vs
def GoAt (K : PySem.W.Frag) (H : Hp) (g : Int × Int) (v : V) : Prop := ∃ a,v = .ref a ∧ Tp K H a [.int g.1,.int g.2]
def PieceAt (K : PySem.W.Frag) (H : Hp) (p : Piece) (v : V) : Prop := ∃ a ra ga rvs gvs,v = .ref a ∧ Tp K H a [.ref ra,.ref ga] ∧ Tp K H ra rvs ∧ AllAt (RowAt K H) p.rows rvs ∧ Tp K H ga gvs ∧ AllAt (GoAt K H) p.goes gvs
def TestedAt (K : PySem.W.Frag) (H : Hp) (ins nm : Int) (ps : List Piece) (v : V) : Prop := ∃ a pa pvs,v = .ref a ∧ Tp K H a [.int ins,.int nm,.ref pa] ∧ Tp K H pa pvs ∧ AllAt (PieceAt K H) ps pvs
section
variable {K : PySem.W.Frag} {H H' : Hp}
theorem RowAt.mono {r : Row} {v : V} (h : RowAt K H r v) (k : TupKeep H H') : RowAt K H' r v := let ⟨a,e,h⟩ := h;⟨a,e,h.mono k⟩
theorem GoAt.mono {r : Int × Int} {v : V} (h : GoAt K H r v) (k : TupKeep H H') : GoAt K H' r v := let ⟨a,e,h⟩ := h;⟨a,e,h.mono k⟩
theorem PieceAt.mono {p : Piece} {v : V} (h : PieceAt K H p v) (k : TupKeep H H') : PieceAt K H' p v :=
 let ⟨a,ra,ga,rvs,gvs,e,h1,h2,h3,h4,h5⟩ := h
 ⟨a,ra,ga,rvs,gvs,e,h1.mono k,h2.mono k,h3.imp fun _ _ h => h.mono k,h4.mono k,h5.imp fun _ _ h => h.mono k⟩
theorem TestedAt.mono {ins nm : Int} {ps : List Piece} {v : V} (h : TestedAt K H ins nm ps v) (k : TupKeep H H') : TestedAt K H' ins nm ps v :=
 let ⟨a,pa,pvs,e,h1,h2,h3⟩ := h;⟨a,pa,pvs,e,h1.mono k,h2.mono k,h3.imp fun _ _ h => h.mono k⟩
end
structure MS where
 rs : List Int
 cs : List Int
 sd : List Int
 fu : Nat
 lk : Nat
 dn : Nat
 ho : Int → Bool
def MS.reg (s : MS) (a : Int) : Int := s.rs.getD a.toNat 0
def MS.wr (s : MS) (r x : Int) : MS := { s with rs := s.rs.set r.toNat x }
def m0 (hs : List Int) (fu : Nat) : MS := { rs := hs ++ List.replicate (2000 - hs.length) 0,cs := List.replicate 16 0,sd := [],fu := fu,lk := 0,dn := 0,ho := fun _ => false }
structure MGood (s : MS) : Prop where
 rl : s.rs.length = 2000
 rr : ∀ x ∈ s.rs,InR x
 cl : s.cs.length = 16
 cr : ∀ x ∈ s.cs,InR x
theorem jkC {l : List Int} {i : Nat} {x : Int} (h : ∀ y ∈ l,InR y) (hx : InR x) : ∀ y ∈ l.set i x,InR y := fun y hy => by
 rcases List.mem_or_eq_of_mem_set hy with z | z
 ·exact h y z
 ·rw [z];exact hx
theorem MGood.reg {s : MS} (g : MGood s) (a : Int) : InR (s.reg a) := jlq g.rr _
theorem MGood.wr {s : MS} (g : MGood s) {r x : Int} (hx : InR x) : MGood (s.wr r x) := ⟨by simp only [MS.wr,List.length_set];exact g.rl,jkC g.rr hx,g.cl,g.cr⟩
structure Lt (s s' : MS) : Prop where
 fu : s'.fu ≤ s.fu
 sd : s.sd.length ≤ s'.sd.length
theorem Lt.trans {a b c : MS} (x : Lt a b) (y : Lt b c) : Lt a c := ⟨Nat.le_trans y.fu x.fu,Nat.le_trans x.sd y.sd⟩
end K3
end
section
namespace L2
open PySem PySem.Spec PyProof.Rows
section
open PySem.AutoSeq1 (wpAny_loadPart')
theorem jhp (l b : Addr) (items items2 : Array Value) (n n2 : Nat) (dd dd2 : Option Addr) (sl sl2 : Array (Option Value)) (h0 : items.isEmpty = true) :
  Meets (Builtin.«tuple.__add__» ⟨[.ref l,.ref b],[]⟩) (fun _ R s => s.heap.get? l = some { cls := .type "tuple",dict := dd,data := .seq items n,slots := sl } ∧ s.heap.get? b = some { cls := .type "tuple",dict := dd2,data := .seq items2 n2,slots := sl2 } ∧ R (.ok (.ret (Value.ref b))) s) :=
 .of_wp fun prog w A R s h => by
  obtain ⟨hp,g,d,tk,os⟩ := s
  obtain ⟨hl,hb,h⟩ := h
  have f2 := AutoSeq1.sub_tuple_tuple
  wp_walk using wpAny_loadPart' hl,wpAny_loadPart' hb
  exact ⟨_,rfl,h⟩
end
section
variable {X : Cx}
def jmu (K : PySem.W.Frag) : R2 := fun x y H Q => ∃ a b xs ys,x = .ref a ∧ y = .ref b ∧ SqT K H a xs ∧ SqT K H b ys ∧ xs.length + ys.length ≤ sizeLine ∧
 (xs = [] → Q (.ref b) H) ∧ (xs ≠ [] → (ys = [] → Q (.ref a) H) ∧ (ys ≠ [] → ∀ p,H p = none → Q (.ref p) (upd H p (.tup (xs ++ ys)))))
theorem op_cat3 : OpR X (binaryOp .Add) (jmu X.K) := by
 intro pins s σ H x y v u Q I rx ry h
 obtain ⟨a,b,xs,ys,ex,ey,ha,hb,hz,q0,q1⟩ := h
 by_cases hx : xs = []
 ·subst ex ey
  cases rx
  cases ry
  obtain ⟨its,r1,p1,_⟩ := I.tuple ha
  obtain ⟨its2,r2,p2,_⟩ := I.tuple hb
  subst hx
  cases r1
  obtain ⟨⟨cls,dd,data,sl⟩,ho,hc,n,hd⟩ := id p1
  obtain ⟨⟨cls2,dd2,data2,sl2⟩,ho2,hc2,n2,hd2⟩ := id p2
  simp only at hc hd hc2 hd2
  subst hc hd hc2 hd2
  exact concat_meets ⟨_,ho,rfl⟩ ⟨_,ho2,rfl⟩ noFill_tuple_add seq_tuple_add PySem.F.slot_tuple_add PySem.F.entry_tuple_add (PySem.F.args_tuple_add_2 _ _)
   (jhp a b #[] its2.toArray n n2 dd dd2 sl sl2 rfl) ⟨ho,ho2,⟨.ref b,H,I,rfl,q0 rfl⟩⟩
 ·exact op_catT pins s σ H x y v u Q I rx ry ⟨a,b,xs,ys,ex,ey,ha,hb,hx,hz,(q1 hx).1,(q1 hx).2⟩
end
end L2
end
section
namespace K3
open PySem L2
theorem nof : ¬ (false = true) := by decide
theorem sne {a b : Str} (h : a ≠ b) : ¬ V.str a = V.str b := fun z => h (V.str.inj z)
theorem jbg {H : Hp} {p : Addr} {o : HO} (h : H p = none) : Same H (upd H p o) := fun b u hb => by rw [jB (jt hb h)];exact hb
def endL : End → List V
 | .worth n => [.str "worth",.int n]
 | .fault f => [.str "fault",.str f.str]
 | .long => [.str "long"]
theorem at0 {v : V} {hs : List V} : atI (v :: hs) 0 = some v := jby (j := 0) rfl rfl
theorem at1 {v x : V} {hs : List V} : atI (v :: x :: hs) 1 = some x := jby (j := 1) rfl rfl
theorem jd7 {CX : CXT} {P : Program} {w : World} {K : PySem.W.Frag} {mg : Str → Option Value} {base : Heap} {N : List Str} {qual : Str} {scope : Scope} {f : Addr} {cd : Value} {A : Around} {outer : List Env} {s : Shared} {H : Hp} {E : XK} : (cxOf CX P w K mg base N qual scope f cd A outer s H E).nox.prog = P := rfl
theorem jd6 {CX : CXT} {P : Program} {w : World} {K : PySem.W.Frag} {mg : Str → Option Value} {base : Heap} {N : List Str} {qual : Str} {scope : Scope} {f : Addr} {cd : Value} {A : Around} {outer : List Env} {s : Shared} {H : Hp} {E : XK} : (cxOf CX P w K mg base N qual scope f cd A outer s H E).nox.w = w := rfl
theorem cx_P {CX : CXT} {P : Program} {w : World} {K : PySem.W.Frag} {mg : Str → Option Value} {base : Heap} {N : List Str} {qual : Str} {scope : Scope} {f : Addr} {cd : Value} {A : Around} {outer : List Env} {s : Shared} {H : Hp} {E : XK} : (cxOf CX P w K mg base N qual scope f cd A outer s H E).prog = P := rfl
theorem cx_w {CX : CXT} {P : Program} {w : World} {K : PySem.W.Frag} {mg : Str → Option Value} {base : Heap} {N : List Str} {qual : Str} {scope : Scope} {f : Addr} {cd : Value} {A : Around} {outer : List Env} {s : Shared} {H : Hp} {E : XK} : (cxOf CX P w K mg base N qual scope f cd A outer s H E).w = w := rfl
end K3
end
section
namespace K3
open PySem L2
section
variable {K : PySem.W.Frag}
def Scr (K : PySem.W.Frag) (H : Hp) (a : Addr) (ns : List Int) : Prop := (∃ o,H a = some (.frz o (.lst (ns.map V.int)))) ∨
 ∃ (o : Obj) (its : Array Value) (n : Nat),K.lookup a = some o ∧ o.cls = .type "list" ∧ o.dict = none ∧ o.data = .seq its n ∧ its.size ≤ sizeLine ∧ Vals (ns.map V.int) its.toList
theorem Scr.sq {H : Hp} {a : Addr} {ns : List Int} (h : Scr K H a ns) : SqL K H a (ns.map V.int) := by
 rcases h with ⟨o,h⟩ | h
 ·exact .inl (.inr ⟨o,h⟩)
 ·exact .inr h
theorem Scr.of {H : Hp} {a : Addr} {ns : List Int} (O : Only H) (h : SqL K H a (ns.map V.int)) : Scr K H a ns := by
 rcases h with (h | h) | h
 ·rcases O a with z | ⟨o,xs,z⟩
  ·rw [h] at z;cases z
  ·rw [h] at z;cases z
 ·exact .inl h
 ·exact .inr h
theorem Scr.keep {H H' : Hp} {a : Addr} {ns : List Int} (h : Scr K H a ns) (k : ∀ o u,H a = some (.frz o u) → H' a = some (.frz o u)) : Scr K H' a ns := by
 rcases h with ⟨o,h⟩ | h
 ·exact .inl ⟨o,k _ _ h⟩
 ·exact .inr h
theorem Scr.new {H : Hp} {a p : Addr} {o : HO} {ns : List Int} (h : Scr K H a ns) (hp : H p = none) : Scr K (upd H p o) a ns := h.keep fun o u z => by rw [jB (jt z hp)];exact z
theorem Scr.lst {H : Hp} {a p : Addr} {o : HO} {ns : List Int} {ys : List V} (h : Scr K H a ns) (hp : H p = some (.lst ys)) : Scr K (upd H p o) a ns := h.keep fun o u z => by
 rw [jB]
 ·exact z
 ·intro e;rw [e,hp] at z;cases z
def DiceAt (K : PySem.W.Frag) (H : Hp) (d a : Addr) : Prop := ∃ (ns : List Int) (k m c : Int),H d = some (.lst [.ref a,.int k,.int m,.int c]) ∧ Scr K H a ns ∧ 0 ≤ k ∧ 0 ≤ m ∧ m < 2147483647 ∧ 0 ≤ c
def Keep (d : Addr) (H H' : Hp) : Prop := ∀ b o,b ≠ d → H b = some o → H' b = some o
theorem jll {ns : List Int} {k : Int} (h0 : 0 ≤ k) (h1 : k < (ns.length : Int)) : ∃ z : Int,atI (ns.map V.int) k = some (.int z) := by
 have hk : k.toNat < ns.length := by omega
 exact ⟨ns[k.toNat],jby (j := k.toNat) (by omega) (by rw [List.getElem?_map,List.getElem?_eq_getElem hk];rfl)⟩
theorem DiceAt.same {H H' : Hp} {d a : Addr} (D : DiceAt K H d a) (s : Same H H') : DiceAt K H' d a := by
 obtain ⟨ns,k,m,c,h,sc,r⟩ := D
 exact ⟨ns,k,m,c,s _ _ h,sc.keep fun o u z => s _ _ z,r⟩
theorem Keep.trans {d : Addr} {H H1 H2 : Hp} (a : Keep d H H1) (b : Keep d H1 H2) : Keep d H H2 := fun c o n h => b c o n (a c o n h)
theorem Keep.same {d : Addr} {H H1 : Hp} (a : Same H H1) : Keep d H H1 := fun c o _ h => a c o h
theorem Keep.tups {H H' : Hp} {d a : Addr} (D : DiceAt K H d a) (k : Keep d H H') : TupKeep H H' := fun b xs hb => by
 obtain ⟨ns,_,m,c,hd,_⟩ := D
 exact k b _ (fun z => by rw [z,hd] at hb;cases hb) hb
theorem DiceAt.ne {H : Hp} {d a p : Addr} (D : DiceAt K H d a) (h : H p = none) : p ≠ d := fun z => by
 obtain ⟨ns,_,m,c,hd,_⟩ := D
 rw [z,hd] at h;cases h
theorem DiceAt.wr {H : Hp} {d a p : Addr} {xs : List V} {o : HO} (D : DiceAt K H d a) (n : p ≠ d) (h : H p = some (.lst xs)) : DiceAt K (upd H p o) d a := by
 obtain ⟨ns,k,m,c,hd,sc,r⟩ := D
 exact ⟨ns,k,m,c,by rw [jB (Ne.symm n)];exact hd,sc.lst h,r⟩
theorem jbA {H : Hp} {p : Addr} {xs : List V} {o : HO} (h : H p = some (.lst xs)) : TupKeep H (upd H p o) := fun b ys hb => by
 rw [jB (fun z => by rw [z,h] at hb;cases hb)];exact hb
end
end K3
namespace K3
open PySem L2
section
variable {K : PySem.W.Frag}
theorem Scr.dk {H : Hp} {a p : Addr} {o : HO} {ns : List Int} {ys : List (Key × V)} (h : Scr K H a ns) (hp : H p = some (.dK ys)) : Scr K (upd H p o) a ns := h.keep fun o u z => by
 rw [jB]
 ·exact z
 ·intro e;rw [e,hp] at z;cases z
theorem DiceAt.wrK {H : Hp} {d a p : Addr} {kvs : List (Key × V)} {o : HO} (D : DiceAt K H d a) (h : H p = some (.dK kvs)) : DiceAt K (upd H p o) d a := by
 obtain ⟨ns,k,m,c,hd,sc,r⟩ := D
 have n : d ≠ p := fun z => by rw [z,h] at hd;cases hd
 exact ⟨ns,k,m,c,by rw [jB n];exact hd,sc.dk h,r⟩
theorem DiceAt.neK {H : Hp} {d a p : Addr} {kvs : List (Key × V)} (D : DiceAt K H d a) (h : H p = some (.dK kvs)) : p ≠ d := fun z => by
 obtain ⟨ns,_,m,c,hd,_⟩ := D
 rw [z,hd] at h;cases h
end
end K3
end
section
namespace K3
open PySem L2
section
variable {K : PySem.W.Frag} {H : Hp}
end
end K3
end
section
namespace L2
open PySem
section
variable {X : Cx} {e : Expr} {es : List Expr} {pos : Pos}
theorem PE.mono {t t' : TE} (h : PE X e t) (k : ∀ σ H Q,t' σ H Q → t σ H Q) : PE X e t' := fun pins s σ H Q I q => h pins s σ H Q I (k σ H Q q)
def tAny (t : TA) : TA := fun σ H Q => ∃ Q0 : List V → Hp → Prop,t σ H Q0 ∧ ∀ xs H1,Q0 xs H1 → Q xs H1
theorem PA.any {t : TA} (h : PA X es t) : PA X es (tAny t) := fun pos pins s σ H Q I ⟨Q0,q0,k⟩ => thn (h pos pins s σ H Q0 I q0) fun us s1 ⟨vs,H1,I1,r,q⟩ => ⟨vs,H1,I1,r,k _ _ q⟩
theorem zi {H : Hp} {p : Addr} {o : HO} (h : H p = none) : Same H (upd H p o) := fun b u hb => by rw [jB (jt hb h)];exact hb
def tTupN (t : TA) : TE := fun σ H Q => t σ H fun xs H1 => xs.length ≤ sizeLine ∧ ∀ p H2,H1 p = none → Same H1 H2 → H2 p = some (.tup xs) → Q (.ref p) H2
def tLstN (t : TA) : TE := fun σ H Q => t σ H fun xs H1 => xs.length ≤ sizeLine ∧ ∀ p H2,H1 p = none → Same H1 H2 → H2 p = some (.lst xs) → Q (.ref p) H2
theorem pe_tupN {x1} {t : TA} (h : PA X es t) : PE X (.Tuple es x1 pos) (tTupN t) := (jlK h.any).mono fun σ H Q q => ⟨_,q,fun xs H1 ⟨l,k⟩ => ⟨l,fun p hp => k p _ hp (zi hp) jj⟩⟩
theorem pe_lstN {t : TA} (h : PA X es t) : PE X (.List es pos) (tLstN t) := (pe_lst h.any).mono fun σ H Q q => ⟨_,q,fun xs H1 ⟨l,k⟩ => ⟨l,fun p hp => k p _ hp (zi hp) jj⟩⟩
theorem OpR.mono {f : Value → Value → Sem Value} {r r' : R2} (h : OpR X f r) (k : ∀ x y H Q,r' x y H Q → r x y H Q) : OpR X f r' := fun pins s σ H x y v u Q I a b q => h pins s σ H x y v u Q I a b (k x y H Q q)
def jc2 : R2 := fun x y H Q => ∃ l b xs zs,x = .ref l ∧ y = .ref b ∧ H l = some (.lst xs) ∧ H b = some (.lst zs) ∧ xs.length + zs.length ≤ sizeLine ∧ ∀ p H2,H p = none → Same H H2 → H2 p = some (.lst (xs ++ zs)) → Q (.ref p) H2
theorem je6 : OpR X (binaryOp .Add) jc2 := op_cat.mono fun x y H Q ⟨l,b,xs,zs,e1,e2,h1,h2,z,q⟩ => ⟨l,b,xs,zs,e1,e2,h1,h2,z,fun p hp => q p _ hp (zi hp) jj⟩
def gG (K : PySem.W.Frag) : R2 := fun x y H Q => ∃ a b xs ys,x = .ref a ∧ y = .ref b ∧ SqT K H a xs ∧ SqT K H b ys ∧ xs ≠ [] ∧ ys ≠ [] ∧ xs.length + ys.length ≤ sizeLine ∧ ∀ p H2,H p = none → Same H H2 → H2 p = some (.tup (xs ++ ys)) → Q (.ref p) H2
theorem jhJ : OpR X (binaryOp .Add) (gG X.K) := op_catT.mono fun x y H Q ⟨l,b,xs,zs,e1,e2,h1,h2,n1,n2,z,q⟩ => ⟨l,b,xs,zs,e1,e2,h1,h2,n1,z,fun z => absurd z n2,fun _ p hp => q p _ hp (zi hp) jj⟩
def jdw : R2 := fun x y H Q => ∃ l k xs,x = .ref l ∧ y = .int k ∧ H l = some (.lst xs) ∧ -(2 ^ 63) ≤ k ∧ k < 2 ^ 63 ∧ xs.length * k.toNat ≤ sizeLine ∧ ∀ p H2,H p = none → Same H H2 → H2 p = some (.lst (List.replicate k.toNat xs).flatten) → Q (.ref p) H2
theorem CallR.mono {f : Value} {r r' : List V → Hp → VK → Prop} (h : CallR X f r) (k : ∀ xs H Q,r' xs H Q → r xs H Q) : CallR X f r' := fun pins s σ H xs us Q I a q => h pins s σ H xs us Q I a (k xs H Q q)
def jbB (K : PySem.W.Frag) : List V → Hp → VK → Prop := fun xs H Q => ∃ p ys,xs = [.ref p] ∧ SqL K H p ys ∧ ∀ l H2,H l = none → Same H H2 → H2 l = some (.tup ys) → Q (.ref l) H2
theorem uo : CallR X (.type "tuple") (jbB X.K) := call_tuple_of.mono fun xs H Q ⟨p,ys,e,h,q⟩ => ⟨p,ys,e,.inl ⟨h,fun l hl => q l _ hl (zi hl) jj⟩⟩
def jdx (K : PySem.W.Frag) : List V → Hp → VK → Prop := fun xs H Q => ∃ p ys,xs = [.ref p] ∧ (SqL K H p ys ∨ SqT K H p ys) ∧ ∀ l H2,H l = none → Same H H2 → H2 l = some (.lst ys) → Q (.ref l) H2
theorem SlR.mono {r r' : V → Option Int → Option Int → Hp → VK → Prop} (h : SlR X r) (k : ∀ x lo hi H Q,r' x lo hi H Q → r x lo hi H Q) : SlR X r' := fun pins s σ H x v vl vu lo hi sl Q I a b c d q => h pins s σ H x v vl vu lo hi sl Q I a b c d (k x lo hi H Q q)
def jc0 (K : PySem.W.Frag) : V → Option Int → Option Int → Hp → VK → Prop := fun x lo hi H Q => ∃ a xs,x = .ref a ∧ SqL K H a xs ∧ ∀ p H2,H p = none → Same H H2 → H2 p = some (.lst (cutV xs lo hi)) → Q (.ref p) H2
theorem je0 : SlR X (jc0 X.K) := sl_list.mono fun x lo hi H Q ⟨a,xs,e,h,q⟩ => ⟨a,xs,e,h,fun p hp => q p _ hp (zi hp) jj⟩
def jcZ (K : PySem.W.Frag) : V → Option Int → Option Int → Hp → VK → Prop := fun x lo hi H Q => ∃ a xs,x = .ref a ∧ SqT K H a xs ∧ ¬ (HT.sIx xs.length 0 lo = 0 ∧ HT.sIx xs.length xs.length hi = xs.length) ∧ ∀ p H2,H p = none → Same H H2 → H2 p = some (.tup (cutV xs lo hi)) → Q (.ref p) H2
theorem jkU : SlR X (jcZ X.K) := sl_tup.mono fun x lo hi H Q ⟨a,xs,e,h,n,q⟩ => ⟨a,xs,e,h,n,fun p hp => q p _ hp (zi hp) jj⟩
def vZ : TE := fun _ H Q => ∀ p H2,H p = none → Same H H2 → H2 p = some (.dK []) → Q (.ref p) H2
def tDispN (trs : List (TE × TE)) : TE := fun σ H Q => ∀ p H1,H p = none → Same H H1 → H1 p = some (.dK []) → vX trs σ H1 fun ps H2 => H2 p = some (.dK []) ∧ ∃ kvs : List (Key × V),ps = kvs.map (fun kv => (kV kv.1,kv.2)) ∧ kvs.length ≤ 15 ∧ ∀ H3,(∀ b o,b ≠ p → H2 b = some o → H3 b = some o) → H3 p = some (.dK (jbO [] kvs)) → Q (.ref p) H3
theorem pe_dispN {keys : List (Option Expr)} {values : List Expr} {trs : List (TE × TE)} (h : PPs X pos keys values trs) (hall : keys.all (·.isSome) = true) (hl : keys.length = values.length) (h0 : keys ≠ [])
  (h15 : keys.length ≤ 15) : PE X (.Dict keys values pos) (tDispN trs) := by
 intro pins s σ H Q I q
 have hn := I.hok.fresh (Nat.le_refl s.heap.objs.size)
 have I1 := I.laid (a := s.heap.objs.size) (o := .dK []) (h' := s.heap.push { cls := .type "dict",data := .dict #[] }) (t' := s.toks) (fun _ _ q => Heap.get?_push_of_some _ q) (Nat.le_refl _) (jkr s.heap I.big)
 refine wpAny_Dict_walk (knd := zV X.prog X.w) hall hl h0 h15 (thn (h pins _ σ _ _ I1 (q _ _ hn (zi hn) jj)) fun ws s2 ⟨ps,H2,I2,rel,e,kvs,ep,lk,q2⟩ => ?_)
 subst ep
 obtain ⟨rs,c,rk⟩ := jeP (P := X.prog) (w := X.w) rel
 obtain ⟨z,hd,vs0,r0,dd⟩ := jkq I2.hok e
 cases r0
 refine ⟨rs,c,dd,fun h' dd' hs => ⟨.ref s.heap.objs.size,_,?_,rfl,q2 (upd H2 s.heap.objs.size (.dK (jbO [] kvs))) (fun b o nb hb => by rw [jB nb];exact hb) jj⟩⟩
 have hz : (jbO [] kvs).length ≤ sizeLine := by
  have h1 := gw kvs []
  rw [List.length_nil] at h1
  rw [sizeLine_eq];omega
 have he : ∃ q,h'.get? s.heap.objs.size = some q := let ⟨q,_,_,hq,_⟩ := dd';⟨q,hq⟩
 exact jfE I2 (by rw [e];exact True.intro) hs he (jjs hz hd (rk.merge .nil) dd')
end
end L2
end
section
namespace L2
open PySem PySem.Spec PyProof.Rows
def jdn (P : Program) (w : World) (K : PySem.W.Frag) (mg : Str → Option Value) (base : Heap) (km j : Nat) (C : Addr) (fl : Str) (t : TA) : TS := fun D σ H => ∃ (g : Addr) (fd : FuncData) (ps : List Str) (k : Nat) (sp : Sp),σ[j]? = some (some (.ref g)) ∧ FnOk P w K mg base (CXE P w) k g fd ps sp ∧ k ≤ km ∧ Binds K fd ps [] ∧ PySem.W.keepIn K (.ref g) = true ∧
 t σ H fun vs H1 => sp vs H1 (fun _ H2 => D.nx σ H2) fun cls dx H2 => cls = .ref C ∧ ∃ d v,dx = some d ∧ H2 d = some (.xd [(fl,v)]) ∧ D.rt v H2
section
variable {P : Program} {w : World} {X : Cx} {C fI f : Addr} {fd : FuncData} {ps : List Str} {sp : Sp} {k km i j : Nat} {x y n fl : Str} {e : Expr} {es : List Expr} {t : TA} {p pos cpos epos np np2 ap rp hpos : Pos}
end
end L2
end
section
namespace L2
open PySem PySem.Spec PyProof.Rows
def tDUpd (td ty : TE) : TE := fun σ H Q => td σ H fun x H1 => ∃ a,x = .ref a ∧ IsD H1 a ∧ ty σ H1 fun y H2 => ∃ b kvs more,y = .ref b ∧ a ≠ b ∧ H2 a = some (.dK kvs) ∧ H2 b = some (.dK more) ∧ kvs.length + more.length ≤ sizeLine ∧ Q .non (upd H2 a (.dK (jbO kvs more)))
section
variable {X : Cx} {pins : List (Addr × Obj)} {σ : St} {H : Hp} {s : Shared} {a b : Addr} {kvs more : List (Key × V)} {A : Around} {E : Value → Shared → Prop} {o e : Expr} {apos cpos : Pos} {td ty : TE}
theorem jm1 {Q : Value → Shared → Prop} (I : Inv X pins σ H s) (ea : H a = some (.dK kvs)) (eb : H b = some (.dK more)) (ne : a ≠ b) (sz : kvs.length + more.length ≤ sizeLine) (h : ∀ s',Inv X pins σ (upd H a (.dK (jbO kvs more))) s' → Q .none s') :
  wpAny (model X.prog X.w) A (call (.builtin "dict.update") [.ref a,.ref b]) Q E s := by
 obtain ⟨z,hd,vs,rel,dd⟩ := jkq I.hok ea
 obtain ⟨z2,hd2,vs2,rel2,dd2⟩ := jkq I.hok eb
 refine call_meetsIn PySem.F.slot_dict_update dd.typeIs PySem.F.entry_dict_update (PySem.F.args_dict_update_2 _ _) (meets_dict_update (zV X.prog X.w) a b ne hd2)
  ⟨vs,vs2,dd,dd2,by rw [← rel.length,← rel2.length];exact sz,fun h' dd' _ hs => h _ ?_⟩
 have he : ∃ q,h'.get? a = some q := let ⟨q,_,_,hq,_⟩ := dd';⟨q,hq⟩
 exact jfE I (by rw [ea];exact True.intro) hs he (jjs (Nat.le_trans (gw more kvs) sz) hd (rel2.merge rel) dd')
theorem pe_dupd (ho : PE X o td) (he : PE X e ty) (m : M1 X o "update" apos e cpos) : PE X (.Call (.Attribute o "update" apos) [e] [] cpos) (tDUpd td ty) := by
 intro pins s σ H Q I h
 refine wpAny_Call_method m.base m.few m.line PySem.F.plainAttrs_dict PySem.F.slot_dict_update PySem.F.type_dict_update (thn (ho pins s σ H _ I h) fun u s1 ⟨x,H1,I1,rx,a,ex,d,q1⟩ => ?_)
 subst ex
 obtain rfl : u = Value.ref a := rx
 obtain ⟨t1,t2,_⟩ := jmb I1 d
 refine ⟨t1,t2,?_⟩
 rw [m.trees]
 refine Calls.callWith_builtin rfl (Calls.evalArgs_plain (Calls.spliced_cons (thn (he pins s1 σ H1 _ I1 q1) fun iv s2 ⟨y,H2,I2,ry,b,kvs,more,ey,ne,ea,eb,sz,q2⟩ => Calls.spliced_nil ?_)))
 subst ey
 obtain rfl : iv = Value.ref b := ry
 exact jm1 I2 ea eb ne sz fun s3 I3 => ⟨.non,_,I3,rfl,q2⟩
end
def v8 : V → List V → Hp → VK → Prop := fun x vs H Q => ∃ l xs i y,x = .ref l ∧ vs = [.int i,y] ∧ H l = some (.lst xs) ∧ 0 ≤ i ∧ i < 2 ^ 62 ∧ xs.length < sizeLine ∧ Q .non (upd H l (.lst (xs.take i.toNat ++ y :: xs.drop i.toNat)))
end L2
namespace HT
open PySem PySem.Spec PyProof.Rows
section
variable {prog : Program} {w : World} {A : Around} {E : Value → Shared → Prop} {s : Shared}
theorem jcW {sl : Addr} {vk : Value} {n : Nat} {Q : Int × Int × Nat → Shared → Prop} (hs : s.heap.IsSliceOf sl .none .none vk) (pk : IsPart vk (some (-1)))
  (h : Q ((n : Int) - 1,-1,n) s) : wpAny (model prog w) A (Builtin.Slice.sliceApplied (.ref sl) (pure (n : Int))) Q E s := by
 obtain ⟨os,hos,hcs,hds⟩ := id hs
 unfold Builtin.Slice.sliceApplied Builtin.Slice.sliceFields
 refine wpAny_bind (wpAny_bind (wpAny_field hos hds (x := .none) rfl (wpAny_bind (wpAny_field hos hds (x := .none) rfl (wpAny_bind (wpAny_field hos hds (x := vk) rfl (wpAny_pure ?_)))))))
 refine wpAny_bind (jcb pk ?_)
 show wpAny _ _ (if ((-1 : Int) == 0) = true then _ else _) _ _ s
 rw [if_neg (by decide)]
 refine wpAny_bind (slicePart_none (wpAny_bind (slicePart_none (wpAny_bind (wpAny_pure ?_)))))
 show wpAny _ _ (match Builtin.Slice.sliceAdjust none none (-1) (n : Int) with | (lo,hi) => pure (lo,(-1 : Int),Builtin.Slice.slicePlaces lo hi (-1))) _ _ s
 have e : Builtin.Slice.sliceAdjust none none (-1) (n : Int) = ((n : Int) - 1,-1) := rfl
 rw [e]
 show wpAny _ _ (pure ((n : Int) - 1,(-1 : Int),Builtin.Slice.slicePlaces ((n : Int) - 1) (-1) (-1))) _ _ s
 have p : Builtin.Slice.slicePlaces ((n : Int) - 1) (-1) (-1) = n := by
  unfold Builtin.Slice.slicePlaces
  have h1 : ¬ ((-1 : Int) > 0) := by decide
  simp only [h1,if_false]
  split
  ·rw [show (- -1 : Int) = 1 by decide,Int.ediv_one];omega
  ·omega
 rw [p]
 exact wpAny_pure h
theorem jj3 (xs : Array Value) : ((List.range xs.size).filterMap fun (m : Nat) => xs[((xs.size : Int) - 1 + (m : Int) * (-1)).toNat]?).toArray = xs.toList.reverse.toArray := by
 congr 1
 have e := PySem.W.krv_range xs.size
 have e2 : (List.range xs.size).filterMap (fun (m : Nat) => xs[((xs.size : Int) - 1 + (m : Int) * (-1)).toNat]?) = ((List.range xs.size).map fun k => xs.size - 1 - k).filterMap (xs[·]?) := by
  rw [List.filterMap_map]
  have go : ∀ l : List Nat,(∀ m ∈ l,m < xs.size) → l.filterMap (fun (m : Nat) => xs[((xs.size : Int) - 1 + (m : Int) * (-1)).toNat]?) = l.filterMap ((xs[·]?) ∘ fun k => xs.size - 1 - k) := by
   intro l
   induction l with
   | nil => intro _;rfl
   | cons m l ih =>
    intro h
    have hm := h m (by simp)
    have e : ((xs.size : Int) - 1 + (m : Int) * (-1)).toNat = xs.size - 1 - m := by omega
    rw [List.filterMap_cons,List.filterMap_cons,ih fun k hk => h k (by simp [hk]),e]
    rfl
  exact go _ fun m hm => List.mem_range.mp hm
 rw [e2,e,List.filterMap_reverse,PySem.W.krv_all]
theorem getItem_tuple_rev {t sl : Addr} {items : Array Value} {vk : Value} {Q : Value → Shared → Prop} (ht : IsTup s.heap t items) (hs : s.heap.IsSliceOf sl .none .none vk) (pk : IsPart vk (some (-1)))
  (h : Q (.ref s.heap.objs.size) { s with heap := s.heap.push { cls := .type "tuple",data := .seq items.toList.reverse.toArray } })
  (hsz : items.size ≤ sizeLine) : wpAny (model prog w) A (getItem (.ref t) (.ref sl)) Q E s := by
 have htake : sizeOk (.seq items.toList.reverse.toArray) := by
  show items.toList.reverse.toArray.size ≤ sizeLine
  rw [List.size_toArray,List.length_reverse,Array.length_toList]
  exact hsz
 obtain ⟨os,hos,hcs,hds⟩ := id hs
 have hTs : s.TypeIs (.ref sl) "slice" := ⟨os,hos,hcs⟩
 unfold getItem
 try with_reducible refine wpAny_holding ?_
 first | refine wpAny_bind (wpAny_pure ?_) | skip
 refine wpAny_bind (wpAny_sequenceKey ht.typeIs (by decide) ?_)
 refine wpAny_bind (wpAny_callSpecial?_slot (name := Str.ofString "__getitem__") ht.typeIs PyProof.Rows.slot_tuple_getitem
  (wpAny_call_entry PyProof.Rows.slot_tuple_getitem ht.typeIs entry_tuple_getitem ?_ (args_tuple_getitem _ _)))
 show wpAny _ _ (Builtin.Tuple.tupleItemsOf (.ref t) >>= _) _ _ s
 refine wpAny_bind (tupleItemsOf_ ht ?_)
 refine wpAny_bind (wpAny_typeOf hTs ?_)
 rw [if_pos (by decide)]
 refine wpAny_bind (jcW hs pk ?_)
 have hno : ¬ ((((items.size : Int) - 1) == 0 && (-1 : Int) == 1 && items.size == items.size) = true) := by
  intro q
  rw [Bool.and_eq_true,Bool.and_eq_true] at q
  exact absurd q.1.2 (by decide)
 show wpAny _ _ (if (((items.size : Int) - 1) == 0 && (-1 : Int) == 1 && items.size == items.size) = true then _ else _) _ _ s
 rw [if_neg hno,jj3]
 first
  | exact wpAny_bind (m := Builtin.Tuple.tupleExact _) (wpAny_newObj_type (wpAny_pure ⟨_,rfl,wpAny_pure h⟩) htake)
  | exact wpAny_bind (m := Builtin.Tuple.tupleExact _) (wpAny_newObj_type (wpAny_bind (wpAny_pure (wpAny_pure ⟨_,rfl,wpAny_pure h⟩))) htake)
  | exact wpAny_bind (wpAny_bind (m := Builtin.Tuple.tupleExact _) (wpAny_newObj_type (wpAny_pure (wpAny_pure ⟨_,rfl,wpAny_pure h⟩)) htake))
  | exact wpAny_bind (wpAny_bind (m := Builtin.Tuple.tupleExact _) (wpAny_newObj_type (wpAny_pure ⟨_,rfl,wpAny_pure h⟩) htake))
end
end HT
namespace L2
open PySem PySem.Spec PyProof.Rows
section
variable {X : Cx} {e e2 : Expr} {te t2 : TE} {pos p2 : Pos}
def tRevT (K : PySem.W.Frag) (te t2 : TE) : TE := fun σ H Q => te σ H fun x H1 => t2 σ H1 fun y H2 => y = .int (-1) ∧ ∃ a xs,x = .ref a ∧ SqT K H2 a xs ∧ ∀ p H3,H2 p = none → Same H2 H3 → H3 p = some (.tup xs.reverse) → Q (.ref p) H3
theorem pe_revT (he : PE X e te) (h2 : PE X e2 t2) : PE X (.Subscript e (.Slice none none (some e2) p2) pos) (tRevT X.K te t2) := by
 intro pins s σ H Q I h
 refine Subscript_ (thn (he pins s σ H _ I h) fun v s1 ⟨x,H1,I1,r1,q1⟩ => ?_)
 refine wpAny_Slice ?_
 rw [evalPart_none]
 refine wpAny_pure ?_
 refine wpAny_pure ?_
 rw [evalPart_some]
 refine thn (h2 pins s1 σ H1 _ I1 q1) fun vk s3 ⟨y,H3,I3,ry,ey,a,xs,ex,hx,q⟩ => ?_
 subst ey ex
 obtain ⟨tk,rfl⟩ := (show ∃ t,vk = Value.int (-1) t from ry)
 obtain rfl : v = Value.ref a := r1
 have I4 : Inv X pins σ H3 { s3 with heap := s3.heap.push { cls := .type "slice",data := .fields #[.none,.none,.int (-1) tk] } } := I3.kept (t' := s3.toks) fun b ob q => Heap.get?_push_of_some _ q
 obtain ⟨its,r,ht,hz⟩ := I4.tuple hx
 have hlen : its.toArray.size = xs.length := by rw [List.size_toArray];exact r.length.symm
 show wpAny (model X.prog X.w) X.A (subscriptTail e (.Slice none none (some e2) p2) (.ref a) (.ref s3.heap.objs.size)) (EP X pins σ Q) X.xe { s3 with heap := s3.heap.push { cls := .type "slice",data := .fields #[.none,.none,.int (-1) tk] } }
 refine tail_any (ops := [.ref a,.ref s3.heap.objs.size]) ht.typeIs PyProof.Rows.slot_tuple_getitem.lookup ?_ (by with_unfolding_all rfl)
 refine HT.getItem_tuple_rev ht (Heap.IsSliceOf.new ..) (.int _ _) ?_ (by rw [hlen];exact hz)
 have hn := I4.hok.fresh (Nat.le_refl _)
 refine ⟨.ref _,_,I4.laid (t' := s3.toks) (o := .tup xs.reverse) (fun b ob q => Heap.get?_push_of_some _ q) (Nat.le_refl _) ?_,rfl,q _ _ hn (zi hn) jj⟩
 exact ⟨by rw [List.length_reverse];exact hz,_,r.reverse,IsTup.new _ _⟩
end
end L2
namespace L2
open PySem PySem.Spec PyProof.Rows
section
variable {X : Cx} {e : Expr} {st : Stmt} {te : TE} {t : TS}
def tMid (t : TS) : TS := fun D σ H => ∃ mid : St → Hp → Prop,t { D with nx := mid } σ H ∧ ∀ σ' H',mid σ' H' → D.nx σ' H'
theorem ps_mid (h : PS X st t) : PS X st (tMid t) := by
 intro pins s σ H D I ⟨mid,h1,h2⟩
 refine thn (h pins s σ H _ I h1) fun f s1 q => ?_
 cases f with
 | next => obtain ⟨σ',H',I',q'⟩ := q;exact ⟨σ',H',I',h2 _ _ q'⟩
 | brk => exact q
 | cont => exact q
 | ret u => exact q
def tEMid (t : TE) : TE := fun σ H Q => ∃ mid : V → Hp → Prop,t σ H mid ∧ ∀ v H',mid v H' → Q v H'
theorem pe_mid (h : PE X e te) : PE X e (tEMid te) := by
 intro pins s σ H Q I ⟨mid,h1,h2⟩
 exact thn (h pins s σ H _ I h1) fun u s1 ⟨v,H',I',r,q⟩ => ⟨v,H',I',r,h2 _ _ q⟩
end
end L2
namespace L2
theorem zf {t u : TS} {D : Ends} {σ : St} {H : Hp} (h : ∀ R : St → Hp → Prop,(∀ σ' H',u D σ' H' → R σ' H') → t { D with nx := R } σ H) : tSeq (tMid t) u D σ H := ⟨u D,h (u D) (fun _ _ h => h),fun _ _ h => h⟩
theorem ut {t u : TS} {D : Ends} {σ : St} {H : Hp} (mid : St → Hp → Prop) (h1 : t { D with nx := mid } σ H) (h2 : ∀ σ' H',mid σ' H' → u D σ' H') : tSeq (tMid t) u D σ H := ⟨mid,h1,h2⟩
end L2
namespace L2
theorem jeK {t : TS} {D : Ends} {σ : St} {H : Hp} (h : ∀ R : St → Hp → Prop,(∀ σ' H',D.nx σ' H' → R σ' H') → t { D with nx := R } σ H) : tMid t D σ H := ⟨D.nx,h D.nx (fun _ _ h => h),fun _ _ h => h⟩
theorem jl3 {t : TS} {D : Ends} {σ : St} {H : Hp} (mid : St → Hp → Prop) (h1 : t { D with nx := mid } σ H) (h2 : ∀ σ' H',mid σ' H' → D.nx σ' H') : tMid t D σ H := ⟨mid,h1,h2⟩
end L2
end
section
namespace L2
open PySem PySem.Spec PyProof.Rows
def isStar : Expr → Bool
 | .Starred _ _ => true
 | _ => false
def noStar : List Expr → Bool
 | [] => true
 | e :: es => !isStar e && noStar es
theorem v5 {e : Expr} {es : List Expr} {env : Env} (h : isStar e = false) : starEach (e :: es) env = (false,eval e env) :: starEach es env := by
 cases e <;> first | rfl | cases h
theorem jhz {env : Env} : ∀ {es : List Expr},noStar es = true → starEach es env = es.map fun e => (false,eval e env)
 | [],_ => rfl
 | e :: es,h => by
  simp only [noStar,Bool.and_eq_true,Bool.not_eq_true'] at h
  rw [v5 h.1,jhz h.2]
  rfl
theorem jfH {env : Env} {pos : Pos} {es : List Expr} (h : noStar es = true) : backTo pos (starEach es env) = es.map fun e => (false,eval e env) := by
 rw [jhz h]
 unfold backTo
 rw [List.map_map]
 rfl
theorem jcB {env : Env} {pos : Pos} {es : List Expr} (h : noStar es = true) : (backTo pos (starEach es env)).any (·.1) = false := by
 rw [jfH h]
 clear h
 induction es with
 | nil => rfl
 | cons e es ih => rw [List.map_cons,List.any_cons,ih];rfl
theorem jjq {env : Env} {pos : Pos} {es : List Expr} (h : noStar es = true) (l : es.length < 30) : ((backTo pos (starEach es env)).all (fun x => !x.1) && (backToKw pos (keywordEach [] env)).all (fun x => x.1.isSome) && decide (es.length + ([] : List Keyword).length + (if ([] : List Keyword).isEmpty then 0 else 1) < 30)) = true := by
 have h1 : (backTo pos (starEach es env)).all (fun x => !x.1) = true := by
  rw [jfH h]
  clear h l
  induction es with
  | nil => rfl
  | cons e es ih => rw [List.map_cons,List.all_cons,ih];rfl
 rw [h1]
 have h2 : decide (es.length + ([] : List Keyword).length + (if ([] : List Keyword).isEmpty then 0 else 1) < 30) = true := by
  rw [decide_eq_true_eq]
  show es.length + 0 + 0 < 30
  omega
 rw [h2]
 rfl
theorem yb {e : Expr} {es : List Expr} (h : noStar (e :: es) = true) : isStar e = false ∧ noStar es = true := by
 simpa only [noStar,Bool.and_eq_true,Bool.not_eq_true'] using h
section
variable {X : Cx} {e e2 o : Expr} {es : List Expr} {te to : TE} {t : TA} {x name : Str} {id : String} {T : String} {p pos apos cpos : Pos} {r : List V → Hp → VK → Prop} {rm : V → List V → Hp → VK → Prop}
theorem pa_consP (ha : PE X e te) (hr : PA X es t) (h : isStar e = false) : PA X (e :: es) (tCons te t) := jk3 ha hr (v5 h)
theorem pe_callCP {CX : CXT} {k kc : Nat} {ps : List Str} {sp : Sp} {E : XK} (c : Cal X.prog X.w X.K X.mg X.base CX x kc ps sp) (hr : Room k X.A) (hk : kc ≤ k) (hx : Passes CX X E) (ha : PA X (e :: es) t) (hg : Gl X x) (hdb : (x == ("__debug__" : Str)) = false) (h : noStar (e :: es) = true) :
  PE X (.Call (.Name x p) (e :: es) [] pos) (tCallC sp E t) := jj6 c hr hk hx ha hg hdb (v5 (yb h).1) (jcB (yb h).2)
theorem pe_callBP (hc : CallR X (.builtin id) r) (hg : Gl X x) (hm : X.mg x = none) (hv : bootBuiltins x = some (.builtin id)) (ha : PA X (e :: es) t) (hn : x ≠ "__name__") (hdb : (x == ("__debug__" : Str)) = false) (h : noStar (e :: es) = true) :
  PE X (.Call (.Name x p) (e :: es) [] pos) (tCB r t) := jj7 hc hg hm hv ha hn hdb (v5 (yb h).1) (jcB (yb h).2)
theorem pe_callTyP (hc : CallR X (.type T) r) (hg : Gl X x) (hm : X.mg x = none) (hv : bootBuiltins x = some (.type T)) (ha : PA X (e :: es) t) (hn : x ≠ "__name__") (hdb : (x == ("__debug__" : Str)) = false) (h : noStar (e :: es) = true) :
  PE X (.Call (.Name x p) (e :: es) [] pos) (tCB r t) := jiY hc hg hm hv ha hn hdb (v5 (yb h).1) (jcB (yb h).2)
theorem pe_bmP (pa : PlainAttrs T) (slot : Slot T name id) (hty : typeOf (.builtin id) = pure (.type "method_descriptor")) (hm : MtR X id rm) (ho : PE X o to) (ha : PA X (e :: es) t)
  (hbase : attributeBase o name X.env (eval o X.env) = eval o X.env) (hline : (apos.endLine == cpos.line) = true) (h : noStar (e :: es) = true) (l : (e :: es).length < 30) :
  PE X (.Call (.Attribute o name apos) (e :: es) [] cpos) (tBM X.K T rm to t) := jmx pa slot hty hm ho ha hbase (jjq h l) hline (v5 (yb h).1) (jcB (yb h).2)
theorem pi_range1P {a tg : Expr} {ta : TA} (hg : Gl X "range") (hm : X.mg "range" = none) (ha : PA X [a] ta) (h : isStar a = false) : PI X tg (.Call (.Name "range" p) [a] [] pos) (iRng1 ta) := jiX hg hm ha (v5 h)
theorem pi_zipTP {ta : TA} {tpos : Pos} {elts : List Expr} {kk : Nat} (hg : Gl X "zip") (hm : X.mg "zip" = none) (ha : PA X [e,e2] ta) (h : noStar [e,e2] = true) : PI X (.Tuple elts kk tpos) (.Call (.Name "zip" p) [e,e2] [] pos) (iZipT X.K ta) := jk0 hg hm ha (v5 (yb h).1) (jcB (yb h).2)
theorem pi_enumTP {ta : TA} {tpos : Pos} {elts : List Expr} {kk : Nat} (hg : Gl X "enumerate") (hm : X.mg "enumerate" = none) (ha : PA X [e] ta) (h : isStar e = false) : PI X (.Tuple elts kk tpos) (.Call (.Name "enumerate" p) [e] [] pos) (iEnumT X.K ta) := jj5 hg hm ha (v5 h)
theorem jl4 {m : Str} (hb : attributeBase o m X.env (eval o X.env) = eval o X.env) (hl : (apos.endLine == cpos.line) = true) (h : noStar [e] = true) : M1 X o m apos e cpos := ⟨hb,jjq h (by show 1 < 30;decide),hl,jfH h⟩
end
end L2
end
section
namespace L2
open PySem PySem.Spec PyProof.Rows
inductive CX_ where
 | int (i : Int)
 | str (s : Str)
 | bl (b : Bool)
 | non
 | tup (cs : List CX_)
mutual
inductive IsC : Expr → CX_ → Prop
 | int {i : Int} {j : Nat} {pos : Pos} : IsC (.Constant (.int i) j pos) (.int i)
 | neg {i : Int} {j : Nat} {p pos : Pos} : IsC (.UnaryOp .USub (.Constant (.int i) j p) pos) (.int (-i))
 | str {s : Str} {j : Nat} {pos : Pos} : IsC (.Constant (.str s) j pos) (.str s)
 | bl {b : Bool} {j : Nat} {pos : Pos} : IsC (.Constant (.bool b) j pos) (.bl b)
 | non {j : Nat} {pos : Pos} : IsC (.Constant .none j pos) .non
 | tup {es : List Expr} {cs : List CX_} {k : Nat} {pos : Pos} : IsCs es cs → cs.length ≤ 1000 → IsC (.Tuple es k pos) (.tup cs)
inductive IsCs : List Expr → List CX_ → Prop
 | nil : IsCs [] []
 | cons {e : Expr} {es : List Expr} {c : CX_} {cs : List CX_} : IsC e c → IsCs es cs → IsCs (e :: es) (c :: cs)
end
mutual
def AtC (H : Hp) : CX_ → V → Prop
 | .int i,v => v = .int i
 | .str s,v => v = .str s
 | .bl b,v => v = .bl b
 | .non,v => v = .non
 | .tup cs,v => ∃ p vs,v = .ref p ∧ H p = some (.tup vs) ∧ AtCs H cs vs
def AtCs (H : Hp) : List CX_ → List V → Prop
 | [],vs => vs = []
 | c :: cs,vs => ∃ v r,vs = v :: r ∧ AtC H c v ∧ AtCs H cs r
end
theorem AtCs.len {H : Hp} : ∀ {cs : List CX_} {vs : List V},AtCs H cs vs → vs.length = cs.length
 | [],vs,h => by simp only [AtCs] at h;rw [h];rfl
 | c :: cs,vs,h => by
  simp only [AtCs] at h
  obtain ⟨v,r,e,h1,h2⟩ := h
  rw [e,List.length_cons,List.length_cons,AtCs.len h2]
def tCE (c : CX_) : TE := fun _ H Q => ∀ v H2,Same H H2 → AtC H2 c v → Q v H2
def tCEs (cs : List CX_) : TA := fun _ H Q => ∀ vs H2,Same H H2 → AtCs H2 cs vs → Q vs H2
def tCL (cs : List CX_) : TE := fun _ H Q => ∀ p vs H2,H p = none → Same H H2 → H2 p = some (.lst vs) → AtCs H2 cs vs → Q (.ref p) H2
end L2
end
section
namespace L2
open PySem
structure QE (X : Cx) (e : Expr) (t : TE) : Prop where
 h : PE X e t
structure QT (X : Cx) (e : Expr) (t : TT) : Prop where
 h : PT X e t
structure QW (X : Cx) (e : Expr) (t : TT) : Prop where
 h : PW X e t
structure QA (X : Cx) (es : List Expr) (t : TA) : Prop where
 h : PA X es t
structure QS (X : Cx) (st : Stmt) (t : TS) : Prop where
 h : PS X st t
structure QSs (X : Cx) (st : List Stmt) (t : TS) : Prop where
 h : PSs X st t
structure QG (X : Cx) (e : Expr) (t : TG) : Prop where
 h : PG X e t
structure QGs (X : Cx) (es : List Expr) (t : TGs) : Prop where
 h : PGs X es t
structure QI (X : Cx) (e i : Expr) (t : TI) : Prop where
 h : PI X e i t
structure QO (X : Cx) (e : Option Expr) (t : TO) : Prop where
 h : PO X e t
structure QTs (X : Cx) (es : List Expr) (t : TT) : Prop where
 h : PTs X es t
structure QC (X : Cx) (op : CmpOp) (a b : Expr) (t : TE) : Prop where
 h : PC X op a b t
structure QPs (X : Cx) (pos : Pos) (ks : List (Option Expr)) (vs : List Expr) (t : List (TE × TE)) : Prop where
 h : PPs X pos ks vs t
end L2
end
section
namespace L2
open PySem PySem.Spec PyProof.Rows
section
variable {X : Cx}
end
end L2
end
section
namespace L2
open PySem PySem.Spec PyProof.Rows
def tKIdx (P : Program) (w : World) (K : PySem.W.Frag) (td ty : TE) : TE := fun σ H Q => td σ H fun x H1 => ty σ H1 fun y H2 => ∃ a kvs k v u,x = .ref a ∧ KD P w K a kvs ∧ y = kV k ∧ valueAt kvs k = some u ∧ RelV v u ∧ Q v H2
section
variable {X : Cx} {o i e f : Expr} {apos cpos pos : Pos} {td ty tx : TE}
theorem pe_kidx (ho : PE X o td) (hi : PE X i ty) (hs : NoSl i) : PE X (.Subscript o i pos) (tKIdx X.prog X.w X.K td ty) := by
 intro pins s σ H Q I h
 refine jiH PySem.F.slot_dict_getitem.lookup hs (thn (ho pins s σ H _ I h) fun u s1 ⟨x,H1,I1,rx,q1⟩ => thn (hi pins s1 σ H1 _ I1 q1) fun iv s2 ⟨y,H2,I2,ry,a,kvs,k,v,w',ex,d,ey,hv,rv,q2⟩ => ?_)
 subst ex ey
 obtain rfl : u = Value.ref a := rx
 have dd := d.2 _ I2.kIn
 exact ⟨dd.typeIs,wpAny_getItem_of (jen ry) dd.mapOf hv ⟨v,H2,I2.tok _,rv,q2⟩⟩
def jab (td ty tx : TE) : TE := fun σ H Q => td σ H fun x H1 => ∃ a,x = .ref a ∧ IsD H1 a ∧ ty σ H1 fun y H2 => tx σ H2 fun z H3 => ∃ kvs k,H3 a = some (.dK kvs) ∧ y = kV k ∧ kvs.length < sizeLine ∧ (∀ v,valV kvs k = some v → Q v H3) ∧ (valV kvs k = none → Q z (upd H3 a (.dK (putK kvs k z))))
end
def jdy (K : PySem.W.Frag) : List V → Hp → VK → Prop := fun xs H Q => ∃ p ys,xs = [V.ref p] ∧ (SqL K H p ys ∨ SqT K H p ys) ∧ Q (.int ys.length) H
end L2
end
section
namespace L2
theorem jb {X : L2.Cx}{i : Nat}{x : PySem.Str}{pos : PySem.Pos} (hN : @Eq.{1} (Option.{0} PySem.Str) (@GetElem?.getElem?.{0,0,0} (List.{0} PySem.Str) Nat PySem.Str (fun (y0 : List.{0} PySem.Str) (y1 : Nat) => @LT.lt.{0} Nat instLTNat y1 (@List.length.{0} PySem.Str y0)) (@List.instGetElem?NatLtLength.{0} PySem.Str) (L2.Cx.N X) i) (@Option.some.{0} PySem.Str x)) (hv : L2.Vis (PySem.Env.scope (L2.Cx.env X)) x) (hd : @Eq.{1} Bool (@BEq.beq.{0} PySem.Str (@instBEqOfDecidableEq.{0} PySem.Str PySem.instDecidableEqStr) x (PySem.Str.ofString "__debug__")) Bool.false := by first | rfl | (intros;rfl) | decide | assumption) (hcd : @Eq.{1} Bool (@BEq.beq.{0} PySem.Str (@instBEqOfDecidableEq.{0} PySem.Str PySem.instDecidableEqStr) x (PySem.Str.ofString "__classdict__")) Bool.false := by first | rfl | (intros;rfl) | decide | assumption) : L2.QE X (PySem.Expr.Name x pos) (L2.tVar i) := ⟨@L2.pe_var X i x pos hN hv hd hcd⟩
theorem zd {X : L2.Cx}{x : PySem.Str}{v : L2.V}{u : PySem.Value}{pos : PySem.Pos} (hg : L2.Gl X x) (hm : @Eq.{1} (Option.{0} PySem.Value) (L2.Cx.mg X x) (@Option.some.{0} PySem.Value u)) (r : L2.RelV v u) (hd : @Eq.{1} Bool (@BEq.beq.{0} PySem.Str (@instBEqOfDecidableEq.{0} PySem.Str PySem.instDecidableEqStr) x (PySem.Str.ofString "__debug__")) Bool.false := by first | rfl | (intros;rfl) | decide | assumption) : L2.QE X (PySem.Expr.Name x pos) (L2.tC v) := ⟨@L2.pe_glob X x v u pos hg hm r hd⟩
theorem jL {X : L2.Cx}{x : PySem.Str}{v : L2.V}{u : PySem.Value}{pos : PySem.Pos} (hg : L2.Gl X x) (hm : @Eq.{1} (Option.{0} PySem.Value) (L2.Cx.mg X x) (@Option.none.{0} PySem.Value)) (hv : @Eq.{1} (Option.{0} PySem.Value) (PySem.bootBuiltins x) (@Option.some.{0} PySem.Value u)) (r : L2.RelV v u) (hn : @Ne.{1} PySem.Str x (PySem.Str.ofString "__name__") := by first | rfl | (intros;rfl) | decide | assumption) (hd : @Eq.{1} Bool (@BEq.beq.{0} PySem.Str (@instBEqOfDecidableEq.{0} PySem.Str PySem.instDecidableEqStr) x (PySem.Str.ofString "__debug__")) Bool.false := by first | rfl | (intros;rfl) | decide | assumption) : L2.QE X (PySem.Expr.Name x pos) (L2.tC v) := ⟨@L2.pe_bltn X x v u pos hg hm hv r hn hd⟩
theorem zD {X : L2.Cx}{j : Nat}{pos : PySem.Pos} : L2.QE X (PySem.Expr.Constant PySem.Const.none j pos) (L2.tC L2.V.non) := ⟨@L2.pe_non X j pos⟩
theorem yL {X : L2.Cx}{b : Bool}{j : Nat}{pos : PySem.Pos} : L2.QE X (PySem.Expr.Constant (PySem.Const.bool b) j pos) (L2.tC (L2.V.bl b)) := ⟨@L2.pe_bl X b j pos⟩
theorem jd {X : L2.Cx}{i : Int}{j : Nat}{pos : PySem.Pos} : L2.QE X (PySem.Expr.Constant (PySem.Const.int i) j pos) (L2.tC (L2.V.int i)) := ⟨@L2.pe_int X i j pos⟩
theorem ju {X : L2.Cx}{x : PySem.Str}{j : Nat}{pos : PySem.Pos} : L2.QE X (PySem.Expr.Constant (PySem.Const.str x) j pos) (L2.tC (L2.V.str x)) := ⟨@L2.pe_str X x j pos⟩
theorem uD {X : L2.Cx}{a : PySem.Expr}{ta : L2.TE}{pos : PySem.Pos}{op : PySem.UnaryOp}{r : (y0 : L2.V) → (y1 : L2.Hp) → (y2 : L2.VK) → Prop} (ho : L2.UnR X (PySem.unaryOp op) r) (ha : L2.QE X a ta) : L2.QE X (PySem.Expr.UnaryOp op a pos) (L2.tUn r ta) := ⟨@L2.pe_un X a ta pos op r ho ha.h⟩
theorem je3 {X : L2.Cx}{a : PySem.Expr}{ta : L2.TE}{pos : PySem.Pos} (ha : L2.QE X a ta) : L2.QE X (PySem.Expr.UnaryOp PySem.UnaryOp.Not a pos) (L2.tNotV ta) := ⟨@L2.pe_not X a ta pos ha.h⟩
theorem jz {X : L2.Cx}{a : PySem.Expr}{b : PySem.Expr}{ta : L2.TE}{tb : L2.TE}{pos : PySem.Pos}{op : PySem.Operator}{r : L2.R2} (ho : L2.OpR X (PySem.binaryOp op) r) (ha : L2.QE X a ta) (hb : L2.QE X b tb) : L2.QE X (PySem.Expr.BinOp a op b pos) (L2.tOp r ta tb) := ⟨@L2.pe_op X a b ta tb pos op r ho ha.h hb.h⟩
theorem yj {X : L2.Cx}{a : PySem.Expr}{b : PySem.Expr}{ta : L2.TE}{tb : L2.TE}{pos : PySem.Pos}{rest : List.{0} PySem.Expr} (ha : L2.QE X a ta) (hb : L2.QE X (PySem.Expr.BoolOp PySem.BoolOp.And (@List.cons.{0} PySem.Expr b rest) pos) tb) : L2.QE X (PySem.Expr.BoolOp PySem.BoolOp.And (@List.cons.{0} PySem.Expr a (@List.cons.{0} PySem.Expr b rest)) pos) (L2.tAndV ta tb) := ⟨@L2.pe_and X a b ta tb pos rest ha.h hb.h⟩
theorem jkX {X : L2.Cx}{a : PySem.Expr}{b : PySem.Expr}{ta : L2.TE}{tb : L2.TE}{pos : PySem.Pos}{rest : List.{0} PySem.Expr} (ha : L2.QE X a ta) (hb : L2.QE X (PySem.Expr.BoolOp PySem.BoolOp.Or (@List.cons.{0} PySem.Expr b rest) pos) tb) : L2.QE X (PySem.Expr.BoolOp PySem.BoolOp.Or (@List.cons.{0} PySem.Expr a (@List.cons.{0} PySem.Expr b rest)) pos) (L2.tOrV ta tb) := ⟨@L2.pe_or X a b ta tb pos rest ha.h hb.h⟩
theorem yx {X : L2.Cx}{a : PySem.Expr}{pos : PySem.Pos}{op : PySem.BoolOp}{t : L2.TE} (h : L2.QE X a t) : L2.QE X (PySem.Expr.BoolOp op (@List.cons.{0} PySem.Expr a (@List.nil.{0} PySem.Expr)) pos) t := ⟨@L2.pe_one X a pos op t h.h⟩
theorem zt {X : L2.Cx}{a : PySem.Expr}{b : PySem.Expr}{ta : L2.TE}{tb : L2.TE}{pos : PySem.Pos}{op : PySem.CmpOp}{r : L2.R2} (ho : L2.OpR X (PySem.compareOp op) r) (ha : L2.QE X a ta) (hb : L2.QE X b tb) (hm : @Eq.{1} Bool (PySem.behindInMarks op b) Bool.false) : L2.QE X (PySem.Expr.Compare a (@List.cons.{0} PySem.CmpOp op (@List.nil.{0} PySem.CmpOp)) (@List.cons.{0} PySem.Expr b (@List.nil.{0} PySem.Expr)) pos) (L2.tOp r ta tb) := ⟨@L2.pe_cmpR X a b ta tb pos op r ho ha.h hb.h hm⟩
theorem jeF {X : L2.Cx}{a : PySem.Expr}{b : PySem.Expr}{c : PySem.Expr}{ta : L2.TE}{tb : L2.TE}{tc : L2.TE}{pos : PySem.Pos}{op : PySem.CmpOp}{z0 : PySem.CmpOp}{r : L2.R2}{z1 : L2.R2} (ho : L2.OpR X (PySem.compareOp op) r) (z2 : L2.OpR X (PySem.compareOp z0) z1) (ha : L2.QE X a ta) (hb : L2.QE X b tb) (hc : L2.QE X c tc) (hm : @Eq.{1} Bool (PySem.lastMarks (@List.cons.{0} PySem.CmpOp op (@List.cons.{0} PySem.CmpOp z0 (@List.nil.{0} PySem.CmpOp))) (@List.cons.{0} PySem.Expr b (@List.cons.{0} PySem.Expr c (@List.nil.{0} PySem.Expr)))) Bool.false := by first | rfl | (intros;rfl) | decide | assumption) : L2.QE X (PySem.Expr.Compare a (@List.cons.{0} PySem.CmpOp op (@List.cons.{0} PySem.CmpOp z0 (@List.nil.{0} PySem.CmpOp))) (@List.cons.{0} PySem.Expr b (@List.cons.{0} PySem.Expr c (@List.nil.{0} PySem.Expr))) pos) (L2.tChain r z1 ta tb tc) := ⟨@L2.pe_chain X a b c ta tb tc pos op z0 r z1 ho z2 ha.h hb.h hc.h hm⟩
theorem zR {X : L2.Cx}{a : PySem.Expr}{b : PySem.Expr}{ta : L2.TE}{tb : L2.TE}{pos : PySem.Pos}{tA : L2.TT}{c : PySem.Expr} (hc : L2.QT X c tA) (ha : L2.QE X a ta) (hb : L2.QE X b tb) : L2.QE X (PySem.Expr.IfExp c a b pos) (L2.tIf tA ta tb) := ⟨@L2.pe_ifExp X a b ta tb pos tA c hc.h ha.h hb.h⟩
theorem jW {X : L2.Cx}{es : List.{0} PySem.Expr}{pos : PySem.Pos}{x1 : Nat}{t : L2.TA} (h : L2.QA X es t) : L2.QE X (PySem.Expr.Tuple es x1 pos) (L2.tTupN t) := ⟨@L2.pe_tupN X es pos x1 t h.h⟩
theorem jj0 {X : L2.Cx}{es : List.{0} PySem.Expr}{t : L2.TA}{pos : PySem.Pos} (h : L2.QA X es t) : L2.QE X (PySem.Expr.List es pos) (L2.tLst t) := ⟨@L2.pe_lst X es t pos h.h⟩
theorem zc {X : L2.Cx}{es : List.{0} PySem.Expr}{pos : PySem.Pos}{t : L2.TA} (h : L2.QA X es t) : L2.QE X (PySem.Expr.List es pos) (L2.tLstN t) := ⟨@L2.pe_lstN X es pos t h.h⟩
theorem uP {X : L2.Cx}{e : PySem.Expr}{te : L2.TE}{lo : Option.{0} PySem.Expr}{hi : Option.{0} PySem.Expr}{tl : L2.TO}{th : L2.TO}{pos : PySem.Pos}{p2 : PySem.Pos}{r : (y0 : L2.V) → (y1 y2 : Option.{0} Int) → (y3 : L2.Hp) → (y4 : L2.VK) → Prop} (hr : L2.SlR X r) (he : L2.QE X e te) (hl : L2.QO X lo tl) (hu : L2.QO X hi th) : L2.QE X (PySem.Expr.Subscript e (PySem.Expr.Slice lo hi (@Option.none.{0} PySem.Expr) p2) pos) (L2.tSl r te tl th) := ⟨@L2.pe_slice X e te lo hi tl th pos p2 r hr he.h hl.h hu.h⟩
theorem jiS {X : L2.Cx}{e : PySem.Expr}{e2 : PySem.Expr}{te : L2.TE}{t2 : L2.TE}{pos : PySem.Pos}{p2 : PySem.Pos} (he : L2.QE X e te) (h2 : L2.QE X e2 t2) : L2.QE X (PySem.Expr.Subscript e (PySem.Expr.Slice (@Option.none.{0} PySem.Expr) (@Option.none.{0} PySem.Expr) (@Option.some.{0} PySem.Expr e2) p2) pos) (L2.tRevT (L2.Cx.K X) te t2) := ⟨@L2.pe_revT X e e2 te t2 pos p2 he.h h2.h⟩
theorem vc {X : L2.Cx}{o : PySem.Expr}{i : PySem.Expr}{pos : PySem.Pos}{td : L2.TE}{ty : L2.TE} (hu : @LT.lt.{0} Nat instLTNat (@HAdd.hAdd.{0,0,0} Nat Nat Nat (@instHAdd.{0} Nat instAddNat) (PySem.Around.units (L2.Cx.A X)) (@OfNat.ofNat.{0} Nat (nat_lit 1) (instOfNatNat (nat_lit 1)))) PySem.cLine) (ho : L2.QE X o td) (hi : L2.QE X i ty) (hs : L2.NoSl i) : L2.QE X (PySem.Expr.Subscript o i pos) (L2.tDGet td ty) := ⟨@L2.pe_dget X o i pos td ty hu ho.h hi.h hs⟩
theorem jC {X : L2.Cx}{a : PySem.Expr}{b : PySem.Expr}{ta : L2.TE}{tb : L2.TE}{pos : PySem.Pos}{r : L2.R2} (hr : L2.IxR X r) (ha : L2.QE X a ta) (hb : L2.QE X b tb) (hs : L2.PlainIx b) : L2.QE X (PySem.Expr.Subscript a b pos) (L2.tOp r ta tb) := ⟨@L2.pe_ix X a b ta tb pos r hr ha.h hb.h hs⟩
theorem jeE {X : L2.Cx}{pos : PySem.Pos}{keys : List.{0} (Option.{0} PySem.Expr)}{values : List.{0} PySem.Expr}{trs : List.{0} (Prod.{0,0} L2.TE L2.TE)} (h : L2.QPs X pos keys values trs) (hall : @Eq.{1} Bool (@List.all.{0} (Option.{0} PySem.Expr) keys fun (y0 : Option.{0} PySem.Expr) => @Option.isSome.{0} PySem.Expr y0) Bool.true) (hl : @Eq.{1} Nat (@List.length.{0} (Option.{0} PySem.Expr) keys) (@List.length.{0} PySem.Expr values)) (h0 : @Ne.{1} (List.{0} (Option.{0} PySem.Expr)) keys (@List.nil.{0} (Option.{0} PySem.Expr))) (h15 : @LE.le.{0} Nat instLENat (@List.length.{0} (Option.{0} PySem.Expr) keys) (@OfNat.ofNat.{0} Nat (nat_lit 15) (instOfNatNat (nat_lit 15)))) : L2.QE X (PySem.Expr.Dict keys values pos) (L2.tDispN trs) := ⟨@L2.pe_dispN X pos keys values trs h.h hall hl h0 h15⟩
theorem jfV {X : L2.Cx}{pos : PySem.Pos} : L2.QPs X pos (@List.nil.{0} (Option.{0} PySem.Expr)) (@List.nil.{0} PySem.Expr) (@List.nil.{0} (Prod.{0,0} L2.TE L2.TE)) := ⟨@L2.pps_nil X pos⟩
theorem uO {X : L2.Cx}{pos : PySem.Pos}{k : PySem.Expr}{v : PySem.Expr}{ks : List.{0} (Option.{0} PySem.Expr)}{vs : List.{0} PySem.Expr}{tk : L2.TE}{tv : L2.TE}{trs : List.{0} (Prod.{0,0} L2.TE L2.TE)} (hk : L2.QE X k tk) (hv : L2.QE X v tv) (hr : L2.QPs X pos ks vs trs) : L2.QPs X pos (@List.cons.{0} (Option.{0} PySem.Expr) (@Option.some.{0} PySem.Expr k) ks) (@List.cons.{0} PySem.Expr v vs) (@List.cons.{0} (Prod.{0,0} L2.TE L2.TE) (@Prod.mk.{0,0} L2.TE L2.TE tk tv) trs) := ⟨@L2.pps_cons X pos k v ks vs tk tv trs hk.h hv.h hr.h⟩
theorem jak {X : L2.Cx}{elt : PySem.Expr}{tg : PySem.Expr}{iter : PySem.Expr}{ifs : List.{0} PySem.Expr}{scope : PySem.Scope}{own : List.{0} (Prod.{0,0} PySem.Str Nat)}{pos : PySem.Pos}{wi : L2.TI}{g : L2.TG}{tt : L2.TT}{te : L2.TE} (hc : @Eq.{1} Bool (L2.Cx.calm X) Bool.true) (hN : @List.Nodup.{0} PySem.Str (L2.Cx.N X)) (hi : L2.QI X tg iter wi) (ok : L2.BlkOk (L2.Cx.N X) (PySem.Env.scope (L2.Cx.env X)) scope own) (hg : ∀ (y0 : PySem.Shared) (y1 : L2.Hp) (y2 : PySem.Addr) (y3 : List.{0} (Prod.{0,0} PySem.Str PySem.Addr)) (y4 : List.{0} PySem.Addr),L2.QG (L2.Cx.blk X y0 y1 scope (PySem.compEnvC scope y3 y2 (L2.Cx.env X)) y4) tg g) (ht : ∀ (y5 : PySem.Shared) (y6 : L2.Hp) (y7 : PySem.Addr) (y8 : List.{0} (Prod.{0,0} PySem.Str PySem.Addr)) (y9 : List.{0} PySem.Addr),L2.QTs (L2.Cx.blk X y5 y6 scope (PySem.compEnvC scope y8 y7 (L2.Cx.env X)) y9) ifs tt) (he : ∀ (y10 : PySem.Shared) (y11 : L2.Hp) (y12 : PySem.Addr) (y13 : List.{0} (Prod.{0,0} PySem.Str PySem.Addr)) (y14 : List.{0} PySem.Addr),L2.QE (L2.Cx.blk X y10 y11 scope (PySem.compEnvC scope y13 y12 (L2.Cx.env X)) y14) elt te) (hs : ∀ (y15 : PySem.Value),@Eq.{1} (PySem.Sem PySem.Value) (PySem.foldedSetIterable iter (L2.Cx.env X) y15) (@Pure.pure.{0,0} PySem.Sem (@Applicative.toPure.{0,0} PySem.Sem (@Monad.toApplicative.{0,0} PySem.Sem PySem.Sem.instMonad)) PySem.Value y15) := by first | rfl | (intros;rfl) | decide | assumption) : L2.QE X (PySem.Expr.ListComp elt (@List.cons.{0} PySem.Comprehension (PySem.Comprehension.mk tg iter ifs (@OfNat.ofNat.{0} Int (nat_lit 0) (@instOfNat (nat_lit 0)))) (@List.nil.{0} PySem.Comprehension)) scope pos) (L2.tLc wi g tt te (@List.map.{0,0} (Prod.{0,0} PySem.Str Nat) Nat (fun (y16 : Prod.{0,0} PySem.Str Nat) => @Prod.snd.{0,0} PySem.Str Nat y16) own)) := ⟨@L2.pe_lc X elt tg iter ifs scope own pos wi g tt te hc hN hi.h ok (fun w0 w1 w2 w3 w4 => (hg w0 w1 w2 w3 w4).h) (fun w0 w1 w2 w3 w4 => (ht w0 w1 w2 w3 w4).h) (fun w0 w1 w2 w3 w4 => (he w0 w1 w2 w3 w4).h) hs⟩
theorem zP {X : L2.Cx} : L2.QTs X (@List.nil.{0} PySem.Expr) L2.tYes := ⟨@L2.pts_nil X⟩
theorem jaM {X : L2.Cx}{e : PySem.Expr}{o : PySem.Expr}{es : List.{0} PySem.Expr}{to : L2.TE}{t : L2.TA}{name : PySem.Str}{id : String}{T : String}{apos : PySem.Pos}{cpos : PySem.Pos}{rm : (y0 : L2.V) → (y1 : List.{0} L2.V) → (y2 : L2.Hp) → (y3 : L2.VK) → Prop} (pa : PySem.PlainAttrs T) (slot : PySem.Slot T name id) (hty : @Eq.{1} (PySem.Sem PySem.Value) (PySem.typeOf (PySem.Value.builtin id)) (@Pure.pure.{0,0} PySem.Sem (@Applicative.toPure.{0,0} PySem.Sem (@Monad.toApplicative.{0,0} PySem.Sem PySem.Sem.instMonad)) PySem.Value (PySem.Value.type "method_descriptor"))) (hm : L2.MtR X id rm) (ho : L2.QE X o to) (ha : L2.QA X (@List.cons.{0} PySem.Expr e es) t) (hbase : @Eq.{1} (PySem.Sem PySem.Value) (PySem.attributeBase o name (L2.Cx.env X) (PySem.eval o (L2.Cx.env X))) (PySem.eval o (L2.Cx.env X))) (hline : @Eq.{1} Bool (@BEq.beq.{0} Nat (@instBEqOfDecidableEq.{0} Nat instDecidableEqNat) (PySem.Pos.endLine apos) (PySem.Pos.line cpos)) Bool.true) (h : @Eq.{1} Bool (L2.noStar (@List.cons.{0} PySem.Expr e es)) Bool.true) (l : @LT.lt.{0} Nat instLTNat (@List.length.{0} PySem.Expr (@List.cons.{0} PySem.Expr e es)) (@OfNat.ofNat.{0} Nat (nat_lit 30) (instOfNatNat (nat_lit 30)))) : L2.QE X (PySem.Expr.Call (PySem.Expr.Attribute o name apos) (@List.cons.{0} PySem.Expr e es) (@List.nil.{0} PySem.Keyword) cpos) (L2.tBM (L2.Cx.K X) T rm to t) := ⟨@L2.pe_bmP X e o es to t name id T apos cpos rm pa slot hty hm ho.h ha.h hbase hline h l⟩
theorem jiU {X : L2.Cx}{o : PySem.Expr}{e : PySem.Expr}{apos : PySem.Pos}{cpos : PySem.Pos}{td : L2.TE}{ty : L2.TE} (ho : L2.QE X o td) (he : L2.QE X e ty) (m : L2.M1 X o (PySem.Str.ofString "get") apos e cpos) : L2.QE X (PySem.Expr.Call (PySem.Expr.Attribute o (PySem.Str.ofString "get") apos) (@List.cons.{0} PySem.Expr e (@List.nil.{0} PySem.Expr)) (@List.nil.{0} PySem.Keyword) cpos) (L2.tKGet (L2.Cx.prog X) (L2.Cx.w X) (L2.Cx.K X) td ty) := ⟨@L2.pe_kget X o e apos cpos td ty ho.h he.h m⟩
theorem jiV {X : L2.Cx}{o : PySem.Expr}{e : PySem.Expr}{apos : PySem.Pos}{cpos : PySem.Pos}{td : L2.TE}{ty : L2.TE} (ho : L2.QE X o td) (he : L2.QE X e ty) (m : L2.M1 X o (PySem.Str.ofString "update") apos e cpos) : L2.QE X (PySem.Expr.Call (PySem.Expr.Attribute o (PySem.Str.ofString "update") apos) (@List.cons.{0} PySem.Expr e (@List.nil.{0} PySem.Expr)) (@List.nil.{0} PySem.Keyword) cpos) (L2.tDUpd td ty) := ⟨@L2.pe_dupd X o e apos cpos td ty ho.h he.h m⟩
theorem jh {X : L2.Cx}{e : PySem.Expr}{es : List.{0} PySem.Expr}{t : L2.TA}{x : PySem.Str}{id : String}{p : PySem.Pos}{pos : PySem.Pos}{r : (y0 : List.{0} L2.V) → (y1 : L2.Hp) → (y2 : L2.VK) → Prop} (hc : L2.CallR X (PySem.Value.builtin id) r) (hg : L2.Gl X x) (hm : @Eq.{1} (Option.{0} PySem.Value) (L2.Cx.mg X x) (@Option.none.{0} PySem.Value)) (hv : @Eq.{1} (Option.{0} PySem.Value) (PySem.bootBuiltins x) (@Option.some.{0} PySem.Value (PySem.Value.builtin id))) (ha : L2.QA X (@List.cons.{0} PySem.Expr e es) t) (hn : @Ne.{1} PySem.Str x (PySem.Str.ofString "__name__")) (hdb : @Eq.{1} Bool (@BEq.beq.{0} PySem.Str (@instBEqOfDecidableEq.{0} PySem.Str PySem.instDecidableEqStr) x (PySem.Str.ofString "__debug__")) Bool.false) (h : @Eq.{1} Bool (L2.noStar (@List.cons.{0} PySem.Expr e es)) Bool.true) : L2.QE X (PySem.Expr.Call (PySem.Expr.Name x p) (@List.cons.{0} PySem.Expr e es) (@List.nil.{0} PySem.Keyword) pos) (L2.tCB r t) := ⟨@L2.pe_callBP X e es t x id p pos r hc hg hm hv ha.h hn hdb h⟩
theorem jX {X : L2.Cx}{e : PySem.Expr}{es : List.{0} PySem.Expr}{t : L2.TA}{x : PySem.Str}{T : String}{p : PySem.Pos}{pos : PySem.Pos}{r : (y0 : List.{0} L2.V) → (y1 : L2.Hp) → (y2 : L2.VK) → Prop} (hc : L2.CallR X (PySem.Value.type T) r) (hg : L2.Gl X x) (hm : @Eq.{1} (Option.{0} PySem.Value) (L2.Cx.mg X x) (@Option.none.{0} PySem.Value)) (hv : @Eq.{1} (Option.{0} PySem.Value) (PySem.bootBuiltins x) (@Option.some.{0} PySem.Value (PySem.Value.type T))) (ha : L2.QA X (@List.cons.{0} PySem.Expr e es) t) (hn : @Ne.{1} PySem.Str x (PySem.Str.ofString "__name__")) (hdb : @Eq.{1} Bool (@BEq.beq.{0} PySem.Str (@instBEqOfDecidableEq.{0} PySem.Str PySem.instDecidableEqStr) x (PySem.Str.ofString "__debug__")) Bool.false) (h : @Eq.{1} Bool (L2.noStar (@List.cons.{0} PySem.Expr e es)) Bool.true) : L2.QE X (PySem.Expr.Call (PySem.Expr.Name x p) (@List.cons.{0} PySem.Expr e es) (@List.nil.{0} PySem.Keyword) pos) (L2.tCB r t) := ⟨@L2.pe_callTyP X e es t x T p pos r hc hg hm hv ha.h hn hdb h⟩
theorem jg {X : L2.Cx}{e : PySem.Expr}{es : List.{0} PySem.Expr}{t : L2.TA}{x : PySem.Str}{p : PySem.Pos}{pos : PySem.Pos}{CX : L2.CXT}{k : Nat}{kc : Nat}{ps : List.{0} PySem.Str}{sp : L2.Sp}{E : L2.XK} (c : L2.Cal (L2.Cx.prog X) (L2.Cx.w X) (L2.Cx.K X) (L2.Cx.mg X) (L2.Cx.base X) CX x kc ps sp) (hr : L2.Room k (L2.Cx.A X)) (hk : @LE.le.{0} Nat instLENat kc k) (hx : L2.Passes CX X E) (ha : L2.QA X (@List.cons.{0} PySem.Expr e es) t) (hg : L2.Gl X x) (hdb : @Eq.{1} Bool (@BEq.beq.{0} PySem.Str (@instBEqOfDecidableEq.{0} PySem.Str PySem.instDecidableEqStr) x (PySem.Str.ofString "__debug__")) Bool.false) (h : @Eq.{1} Bool (L2.noStar (@List.cons.{0} PySem.Expr e es)) Bool.true) : L2.QE X (PySem.Expr.Call (PySem.Expr.Name x p) (@List.cons.{0} PySem.Expr e es) (@List.nil.{0} PySem.Keyword) pos) (L2.tCallC sp E t) := ⟨@L2.pe_callCP X e es t x p pos CX k kc ps sp E c hr hk hx ha.h hg hdb h⟩
theorem jhI {X : L2.Cx}{e : PySem.Expr}{te : L2.TE} (h : L2.QE X e te) : L2.QE X e (L2.tEMid te) := ⟨@L2.pe_mid X e te h.h⟩
theorem jc {X : L2.Cx} : L2.QA X (@List.nil.{0} PySem.Expr) L2.tNil := ⟨@L2.pa_nil X⟩
theorem ja {X : L2.Cx}{e : PySem.Expr}{es : List.{0} PySem.Expr}{te : L2.TE}{t : L2.TA} (ha : L2.QE X e te) (hr : L2.QA X es t) (h : @Eq.{1} Bool (L2.isStar e) Bool.false) : L2.QA X (@List.cons.{0} PySem.Expr e es) (L2.tCons te t) := ⟨@L2.pa_consP X e es te t ha.h hr.h h⟩
theorem jv {X : L2.Cx}{a : PySem.Expr}{b : PySem.Expr}{ta : L2.TE}{tb : L2.TE}{pos : PySem.Pos}{op : PySem.CmpOp}{r : L2.R2} (ho : L2.OpR X (PySem.compareOp op) r) (ha : L2.QE X a ta) (hb : L2.QE X b tb) (hm : @Eq.{1} Bool (PySem.behindInMarks op b) Bool.false) : L2.QT X (PySem.Expr.Compare a (@List.cons.{0} PySem.CmpOp op (@List.nil.{0} PySem.CmpOp)) (@List.cons.{0} PySem.Expr b (@List.nil.{0} PySem.Expr)) pos) (L2.tTest (L2.tOp r ta tb)) := ⟨@L2.pt_cmpR X a b ta tb pos op r ho ha.h hb.h hm⟩
theorem jeC {X : L2.Cx}{a : PySem.Expr}{b : PySem.Expr}{c : PySem.Expr}{ta : L2.TE}{tb : L2.TE}{tc : L2.TE}{pos : PySem.Pos}{op : PySem.CmpOp}{z0 : PySem.CmpOp}{r : L2.R2}{z1 : L2.R2} (ho : L2.OpR X (PySem.compareOp op) r) (z2 : L2.OpR X (PySem.compareOp z0) z1) (ha : L2.QE X a ta) (hb : L2.QE X b tb) (hc : L2.QE X c tc) (hm : @Eq.{1} Bool (PySem.lastMarks (@List.cons.{0} PySem.CmpOp op (@List.cons.{0} PySem.CmpOp z0 (@List.nil.{0} PySem.CmpOp))) (@List.cons.{0} PySem.Expr b (@List.cons.{0} PySem.Expr c (@List.nil.{0} PySem.Expr)))) Bool.false := by first | rfl | (intros;rfl) | decide | assumption) : L2.QT X (PySem.Expr.Compare a (@List.cons.{0} PySem.CmpOp op (@List.cons.{0} PySem.CmpOp z0 (@List.nil.{0} PySem.CmpOp))) (@List.cons.{0} PySem.Expr b (@List.cons.{0} PySem.Expr c (@List.nil.{0} PySem.Expr))) pos) (L2.tTest (L2.tChain r z1 ta tb tc)) := ⟨@L2.pt_chain X a b c ta tb tc pos op z0 r z1 ho z2 ha.h hb.h hc.h hm⟩
theorem j7 {X : L2.Cx}{e : PySem.Expr}{t : L2.TE} (h : L2.QE X e t) (he : ∀ (y0 : PySem.Sem PySem.Value),@Eq.{1} (PySem.Sem Bool) (PySem.isTrue e (L2.Cx.env X) y0) (@Bind.bind.{0,0} PySem.Sem (@Monad.toBind.{0,0} PySem.Sem PySem.Sem.instMonad) PySem.Value Bool y0 fun (y1 : PySem.Value) => @Bind.bind.{0,0} PySem.Sem (@Monad.toBind.{0,0} PySem.Sem PySem.Sem.instMonad) Unit Bool (PySem.standAt (PySem.Expr.pos e)) fun (y2 : Unit) => @PySem.holding Bool (@List.cons.{0} PySem.Value y1 (@List.nil.{0} PySem.Value)) (PySem.truthy y1)) := by first | rfl | (intros;rfl) | decide | assumption) : L2.QT X e (L2.tB t) := ⟨@L2.pt_val X e t h.h he⟩
theorem zr {X : L2.Cx}{a : PySem.Expr}{pos : PySem.Pos}{tA : L2.TT} (ha : L2.QT X a tA) : L2.QT X (PySem.Expr.UnaryOp PySem.UnaryOp.Not a pos) (L2.tNot tA) := ⟨@L2.pt_not X a pos tA ha.h⟩
theorem jbD {X : L2.Cx}{a : PySem.Expr}{b : PySem.Expr}{pos : PySem.Pos}{tA : L2.TT}{z0 : L2.TT}{rest : List.{0} PySem.Expr} (ha : L2.QT X a tA) (hb : L2.QW X (PySem.Expr.BoolOp PySem.BoolOp.And (@List.cons.{0} PySem.Expr b rest) pos) z0) : L2.QW X (PySem.Expr.BoolOp PySem.BoolOp.And (@List.cons.{0} PySem.Expr a (@List.cons.{0} PySem.Expr b rest)) pos) (L2.tAnd tA z0) := ⟨@L2.pw_and X a b pos tA z0 rest ha.h hb.h⟩
theorem vb {X : L2.Cx}{a : PySem.Expr}{b : PySem.Expr}{pos : PySem.Pos}{tA : L2.TT}{z0 : L2.TT}{rest : List.{0} PySem.Expr} (ha : L2.QT X a tA) (hb : L2.QW X (PySem.Expr.BoolOp PySem.BoolOp.Or (@List.cons.{0} PySem.Expr b rest) pos) z0) : L2.QW X (PySem.Expr.BoolOp PySem.BoolOp.Or (@List.cons.{0} PySem.Expr a (@List.cons.{0} PySem.Expr b rest)) pos) (L2.tOr tA z0) := ⟨@L2.pw_or X a b pos tA z0 rest ha.h hb.h⟩
theorem jah {X : L2.Cx}{a : PySem.Expr}{pos : PySem.Pos}{tA : L2.TT} (ha : L2.QT X a tA) : L2.QW X (PySem.Expr.BoolOp PySem.BoolOp.And (@List.cons.{0} PySem.Expr a (@List.nil.{0} PySem.Expr)) pos) tA := ⟨@L2.pw_and1 X a pos tA ha.h⟩
theorem va {X : L2.Cx}{a : PySem.Expr}{pos : PySem.Pos}{tA : L2.TT} (ha : L2.QT X a tA) : L2.QW X (PySem.Expr.BoolOp PySem.BoolOp.Or (@List.cons.{0} PySem.Expr a (@List.nil.{0} PySem.Expr)) pos) tA := ⟨@L2.pw_or1 X a pos tA ha.h⟩
theorem yD {X : L2.Cx}{e : PySem.Expr}{t : L2.TT} (h : L2.QW X e t) : L2.QT X e t := ⟨@L2.PW.pt X e t h.h⟩
theorem jp {X : L2.Cx}{pos : PySem.Pos}{i : Nat}{x : PySem.Str} (hN : @List.Nodup.{0} PySem.Str (L2.Cx.N X)) (hi : @Eq.{1} (Option.{0} PySem.Str) (@GetElem?.getElem?.{0,0,0} (List.{0} PySem.Str) Nat PySem.Str (fun (y0 : List.{0} PySem.Str) (y1 : Nat) => @LT.lt.{0} Nat instLTNat y1 (@List.length.{0} PySem.Str y0)) (@List.instGetElem?NatLtLength.{0} PySem.Str) (L2.Cx.N X) i) (@Option.some.{0} PySem.Str x)) (hx : L2.Loc (PySem.Env.scope (L2.Cx.env X)) x) (hf : Or (@Eq.{1} Bool (L2.Cx.fn X x) Bool.true) (@Eq.{1} (Option.{0} PySem.NameKind) (@List.lookup.{0,0} PySem.Str PySem.NameKind (@instBEqOfDecidableEq.{0} PySem.Str PySem.instDecidableEqStr) x (PySem.Scope.names (PySem.Env.scope (L2.Cx.env X)))) (@Option.some.{0} PySem.NameKind PySem.NameKind.local)) := by first | rfl | (intros;rfl) | decide | assumption) : L2.QG X (PySem.Expr.Name x pos) (L2.gName i) := ⟨@L2.pg_name X pos i x hN hi hx hf⟩
theorem zL {X : L2.Cx}{pos : PySem.Pos}{es : List.{0} PySem.Expr}{k : Nat}{t : L2.TGs}{n : Nat} (hc : @Eq.{1} Bool (L2.Cx.calm X) Bool.true) (h : L2.QGs X es t) (hn : @Eq.{1} Nat (@List.length.{0} (Prod.{0,0} Bool ((y0 : PySem.Value) → PySem.Sem Unit)) (PySem.assignEach es (L2.Cx.env X))) n := by first | rfl | (intros;rfl) | decide | assumption) (hst : @Eq.{1} (Option.{0} Nat) (@List.findIdx?.{0} (Prod.{0,0} Bool ((y1 : PySem.Value) → PySem.Sem Unit)) (fun (y2 : Prod.{0,0} Bool ((y3 : PySem.Value) → PySem.Sem Unit)) => @Prod.fst.{0,0} Bool ((y4 : PySem.Value) → PySem.Sem Unit) y2) (PySem.assignEach es (L2.Cx.env X))) (@Option.none.{0} Nat) := by first | rfl | (intros;rfl) | decide | assumption) : L2.QG X (PySem.Expr.Tuple es k pos) (L2.gTup (L2.Cx.K X) n t) := ⟨@L2.pg_tup X pos es k t n hc h.h hn hst⟩
theorem zx {X : L2.Cx} : L2.QGs X (@List.nil.{0} PySem.Expr) L2.gNil := ⟨@L2.pgs_nil X⟩
theorem jD {X : L2.Cx}{e : PySem.Expr}{es : List.{0} PySem.Expr}{t : L2.TG}{u : L2.TGs} (h1 : L2.QG X e t) (h2 : L2.QGs X es u) (hs : @Eq.{1} (List.{0} ((y0 : PySem.Value) → PySem.Sem Unit)) (@List.map.{0,0} (Prod.{0,0} Bool ((y1 : PySem.Value) → PySem.Sem Unit)) ((y2 : PySem.Value) → PySem.Sem Unit) (fun (y3 : Prod.{0,0} Bool ((y4 : PySem.Value) → PySem.Sem Unit)) => @Prod.snd.{0,0} Bool ((y5 : PySem.Value) → PySem.Sem Unit) y3) (PySem.assignEach (@List.cons.{0} PySem.Expr e es) (L2.Cx.env X))) (@List.cons.{0} ((y6 : PySem.Value) → PySem.Sem Unit) (PySem.assign e (L2.Cx.env X)) (@List.map.{0,0} (Prod.{0,0} Bool ((y7 : PySem.Value) → PySem.Sem Unit)) ((y8 : PySem.Value) → PySem.Sem Unit) (fun (y9 : Prod.{0,0} Bool ((y10 : PySem.Value) → PySem.Sem Unit)) => @Prod.snd.{0,0} Bool ((y11 : PySem.Value) → PySem.Sem Unit) y9) (PySem.assignEach es (L2.Cx.env X)))) := by first | rfl | (intros;rfl) | decide | assumption) : L2.QGs X (@List.cons.{0} PySem.Expr e es) (L2.gCons t u) := ⟨@L2.pgs_cons X e es t u h1.h h2.h hs⟩
theorem jdf {X : L2.Cx}{pos : PySem.Pos}{o : PySem.Expr}{i : PySem.Expr}{to : L2.TE}{ti : L2.TE}{t : L2.TSet} (ho : L2.QE X o to) (hi : L2.QE X i ti) (hs : L2.PSet X t) (ha : ∀ (y0 : PySem.Value),@Eq.{1} (PySem.Sem Unit) (PySem.assign (PySem.Expr.Subscript o i pos) (L2.Cx.env X) y0) (@Bind.bind.{0,0} PySem.Sem (@Monad.toBind.{0,0} PySem.Sem PySem.Sem.instMonad) PySem.Value Unit (@PySem.holding PySem.Value (@List.cons.{0} PySem.Value y0 (@List.nil.{0} PySem.Value)) (PySem.eval o (L2.Cx.env X))) fun (y1 : PySem.Value) => @Bind.bind.{0,0} PySem.Sem (@Monad.toBind.{0,0} PySem.Sem PySem.Sem.instMonad) PySem.Value Unit (@PySem.holding PySem.Value (@List.cons.{0} PySem.Value y0 (@List.cons.{0} PySem.Value y1 (@List.nil.{0} PySem.Value))) (PySem.eval i (L2.Cx.env X))) fun (y2 : PySem.Value) => @Bind.bind.{0,0} PySem.Sem (@Monad.toBind.{0,0} PySem.Sem PySem.Sem.instMonad) Unit Unit (PySem.standAt pos) fun (y3 : Unit) => @Bind.bind.{0,0} PySem.Sem (@Monad.toBind.{0,0} PySem.Sem PySem.Sem.instMonad) Unit Unit (@PySem.holding Unit (@List.cons.{0} PySem.Value y0 (@List.cons.{0} PySem.Value y1 (@List.cons.{0} PySem.Value y2 (@List.nil.{0} PySem.Value)))) (PySem.setItem y1 y2 y0)) fun (y4 : Unit) => PySem.release (@List.cons.{0} PySem.Value y0 (@List.cons.{0} PySem.Value y1 (@List.cons.{0} PySem.Value y2 (@List.nil.{0} PySem.Value)))) (@List.nil.{0} PySem.Value)) := by first | rfl | (intros;rfl) | decide | assumption) : L2.QG X (PySem.Expr.Subscript o i pos) (L2.gSub to ti t) := ⟨@L2.pg_sub X pos o i to ti t ho.h hi.h hs ha⟩
theorem ym {X : L2.Cx}{p : PySem.Pos}{pos : PySem.Pos}{a : PySem.Expr}{tg : PySem.Expr}{ta : L2.TA} (hg : L2.Gl X (PySem.Str.ofString "range")) (hm : @Eq.{1} (Option.{0} PySem.Value) (L2.Cx.mg X (PySem.Str.ofString "range")) (@Option.none.{0} PySem.Value)) (ha : L2.QA X (@List.cons.{0} PySem.Expr a (@List.nil.{0} PySem.Expr)) ta) (h : @Eq.{1} Bool (L2.isStar a) Bool.false) : L2.QI X tg (PySem.Expr.Call (PySem.Expr.Name (PySem.Str.ofString "range") p) (@List.cons.{0} PySem.Expr a (@List.nil.{0} PySem.Expr)) (@List.nil.{0} PySem.Keyword) pos) (L2.iRng1 ta) := ⟨@L2.pi_range1P X p pos a tg ta hg hm ha.h h⟩
theorem jif {X : L2.Cx}{e : PySem.Expr}{e2 : PySem.Expr}{p : PySem.Pos}{pos : PySem.Pos}{ta : L2.TA}{tpos : PySem.Pos}{elts : List.{0} PySem.Expr}{kk : Nat} (hg : L2.Gl X (PySem.Str.ofString "zip")) (hm : @Eq.{1} (Option.{0} PySem.Value) (L2.Cx.mg X (PySem.Str.ofString "zip")) (@Option.none.{0} PySem.Value)) (ha : L2.QA X (@List.cons.{0} PySem.Expr e (@List.cons.{0} PySem.Expr e2 (@List.nil.{0} PySem.Expr))) ta) (h : @Eq.{1} Bool (L2.noStar (@List.cons.{0} PySem.Expr e (@List.cons.{0} PySem.Expr e2 (@List.nil.{0} PySem.Expr)))) Bool.true) : L2.QI X (PySem.Expr.Tuple elts kk tpos) (PySem.Expr.Call (PySem.Expr.Name (PySem.Str.ofString "zip") p) (@List.cons.{0} PySem.Expr e (@List.cons.{0} PySem.Expr e2 (@List.nil.{0} PySem.Expr))) (@List.nil.{0} PySem.Keyword) pos) (L2.iZipT (L2.Cx.K X) ta) := ⟨@L2.pi_zipTP X e e2 p pos ta tpos elts kk hg hm ha.h h⟩
theorem jdA {X : L2.Cx}{e : PySem.Expr}{p : PySem.Pos}{pos : PySem.Pos}{ta : L2.TA}{tpos : PySem.Pos}{elts : List.{0} PySem.Expr}{kk : Nat} (hg : L2.Gl X (PySem.Str.ofString "enumerate")) (hm : @Eq.{1} (Option.{0} PySem.Value) (L2.Cx.mg X (PySem.Str.ofString "enumerate")) (@Option.none.{0} PySem.Value)) (ha : L2.QA X (@List.cons.{0} PySem.Expr e (@List.nil.{0} PySem.Expr)) ta) (h : @Eq.{1} Bool (L2.isStar e) Bool.false) : L2.QI X (PySem.Expr.Tuple elts kk tpos) (PySem.Expr.Call (PySem.Expr.Name (PySem.Str.ofString "enumerate") p) (@List.cons.{0} PySem.Expr e (@List.nil.{0} PySem.Expr)) (@List.nil.{0} PySem.Keyword) pos) (L2.iEnumT (L2.Cx.K X) ta) := ⟨@L2.pi_enumTP X e p pos ta tpos elts kk hg hm ha.h h⟩
theorem jbE {X : L2.Cx}{tg : PySem.Expr}{l : PySem.Expr}{tl : L2.TE} (hl : L2.QE X l tl) : L2.QI X tg l (L2.iList (L2.Cx.K X) tl) := ⟨@L2.pi_list X tg l tl hl.h⟩
theorem vx {X : L2.Cx}{tg : PySem.Expr}{l : PySem.Expr}{tl : L2.TE} (hl : L2.QE X l tl) : L2.QI X tg l (L2.iTup (L2.Cx.K X) tl) := ⟨@L2.pi_tup X tg l tl hl.h⟩
theorem jw {X : L2.Cx} : L2.QSs X (@List.nil.{0} PySem.Stmt) L2.tNext := ⟨@L2.pss_nil X⟩
theorem je {X : L2.Cx}{st : PySem.Stmt}{rest : List.{0} PySem.Stmt}{t : L2.TS}{u : L2.TS} (h1 : L2.QS X st t) (h2 : L2.QSs X rest u) : L2.QSs X (@List.cons.{0} PySem.Stmt st rest) (L2.tSeq t u) := ⟨@L2.pss_cons X st rest t u h1.h h2.h⟩
theorem jf {X : L2.Cx}{st : PySem.Stmt}{t : L2.TS} (h1 : L2.QS X st t) : L2.QSs X (@List.cons.{0} PySem.Stmt st (@List.nil.{0} PySem.Stmt)) t := ⟨@L2.pss_one X st t h1.h⟩
theorem zQ {X : L2.Cx}{e : PySem.Expr}{te : L2.TE}{pos : PySem.Pos} (he : L2.QE X e te) (hs : @Eq.{1} (PySem.Sem Bool) (PySem.swapsWith e (@Option.none.{0} PySem.Expr) (PySem.Pos.line pos) (L2.Cx.env X)) (@Pure.pure.{0,0} PySem.Sem (@Applicative.toPure.{0,0} PySem.Sem (@Monad.toApplicative.{0,0} PySem.Sem PySem.Sem.instMonad)) Bool Bool.false) := by first | rfl | (intros;rfl) | decide | assumption) : L2.QS X (PySem.Stmt.Expr e pos) (L2.tDrop te) := ⟨@L2.ps_expr X e te pos he.h hs⟩
theorem jm {X : L2.Cx}{e : PySem.Expr}{te : L2.TE}{pos : PySem.Pos} (he : L2.QE X e te) : L2.QS X (PySem.Stmt.Return (@Option.some.{0} PySem.Expr e) pos) (L2.tRet te) := ⟨@L2.ps_ret X e te pos he.h⟩
theorem jF {X : L2.Cx}{t : L2.TS}{u : L2.TS}{pos : PySem.Pos}{c : PySem.Expr}{a : List.{0} PySem.Stmt}{b : List.{0} PySem.Stmt}{tc : L2.TT} (hc : L2.QT X c tc) (ha : L2.QSs X a t) (hb : L2.QSs X b u) : L2.QS X (PySem.Stmt.If c a b pos) (L2.tIfS tc t u) := ⟨@L2.ps_if X t u pos c a b tc hc.h ha.h hb.h⟩
theorem yT {X : L2.Cx}{st : PySem.Stmt} : L2.QS X st L2.tNever := ⟨@L2.ps_never X st⟩
theorem jV {X : L2.Cx}{pos : PySem.Pos}{i : Nat}{x : PySem.Str}{e : PySem.Expr}{te : L2.TE}{z0 : PySem.Pos} (hN : @List.Nodup.{0} PySem.Str (L2.Cx.N X)) (hi : @Eq.{1} (Option.{0} PySem.Str) (@GetElem?.getElem?.{0,0,0} (List.{0} PySem.Str) Nat PySem.Str (fun (y1 : List.{0} PySem.Str) (y2 : Nat) => @LT.lt.{0} Nat instLTNat y2 (@List.length.{0} PySem.Str y1)) (@List.instGetElem?NatLtLength.{0} PySem.Str) (L2.Cx.N X) i) (@Option.some.{0} PySem.Str x)) (hx : L2.Loc (PySem.Env.scope (L2.Cx.env X)) x) (he : L2.QE X e te) (hs : @Eq.{1} (PySem.Sem Bool) (PySem.swapsWith e (@Option.some.{0} PySem.Expr (PySem.Expr.Name x z0)) (PySem.Pos.line pos) (L2.Cx.env X)) (@Pure.pure.{0,0} PySem.Sem (@Applicative.toPure.{0,0} PySem.Sem (@Monad.toApplicative.{0,0} PySem.Sem PySem.Sem.instMonad)) Bool Bool.false) := by first | rfl | (intros;rfl) | decide | assumption) (hf : Or (@Eq.{1} Bool (L2.Cx.fn X x) Bool.true) (@Eq.{1} (Option.{0} PySem.NameKind) (@List.lookup.{0,0} PySem.Str PySem.NameKind (@instBEqOfDecidableEq.{0} PySem.Str PySem.instDecidableEqStr) x (PySem.Scope.names (PySem.Env.scope (L2.Cx.env X)))) (@Option.some.{0} PySem.NameKind PySem.NameKind.local)) := by first | rfl | (intros;rfl) | decide | assumption) : L2.QS X (PySem.Stmt.Assign (@List.cons.{0} PySem.Expr (PySem.Expr.Name x z0) (@List.nil.{0} PySem.Expr)) e pos) (L2.tAsg te (L2.gName i)) := ⟨@L2.ps_set X pos i x e te z0 hN hi hx he.h hs hf⟩
theorem uN {X : L2.Cx}{i : Nat}{y : PySem.Str}{py : PySem.Pos}{elt : PySem.Expr}{tg : PySem.Expr}{iter : PySem.Expr}{ifs : List.{0} PySem.Expr}{scope : PySem.Scope}{own : List.{0} (Prod.{0,0} PySem.Str Nat)}{pos : PySem.Pos}{spos : PySem.Pos}{wi : L2.TI}{g : L2.TG}{tt : L2.TT}{te : L2.TE} (hc : @Eq.{1} Bool (L2.Cx.calm X) Bool.true) (hN : @List.Nodup.{0} PySem.Str (L2.Cx.N X)) (hy : @Eq.{1} (Option.{0} PySem.Str) (@GetElem?.getElem?.{0,0,0} (List.{0} PySem.Str) Nat PySem.Str (fun (y0 : List.{0} PySem.Str) (y1 : Nat) => @LT.lt.{0} Nat instLTNat y1 (@List.length.{0} PySem.Str y0)) (@List.instGetElem?NatLtLength.{0} PySem.Str) (L2.Cx.N X) i) (@Option.some.{0} PySem.Str y)) (hyl : @Eq.{1} (Option.{0} PySem.NameKind) (@List.lookup.{0,0} PySem.Str PySem.NameKind (@instBEqOfDecidableEq.{0} PySem.Str PySem.instDecidableEqStr) y (PySem.Scope.names (PySem.Env.scope (L2.Cx.env X)))) (@Option.some.{0} PySem.NameKind PySem.NameKind.local)) (hsw : @Eq.{1} (PySem.Sem Bool) (PySem.swapsWith (PySem.Expr.ListComp elt (@List.cons.{0} PySem.Comprehension (PySem.Comprehension.mk tg iter ifs (@OfNat.ofNat.{0} Int (nat_lit 0) (@instOfNat (nat_lit 0)))) (@List.nil.{0} PySem.Comprehension)) scope pos) (@Option.some.{0} PySem.Expr (PySem.Expr.Name y py)) (PySem.Pos.line spos) (L2.Cx.env X)) (@Pure.pure.{0,0} PySem.Sem (@Applicative.toPure.{0,0} PySem.Sem (@Monad.toApplicative.{0,0} PySem.Sem PySem.Sem.instMonad)) Bool Bool.true)) (hi : L2.QI X tg iter wi) (ok : L2.BlkOk (L2.Cx.N X) (PySem.Env.scope (L2.Cx.env X)) scope own) (hg : ∀ (y2 : PySem.Shared) (y3 : L2.Hp) (y4 : PySem.Addr) (y5 : List.{0} (Prod.{0,0} PySem.Str PySem.Addr)) (y6 : List.{0} PySem.Addr),L2.QG (L2.Cx.blk X y2 y3 scope (PySem.compEnvC scope y5 y4 (L2.Cx.env X)) y6) tg g) (ht : ∀ (y7 : PySem.Shared) (y8 : L2.Hp) (y9 : PySem.Addr) (y10 : List.{0} (Prod.{0,0} PySem.Str PySem.Addr)) (y11 : List.{0} PySem.Addr),L2.QTs (L2.Cx.blk X y7 y8 scope (PySem.compEnvC scope y10 y9 (L2.Cx.env X)) y11) ifs tt) (he : ∀ (y12 : PySem.Shared) (y13 : L2.Hp) (y14 : PySem.Addr) (y15 : List.{0} (Prod.{0,0} PySem.Str PySem.Addr)) (y16 : List.{0} PySem.Addr),L2.QE (L2.Cx.blk X y12 y13 scope (PySem.compEnvC scope y15 y14 (L2.Cx.env X)) y16) elt te) (hs : ∀ (y17 : PySem.Value),@Eq.{1} (PySem.Sem PySem.Value) (PySem.foldedSetIterable iter (L2.Cx.env X) y17) (@Pure.pure.{0,0} PySem.Sem (@Applicative.toPure.{0,0} PySem.Sem (@Monad.toApplicative.{0,0} PySem.Sem PySem.Sem.instMonad)) PySem.Value y17) := by first | rfl | (intros;rfl) | decide | assumption) : L2.QS X (PySem.Stmt.Assign (@List.cons.{0} PySem.Expr (PySem.Expr.Name y py) (@List.nil.{0} PySem.Expr)) (PySem.Expr.ListComp elt (@List.cons.{0} PySem.Comprehension (PySem.Comprehension.mk tg iter ifs (@OfNat.ofNat.{0} Int (nat_lit 0) (@instOfNat (nat_lit 0)))) (@List.nil.{0} PySem.Comprehension)) scope pos) spos) (L2.tAsg (L2.tLc wi g tt te (@List.map.{0,0} (Prod.{0,0} PySem.Str Nat) Nat (fun (y18 : Prod.{0,0} PySem.Str Nat) => @Prod.snd.{0,0} PySem.Str Nat y18) own)) (L2.gName i)) := ⟨@L2.ps_setLc X i y py elt tg iter ifs scope own pos spos wi g tt te hc hN hy hyl hsw hi.h ok (fun w0 w1 w2 w3 w4 => (hg w0 w1 w2 w3 w4).h) (fun w0 w1 w2 w3 w4 => (ht w0 w1 w2 w3 w4).h) (fun w0 w1 w2 w3 w4 => (he w0 w1 w2 w3 w4).h) hs⟩
theorem jiQ {X : L2.Cx}{o : PySem.Expr}{i : PySem.Expr}{value : PySem.Expr}{pos : PySem.Pos}{z0 : PySem.Pos}{td : L2.TE}{ty : L2.TE}{tv : L2.TE} (hu : @LT.lt.{0} Nat instLTNat (@HAdd.hAdd.{0,0,0} Nat Nat Nat (@instHAdd.{0} Nat instAddNat) (PySem.Around.units (L2.Cx.A X)) (@OfNat.ofNat.{0} Nat (nat_lit 1) (instOfNatNat (nat_lit 1)))) PySem.cLine) (ho : L2.QE X o td) (hi : L2.QE X i ty) (hv : L2.QE X value tv) (hs : @Eq.{1} (PySem.Sem Bool) (PySem.swapsWith value (@Option.some.{0} PySem.Expr (PySem.Expr.Subscript o i z0)) (PySem.Pos.line pos) (L2.Cx.env X)) (@Pure.pure.{0,0} PySem.Sem (@Applicative.toPure.{0,0} PySem.Sem (@Monad.toApplicative.{0,0} PySem.Sem PySem.Sem.instMonad)) Bool Bool.false)) : L2.QS X (PySem.Stmt.Assign (@List.cons.{0} PySem.Expr (PySem.Expr.Subscript o i z0) (@List.nil.{0} PySem.Expr)) value pos) (L2.sDPut td ty tv) := ⟨@L2.ps_dput X o i value pos z0 td ty tv hu ho.h hi.h hv.h hs⟩
theorem vv {X : L2.Cx}{pos : PySem.Pos}{tg : PySem.Expr}{e : PySem.Expr}{te : L2.TE}{g : L2.TG} (he : L2.QE X e te) (hg : L2.QG X tg g) (hs : @Eq.{1} (PySem.Sem Bool) (PySem.swapsWithSole (@List.cons.{0} PySem.Expr tg (@List.nil.{0} PySem.Expr)) e (PySem.Pos.line pos) (L2.Cx.env X)) (@Pure.pure.{0,0} PySem.Sem (@Applicative.toPure.{0,0} PySem.Sem (@Monad.toApplicative.{0,0} PySem.Sem PySem.Sem.instMonad)) Bool Bool.false) := by first | rfl | (intros;rfl) | decide | assumption) (hw : @Eq.{1} (PySem.Sem (Option.{0} (List.{0} PySem.Str))) (PySem.swappedStores (@List.cons.{0} PySem.Expr tg (@List.nil.{0} PySem.Expr)) e (L2.Cx.env X)) (@Pure.pure.{0,0} PySem.Sem (@Applicative.toPure.{0,0} PySem.Sem (@Monad.toApplicative.{0,0} PySem.Sem PySem.Sem.instMonad)) (Option.{0} (List.{0} PySem.Str)) (@Option.none.{0} (List.{0} PySem.Str))) := by first | rfl | (intros;rfl) | decide | assumption) (h1 : @Eq.{1} (List.{0} ((y0 : PySem.Value) → PySem.Sem Unit)) (@List.map.{0,0} (Prod.{0,0} Bool ((y1 : PySem.Value) → PySem.Sem Unit)) ((y2 : PySem.Value) → PySem.Sem Unit) (fun (y3 : Prod.{0,0} Bool ((y4 : PySem.Value) → PySem.Sem Unit)) => @Prod.snd.{0,0} Bool ((y5 : PySem.Value) → PySem.Sem Unit) y3) (PySem.assignEach (@List.cons.{0} PySem.Expr tg (@List.nil.{0} PySem.Expr)) (L2.Cx.env X))) (@List.cons.{0} ((y6 : PySem.Value) → PySem.Sem Unit) (PySem.assign tg (L2.Cx.env X)) (@List.nil.{0} ((y7 : PySem.Value) → PySem.Sem Unit))) := by first | rfl | (intros;rfl) | decide | assumption) : L2.QS X (PySem.Stmt.Assign (@List.cons.{0} PySem.Expr tg (@List.nil.{0} PySem.Expr)) e pos) (L2.tAsg te g) := ⟨@L2.ps_asg X pos tg e te g he.h hg.h hs hw h1⟩
theorem yi {X : L2.Cx}{tg : PySem.Expr}{iter : PySem.Expr}{body : List.{0} PySem.Stmt}{wi : L2.TI}{g : L2.TG}{tb : L2.TS}{pos : PySem.Pos} (hp : PySem.PassesOwn (PySem.model (L2.Cx.prog X) (L2.Cx.w X)) (L2.Cx.A X) (L2.Cx.env X) (L2.Cx.xe X)) (hc : @Eq.{1} Bool (L2.Cx.calm X) Bool.true) (hi : L2.QI X tg iter wi) (hg : L2.QG X tg g) (hb : L2.QSs X body tb) (hs : ∀ (y0 : PySem.Value),@Eq.{1} (PySem.Sem PySem.Value) (PySem.foldedSetIterable iter (L2.Cx.env X) y0) (@Pure.pure.{0,0} PySem.Sem (@Applicative.toPure.{0,0} PySem.Sem (@Monad.toApplicative.{0,0} PySem.Sem PySem.Sem.instMonad)) PySem.Value y0) := by first | rfl | (intros;rfl) | decide | assumption) : L2.QS X (PySem.Stmt.For tg iter body (@List.nil.{0} PySem.Stmt) pos) (L2.tFor wi g tb) := ⟨@L2.ps_for X tg iter body wi g tb pos hp hc hi.h hg.h hb.h hs⟩
theorem js {X : L2.Cx}{st : PySem.Stmt}{t : L2.TS} (h : L2.QS X st t) : L2.QS X st (L2.tMid t) := ⟨@L2.ps_mid X st t h.h⟩
theorem jai {X : L2.Cx}{e : PySem.Expr}{te : L2.TE} (h : L2.QE X e te) : L2.QO X (@Option.some.{0} PySem.Expr e) (L2.tPart te) := ⟨@L2.po_some X e te h.h⟩
theorem jaj {X : L2.Cx} : L2.QO X (@Option.none.{0} PySem.Expr) L2.tNoPart := ⟨@L2.po_none X⟩
theorem q_pv {X : L2.Cx} (i : Nat){x : PySem.Str}{pos : PySem.Pos} (hN : @Eq.{1} (Option.{0} PySem.Str) (@GetElem?.getElem?.{0,0,0} (List.{0} PySem.Str) Nat PySem.Str (fun (y0 : List.{0} PySem.Str) (y1 : Nat) => @LT.lt.{0} Nat instLTNat y1 (@List.length.{0} PySem.Str y0)) (@List.instGetElem?NatLtLength.{0} PySem.Str) (L2.Cx.N X) i) (@Option.some.{0} PySem.Str x) := by first | rfl | (intros;rfl) | decide | assumption) (hv : L2.Vis (PySem.Env.scope (L2.Cx.env X)) x := by first | rfl | (intros;rfl) | decide | assumption) (hd : @Eq.{1} Bool (@BEq.beq.{0} PySem.Str (@instBEqOfDecidableEq.{0} PySem.Str PySem.instDecidableEqStr) x (PySem.Str.ofString "__debug__")) Bool.false := by first | rfl | (intros;rfl) | decide | assumption) (hcd : @Eq.{1} Bool (@BEq.beq.{0} PySem.Str (@instBEqOfDecidableEq.{0} PySem.Str PySem.instDecidableEqStr) x (PySem.Str.ofString "__classdict__")) Bool.false := by first | rfl | (intros;rfl) | decide | assumption) : L2.QE X (PySem.Expr.Name x pos) (L2.tVar i) := ⟨@L2.pv X i x pos hN hv hd hcd⟩
theorem jiT {X : L2.Cx}{o : PySem.Expr}{i : PySem.Expr}{pos : PySem.Pos}{td : L2.TE}{ty : L2.TE} (ho : L2.QE X o td) (hi : L2.QE X i ty) (hs : L2.NoSl i) : L2.QE X (PySem.Expr.Subscript o i pos) (L2.tKIdx (L2.Cx.prog X) (L2.Cx.w X) (L2.Cx.K X) td ty) := ⟨@L2.pe_kidx X o i pos td ty ho.h hi.h hs⟩
theorem jjY {X : L2.Cx}{a : PySem.Expr}{b : PySem.Expr}{pos : PySem.Pos}{op : PySem.CmpOp}{t : L2.TE} (h : L2.QC X op a b t) (h1 : @Eq.{1} Bool (PySem.behindInMarks op b) Bool.false := by first | rfl | (intros;rfl) | decide | assumption) : L2.QT X (PySem.Expr.Compare a (@List.cons.{0} PySem.CmpOp op (@List.nil.{0} PySem.CmpOp)) (@List.cons.{0} PySem.Expr b (@List.nil.{0} PySem.Expr)) pos) (L2.tB t) := ⟨@L2.pt_cmp X a b pos op t h.h h1⟩
theorem jhH {X : L2.Cx}{pos : PySem.Pos}{i : Nat}{x : PySem.Str}{e : PySem.Expr}{te : L2.TE}{op : PySem.Operator}{ti : L2.TIp}{z0 : PySem.Pos} (hN : @List.Nodup.{0} PySem.Str (L2.Cx.N X)) (hi : @Eq.{1} (Option.{0} PySem.Str) (@GetElem?.getElem?.{0,0,0} (List.{0} PySem.Str) Nat PySem.Str (fun (y1 : List.{0} PySem.Str) (y2 : Nat) => @LT.lt.{0} Nat instLTNat y2 (@List.length.{0} PySem.Str y1)) (@List.instGetElem?NatLtLength.{0} PySem.Str) (L2.Cx.N X) i) (@Option.some.{0} PySem.Str x)) (hx : L2.Loc (PySem.Env.scope (L2.Cx.env X)) x) (he : L2.QE X e te) (ho : L2.PIp X op ti) (hf : Or (@Eq.{1} Bool (L2.Cx.fn X x) Bool.true) (@Eq.{1} (Option.{0} PySem.NameKind) (@List.lookup.{0,0} PySem.Str PySem.NameKind (@instBEqOfDecidableEq.{0} PySem.Str PySem.instDecidableEqStr) x (PySem.Scope.names (PySem.Env.scope (L2.Cx.env X)))) (@Option.some.{0} PySem.NameKind PySem.NameKind.local)) := by first | rfl | (intros;rfl) | decide | assumption) : L2.QS X (PySem.Stmt.AugAssign (PySem.Expr.Name x z0) op e pos) (L2.tAug i te ti) := ⟨@L2.ps_aug X pos i x e te op ti z0 hN hi hx he.h ho hf⟩
theorem jjZ {X : L2.Cx}{tg : PySem.Expr}{e : PySem.Expr}{te : L2.TE} (he : L2.QE X e te) : L2.QI X tg e (L2.iStr te) := ⟨@L2.pi_str X tg e te he.h⟩
end L2
end
section
namespace K3
open PySem L2
def gH (K : PySem.W.Frag) : R2 := fun x y H Q => ∃ a b xs ys,x = .ref a ∧ y = .ref b ∧ Tp K H a xs ∧ Tp K H b ys ∧ xs.length + ys.length ≤ sizeLine ∧ ∀ p H2,Same H H2 → Tp K H2 p (xs ++ ys) → Q (.ref p) H2
theorem je7 {X : Cx} : OpR X (binaryOp .Add) (gH X.K) := op_cat3.mono fun x y H Q ⟨a,b,xs,ys,e1,e2,h1,h2,z,q⟩ => ⟨a,b,xs,ys,e1,e2,h1.sq,h2.sq,z,fun e => q b H (Same.refl _) (by rw [e];exact h2),fun _ => ⟨fun e => q a H (Same.refl _) (by rw [e,List.append_nil];exact h1),fun _ p hp => q p _ (zi hp) (.inl jj)⟩⟩
end K3
end
section
namespace K3
open PySem L2
def top (i : Nat) : Stmt := PySem.Challenge.pw_testedrows_k24_rows_written.main.body.getD i (.Pass ⟨0,0,0,0⟩)
structure TT (mg : Str → Option Value) : Prop where
 ValueError : mg "ValueError" = none
 any : mg "any" = none
 bool : mg "bool" = none
 enumerate : mg "enumerate" = none
 int : mg "int" = none
 isinstance : mg "isinstance" = none
 len : mg "len" = none
 list : mg "list" = none
 max : mg "max" = none
 range : mg "range" = none
 str : mg "str" = none
 tuple : mg "tuple" = none
 zip : mg "zip" = none
 WORTHS : ∃ t,mg "WORTHS" = some (.int 10007 t)
 MOST_INS : ∃ t,mg "MOST_INS" = some (.int 3 t)
 MOST_NAMES : ∃ t,mg "MOST_NAMES" = some (.int 99 t)
 REGISTERS : ∃ t,mg "REGISTERS" = some (.int 2000 t)
 TESTS : ∃ t,mg "TESTS" = some (.int 2000 t)
 MOST_PIECES : ∃ t,mg "MOST_PIECES" = some (.int 999 t)
 MOST_ROWS : ∃ t,mg "MOST_ROWS" = some (.int 1500 t)
 MOST_GOES : ∃ t,mg "MOST_GOES" = some (.int 8 t)
 MOST_OF_NUMBER : ∃ t,mg "MOST_OF_NUMBER" = some (.int 5 t)
 MOST_OF_TEST : ∃ t,mg "MOST_OF_TEST" = some (.int 4 t)
 MOST_OF_PIECE : ∃ t,mg "MOST_OF_PIECE" = some (.int 4 t)
 MOST_OF_NAME : ∃ t,mg "MOST_OF_NAME" = some (.int 2 t)
 FIGURES : ∃ t,mg "FIGURES" = some (.str "0123456789" t)
end K3
end
section
open PySem PySem.W PyProof.Rows
set_option maxHeartbeats 0
namespace Hd
noncomputable section
open PySem PySem.W PySem.Calls PyProof.Rows
set_option quotPrecheck false
def prg : Program := PySem.Challenge.rw_testedrows_k24_rows_written.row.toRowW.1
abbrev top (i : Nat) : Stmt := prg.main.body.getD i (.Pass ⟨0,0,0,0⟩)
def jku (s : Stmt) (j : Nat) : Stmt := match s with | .ClassDef _ _ _ b _ _ _ _ _ _ _ => b.getD j (.Pass ⟨0,0,0,0⟩) | _ => .Pass ⟨0,0,0,0⟩
def ek (P : Params) (x : Str) (t : Tok) (v : Value) : DictEntry := ⟨PyData.keyHash P x,.str x t,v⟩
def lf (o : Obj) : BT := .node o .nil .nil
def cd (n : Str) (a : Tok) (q : Str) (b c : Tok) (l k m : Int) (r : Addr) (f : Bool) (r2 : Addr) (v1 v2 v3 v4 : Value) (x : Int) (e : Tok) : Obj := ⟨.type "code",none,(.fields #[.str n a,.str q b,.str "/claim/cut.py" c,.int l 0,.int k 0,.int 0 0,.int 0 0,.int m 0,.ref r,.bool f,.int 181 0,.ref r2,v1,v2,v3,v4,.int x 0,.int l 0,.str "/claim/cut.py" e]),#[]⟩
def fnO (n q : Str) (s : Stmt) (k : Nat) (m : Str) (t : Tok) (d : Addr) : Obj := ⟨.type "function",none,(.func ⟨n,q,L2.defArgs s,.stmts (L2.defBody s),L2.defScope s,k,[],.none,.none,.none,(.str m t),none,(.ref d),.none,0⟩),#[]⟩
def fnC (n q : Str) (s : Stmt) : Obj := ⟨.none,none,(.func ⟨n,q,L2.defArgs s,.stmts (L2.defBody s),L2.defScope s,0,[],.none,.none,.none,.none,none,.none,.none,0⟩),#[]⟩
def bdy : List Stmt := behindTheImports prg
def env : Env := { scope := prg.main.scope,locals := mainNs,globals := mainNs,cells := [],code := .ref 13,frame := some 14 }
def cod : Code := .body bdy env
def vw : Program := { prg with main := { prg.main with body := [top 1,top 2,top 3,top 5,top 6,top 7,top 8,top 9,top 10,top 12,top 13,top 14,top 15,top 16,top 17,top 18,top 19,top 20,top 21,top 22,top 23,top 24,top 25,top 27,top 28,top 29,top 30,top 31,top 32,top 33,top 34,top 35,top 36,top 37,top 38,top 39,top 40,top 41,top 43,top 44,top 45,top 46,top 47,top 48,top 49,top 50,top 51] } }
def lse : List Str := ["PLACES"]
def o0 : Obj := ⟨.type "tuple",none,(.seq #[] 0),#[]⟩
def o1 : Obj := ⟨.none,none,(.fields #[]),#[]⟩
def o2 : Obj := cd "<module>" 182 "<module>" 183 184 1 0 0 11 false 12 .none .none .none .none 185 186
def o3 : Obj := ⟨.type "frame",none,.plain,#[some (.ref 13),some (.ref 3),some (.ref 3),none,some (.str "__main__" 164),none,some (.ref 0)]⟩
def Ha (P : Params) : Heap := ⟨⟨[(boot_o_0 P),(boot_o_1 P),(boot_o_2 P),(boot_o_3 P),(boot_o_4 P),(boot_o_5 P),(boot_o_6 P),(boot_o_7 P),(boot_o_8 P),(boot_o_9 P),(boot_o_10 P),o0,o1,o2,o3]⟩,{}⟩
def T0 (P : Params) : BT := .node (boot_o_0 P) (.node (boot_o_1 P) (.node (boot_o_3 P) (lf (boot_o_7 P)) (lf o0)) (.node (boot_o_5 P) (lf (boot_o_9 P)) (lf o2))) (.node (boot_o_2 P) (.node (boot_o_4 P) (lf (boot_o_8 P)) (lf o1)) (.node (boot_o_6 P) (lf (boot_o_10 P)) (lf o3)))
def o4 (P : Params) : Obj := ⟨.type "dict",none,(.dict #[ek P "__name__" 165 (.str "testedrows.worths" 259),ek P "__doc__" 166 .none,ek P "__package__" 167 .none,ek P "__loader__" 168 (.builtin "__main__.__loader__#opaque"),ek P "__spec__" 169 .none,ek P "__annotations__" 170 (.ref 6),ek P "__builtins__" 171 (.ref 4),ek P "__file__" 173 (.str "/claim/cut.py" 172),ek P "__cached__" 174 .none,ek P "RowsError" 206 (.ref 24),ek P "BadTested" 233 (.ref 44),ek P "BadText" 258 (.ref 63)] 12),#[]⟩
def o5 : Obj := ⟨.none,none,(.fields #[.int 2 0,.int 0 0,.ref 20,.int 4 0,.int 0 0,.ref 33,.int 9 0,.int 0 0,.ref 52]),#[]⟩
def o6 : Obj := ⟨.type "tuple",none,(.seq #[.type "ValueError"] 0),#[]⟩
def o7 : Obj := ⟨.type "builtin_function_or_method",none,(.fields #[.builtin "type.__prepare__",.type "type"]),#[]⟩
def o8 (P : Params) : Obj := ⟨.type "dict",none,(.dict #[ek P "__module__" 196 (.str "testedrows.errors" 187),ek P "__qualname__" 198 (.str "RowsError" 197),ek P "__firstlineno__" 200 (.int 2 199),ek P "__static_attributes__" 201 (.ref 22)] 4),#[]⟩
def o9 : Obj := cd "RowsError" 191 "RowsError" 192 193 2 0 0 18 false 19 .none .none .none .none 194 195
def o10 : Obj := ⟨.type "frame",none,.plain,#[some (.ref 20),some (.ref 3),some (.ref 17),none,some (.str "testedrows.errors" 187),none,some (.ref 0)]⟩
def o11 (P : Params) : Obj := ⟨.type "dict",none,(.dict #[ek P "__module__" 196 (.str "testedrows.errors" 187),ek P "__firstlineno__" 200 (.int 2 199),ek P "__static_attributes__" 201 (.ref 22),ek P "__weakref__" 203 (.ref 25),ek P "__doc__" 204 .none] 3),#[]⟩
def o12 : Obj := ⟨.type "type",none,(.cls ⟨"RowsError",[.type "ValueError"],[.ref 24,.type "ValueError",.type "Exception",.type "BaseException",.type "object"],23, "RowsError",true,[],[.ref 44,.ref 63],false,none,false⟩),#[some (.ref 15),none,some (.str "RowsError" 189),some (.str "RowsError" 197),some (.builtin "ValueError.__new__"),some (.bool true)]⟩
def o13 : Obj := ⟨.type "getset_descriptor",none,(.fields #[.str "__weakref__" 202,.ref 24,.builtin "ExceptionGroup.__weakref__",.none]),#[]⟩
def o14 : Obj := ⟨.type "super",none,(.fields #[.ref 24,.ref 24,.ref 24]),#[]⟩
def o15 : Obj := ⟨.type "builtin_function_or_method",none,(.fields #[.builtin "object.__init_subclass__",.ref 24]),#[]⟩
def o16 : Obj := ⟨.type "tuple",none,(.seq #[.ref 24] 0),#[]⟩
def o17 (P : Params) : Obj := ⟨.type "dict",none,(.dict #[ek P "__module__" 214 (.str "testedrows.errors" 187),ek P "__qualname__" 216 (.str "BadTested" 215),ek P "__firstlineno__" 218 (.int 4 217),ek P "__init__" 227 (.ref 41),ek P "__static_attributes__" 230 (.ref 42)] 5),#[]⟩
def o18 : Obj := ⟨.none,none,(.fields #[.int 6 0,.int 4 0,.ref 40]),#[]⟩
def o19 : Obj := cd "BadTested" 209 "BadTested" 210 211 4 0 0 31 false 32 .none .none .none .none 212 213
def o20 : Obj := ⟨.type "frame",none,.plain,#[some (.ref 33),some (.ref 3),some (.ref 30),none,some (.str "testedrows.errors" 187),none,some (.ref 0)]⟩
def o21 : Obj := ⟨.type "tuple",none,(.seq #[.str "self" 222,.str "piece" 223,.str "row" 224] 0),#[]⟩
def o22 : Obj := fnC "__init__" "BadTested.__init__" (jku (top 2) 0)
def o23 : Obj := cd "__init__" 219 "BadTested.__init__" 220 221 6 3 3 35 true 36 .none (.ref 37) (.ref 38) (.ref 39) 225 226
def o24 : Obj := fnO "__init__" "BadTested.__init__" (jku (top 2) 0) 3 "testedrows.errors" 187 40
def o25 : Obj := ⟨.type "tuple",none,(.seq #[.str "piece" 228,.str "row" 229] 0),#[]⟩
def o26 (P : Params) : Obj := ⟨.type "dict",none,(.dict #[ek P "__module__" 214 (.str "testedrows.errors" 187),ek P "__firstlineno__" 218 (.int 4 217),ek P "__init__" 227 (.ref 41),ek P "__static_attributes__" 230 (.ref 42),ek P "__doc__" 231 .none] 2),#[]⟩
def o27 : Obj := ⟨.type "type",none,(.cls ⟨"BadTested",[.ref 24],[.ref 44,.ref 24,.type "ValueError",.type "Exception",.type "BaseException",.type "object"],43, "BadTested",true,[],[],false,none,false⟩),#[some (.ref 28),none,some (.str "BadTested" 207),some (.str "BadTested" 215),some (.builtin "ValueError.__new__"),some (.bool true)]⟩
def o28 : Obj := ⟨.type "super",none,(.fields #[.ref 44,.ref 44,.ref 44]),#[]⟩
def o29 : Obj := ⟨.type "builtin_function_or_method",none,(.fields #[.builtin "object.__init_subclass__",.ref 44]),#[]⟩
def o30 (P : Params) : Obj := ⟨.type "dict",none,(.dict #[ek P "__module__" 241 (.str "testedrows.errors" 187),ek P "__qualname__" 243 (.str "BadText" 242),ek P "__firstlineno__" 245 (.int 9 244),ek P "__init__" 253 (.ref 60),ek P "__static_attributes__" 255 (.ref 61)] 5),#[]⟩
def o31 : Obj := ⟨.none,none,(.fields #[.int 11 0,.int 4 0,.ref 59]),#[]⟩
def o32 : Obj := cd "BadText" 236 "BadText" 237 238 9 0 0 50 false 51 .none .none .none .none 239 240
def o33 : Obj := ⟨.type "frame",none,.plain,#[some (.ref 52),some (.ref 3),some (.ref 49),none,some (.str "testedrows.errors" 187),none,some (.ref 0)]⟩
def o34 : Obj := ⟨.type "tuple",none,(.seq #[.str "self" 249,.str "place" 250] 0),#[]⟩
def o35 : Obj := fnC "__init__" "BadText.__init__" (jku (top 3) 0)
def o36 : Obj := cd "__init__" 246 "BadText.__init__" 247 248 11 2 3 54 true 55 .none (.ref 56) (.ref 57) (.ref 58) 251 252
def o37 : Obj := fnO "__init__" "BadText.__init__" (jku (top 3) 0) 3 "testedrows.errors" 187 59
def o38 : Obj := ⟨.type "tuple",none,(.seq #[.str "place" 254] 0),#[]⟩
def o39 (P : Params) : Obj := ⟨.type "dict",none,(.dict #[ek P "__module__" 241 (.str "testedrows.errors" 187),ek P "__firstlineno__" 245 (.int 9 244),ek P "__init__" 253 (.ref 60),ek P "__static_attributes__" 255 (.ref 61),ek P "__doc__" 256 .none] 2),#[]⟩
def o40 : Obj := ⟨.type "type",none,(.cls ⟨"BadText",[.ref 24],[.ref 63,.ref 24,.type "ValueError",.type "Exception",.type "BaseException",.type "object"],62, "BadText",true,[],[],false,none,false⟩),#[some (.ref 47),none,some (.str "BadText" 234),some (.str "BadText" 242),some (.builtin "ValueError.__new__"),some (.bool true)]⟩
def o41 : Obj := ⟨.type "super",none,(.fields #[.ref 63,.ref 63,.ref 63]),#[]⟩
def o42 : Obj := ⟨.type "builtin_function_or_method",none,(.fields #[.builtin "object.__init_subclass__",.ref 63]),#[]⟩
def st0 : List Stmt := (bdy.drop 0).take 5
def b0 (P : Params) : BT := .node o0 (lf o40) .nil
def b1 (P : Params) : BT := lf o16
def b2 (P : Params) : BT := lf o22
def b3 (P : Params) : BT := lf o1
def b4 (P : Params) : BT := .node (boot_o_7 P) (.node o6 (b0 P) (b1 P)) (.node (o11 P) (b2 P) (b3 P))
def b5 (P : Params) : BT := lf o0
def b6 (P : Params) : BT := lf o31
def b7 (P : Params) : BT := lf (o26 P)
def b8 (P : Params) : BT := lf o36
def b9 (P : Params) : BT := .node o0 (.node o1 (b5 P) (b6 P)) (.node o15 (b7 P) (b8 P))
def b10 (P : Params) : BT := .node o19 (lf o42) .nil
def b11 (P : Params) : BT := lf (o30 P)
def b12 (P : Params) : BT := lf o24
def b13 (P : Params) : BT := .node (boot_o_9 P) (.node (o8 P) (b10 P) (b11 P)) (.node o13 (b12 P) (b5 P))
def b14 (P : Params) : BT := lf o21
def b15 (P : Params) : BT := lf o33
def b16 (P : Params) : BT := lf o28
def b17 (P : Params) : BT := lf o38
def b18 (P : Params) : BT := .node o2 (.node o10 (b14 P) (b15 P)) (.node o7 (b16 P) (b17 P))
def b19 (P : Params) : BT := .node o18 (lf o41) .nil
def b20 (P : Params) : BT := lf o7
def b21 (P : Params) : BT := lf o23
def b22 (P : Params) : BT := lf o34
def b23 (P : Params) : BT := .node (boot_o_8 P) (.node o7 (b19 P) (b20 P)) (.node o12 (b21 P) (b22 P))
def b24 (P : Params) : BT := lf o32
def b25 (P : Params) : BT := lf o27
def b26 (P : Params) : BT := lf o37
def b27 (P : Params) : BT := .node o5 (.node o9 (b3 P) (b24 P)) (.node o16 (b25 P) (b26 P))
def b28 (P : Params) : BT := lf o20
def b29 (P : Params) : BT := lf o25
def b30 (P : Params) : BT := lf o35
def b31 (P : Params) : BT := .node (boot_o_10 P) (.node o0 (b28 P) (b5 P)) (.node o14 (b29 P) (b30 P))
def b32 (P : Params) : BT := lf o29
def b33 (P : Params) : BT := lf (o39 P)
def b34 (P : Params) : BT := .node o3 (.node o0 (b5 P) (b5 P)) (.node (o17 P) (b32 P) (b33 P))
def T1 (P : Params) : BT := .node (boot_o_0 P) (.node (boot_o_1 P) (.node (o4 P) (b4 P) (b9 P)) (.node (boot_o_5 P) (b13 P) (b18 P))) (.node (boot_o_2 P) (.node (boot_o_4 P) (b23 P) (b27 P)) (.node (boot_o_6 P) (b31 P) (b34 P)))
def o43 (P : Params) : Obj := ⟨.type "dict",none,(.dict #[ek P "__name__" 165 (.str "testedrows.rows" 290),ek P "__doc__" 166 .none,ek P "__package__" 167 .none,ek P "__loader__" 168 (.builtin "__main__.__loader__#opaque"),ek P "__spec__" 169 .none,ek P "__annotations__" 170 (.ref 6),ek P "__builtins__" 171 (.ref 4),ek P "__file__" 173 (.str "/claim/cut.py" 172),ek P "__cached__" 174 .none,ek P "RowsError" 206 (.ref 24),ek P "BadTested" 233 (.ref 44),ek P "BadText" 258 (.ref 63),ek P "WORTHS" 262 (.int 10007 261),ek P "is_number" 269 (.ref 72),ek P "is_within" 278 (.ref 79),ek P "is_worth" 285 (.ref 86),ek P "MOST_INS" 287 (.int 3 286),ek P "MOST_NAMES" 289 (.int 99 288),ek P "REGISTERS" 293 (.int 2000 292),ek P "TESTS" 295 (.int 2000 294),ek P "MOST_PIECES" 297 (.int 999 296),ek P "MOST_ROWS" 299 (.int 1500 298),ek P "MOST_GOES" 301 (.int 8 300),ek P "PLACES" 368 (.ref 87),ek P "check_tested" 378 (.ref 109),ek P "is_framed" 388 (.ref 116),ek P "check_piece" 401 (.ref 123),ek P "is_row" 411 (.ref 130),ek P "may_stand" 419 (.ref 137),ek P "is_test" 426 (.ref 144),ek P "are_goes" 435 (.ref 151)] 31),#[]⟩
def o44 : Obj := ⟨.none,none,(.fields #[.int 2 0,.int 0 0,.ref 20,.int 4 0,.int 0 0,.ref 33,.int 9 0,.int 0 0,.ref 52,.int 15 0,.int 0 0,.ref 71,.int 17 0,.int 0 0,.ref 78,.int 19 0,.int 0 0,.ref 85,.int 30 0,.int 0 0,.ref 108,.int 36 0,.int 0 0,.ref 115,.int 43 0,.int 0 0,.ref 122,.int 54 0,.int 0 0,.ref 129,.int 64 0,.int 0 0,.ref 136,.int 70 0,.int 0 0,.ref 143,.int 72 0,.int 0 0,.ref 150]),#[]⟩
def o45 : Obj := ⟨.type "tuple",none,(.seq #[.str "value" 266] 0),#[]⟩
def o46 : Obj := fnC "is_number" "is_number" (top 6)
def o47 : Obj := cd "is_number" 263 "is_number" 264 265 15 1 3 66 true 67 .none (.ref 68) (.ref 69) (.ref 70) 267 268
def o48 : Obj := fnO "is_number" "is_number" (top 6) 3 "testedrows.worths" 259 71
def o49 : Obj := ⟨.type "tuple",none,(.seq #[.str "value" 273,.str "least" 274,.str "most" 275] 0),#[]⟩
def o50 : Obj := fnC "is_within" "is_within" (top 7)
def o51 : Obj := cd "is_within" 270 "is_within" 271 272 17 3 3 73 true 74 .none (.ref 75) (.ref 76) (.ref 77) 276 277
def o52 : Obj := fnO "is_within" "is_within" (top 7) 3 "testedrows.worths" 259 78
def o53 : Obj := ⟨.type "tuple",none,(.seq #[.str "value" 282] 0),#[]⟩
def o54 : Obj := fnC "is_worth" "is_worth" (top 8)
def o55 : Obj := cd "is_worth" 279 "is_worth" 280 281 19 1 3 80 true 81 .none (.ref 82) (.ref 83) (.ref 84) 283 284
def o56 : Obj := fnO "is_worth" "is_worth" (top 8) 3 "testedrows.worths" 259 85
def o57 (P : Params) : Obj := ⟨.type "dict",none,(.dict #[ek P "num" 302 (.ref 88),ek P "copy" 305 (.ref 89),ek P "not" 308 (.ref 90),ek P "get" 311 (.ref 91),ek P "add" 314 (.ref 92),ek P "take" 318 (.ref 93),ek P "times" 322 (.ref 94),ek P "over" 326 (.ref 95),ek P "rest" 330 (.ref 96),ek P "less" 334 (.ref 97),ek P "same" 338 (.ref 98),ek P "put" 342 (.ref 99),ek P "say" 345 (.ref 100),ek P "stop" 347 (.ref 101),ek P "test" 349 (.ref 102)] 15),#[]⟩
def o58 : Obj := ⟨.type "tuple",none,(.seq #[.str "written" 303,.str "worth" 304] 0),#[]⟩
def o59 : Obj := ⟨.type "tuple",none,(.seq #[.str "written" 306,.str "read" 307] 0),#[]⟩
def o60 : Obj := ⟨.type "tuple",none,(.seq #[.str "written" 309,.str "read" 310] 0),#[]⟩
def o61 : Obj := ⟨.type "tuple",none,(.seq #[.str "written" 312,.str "read" 313] 0),#[]⟩
def o62 : Obj := ⟨.type "tuple",none,(.seq #[.str "written" 315,.str "read" 316,.str "read" 317] 0),#[]⟩
def o63 : Obj := ⟨.type "tuple",none,(.seq #[.str "written" 319,.str "read" 320,.str "read" 321] 0),#[]⟩
def o64 : Obj := ⟨.type "tuple",none,(.seq #[.str "written" 323,.str "read" 324,.str "read" 325] 0),#[]⟩
def o65 : Obj := ⟨.type "tuple",none,(.seq #[.str "written" 327,.str "read" 328,.str "read" 329] 0),#[]⟩
def o66 : Obj := ⟨.type "tuple",none,(.seq #[.str "written" 331,.str "read" 332,.str "read" 333] 0),#[]⟩
def o67 : Obj := ⟨.type "tuple",none,(.seq #[.str "written" 335,.str "read" 336,.str "read" 337] 0),#[]⟩
def o68 : Obj := ⟨.type "tuple",none,(.seq #[.str "written" 339,.str "read" 340,.str "read" 341] 0),#[]⟩
def o69 : Obj := ⟨.type "tuple",none,(.seq #[.str "read" 343,.str "read" 344] 0),#[]⟩
def o70 : Obj := ⟨.type "tuple",none,(.seq #[.str "read" 346] 0),#[]⟩
def o71 : Obj := ⟨.type "tuple",none,(.seq #[.str "read" 348] 0),#[]⟩
def o72 : Obj := ⟨.type "tuple",none,(.seq #[.str "made" 350,.str "made" 351,.str "read" 352] 0),#[]⟩
def o73 : Obj := ⟨.type "tuple",none,(.seq #[.str "tested" 372,.str "pieces" 373,.str "at" 374,.str "piece" 375] 0),#[]⟩
def o74 : Obj := fnC "check_tested" "check_tested" (top 18)
def o75 : Obj := cd "check_tested" 369 "check_tested" 370 371 30 1 3 103 true 104 .none (.ref 105) (.ref 106) (.ref 107) 376 377
def o76 : Obj := fnO "check_tested" "check_tested" (top 18) 3 "testedrows.rows" 290 108
def o77 : Obj := ⟨.type "tuple",none,(.seq #[.str "tested" 382,.str "ins" 383,.str "names" 384,.str "pieces" 385] 0),#[]⟩
def o78 : Obj := fnC "is_framed" "is_framed" (top 19)
def o79 : Obj := cd "is_framed" 379 "is_framed" 380 381 36 1 3 110 true 111 .none (.ref 112) (.ref 113) (.ref 114) 386 387
def o80 : Obj := fnO "is_framed" "is_framed" (top 19) 3 "testedrows.rows" 290 115
def o81 : Obj := ⟨.type "tuple",none,(.seq #[.str "at" 392,.str "piece" 393,.str "pieces" 394,.str "rows" 395,.str "goes" 396,.str "place" 397,.str "row" 398] 0),#[]⟩
def o82 : Obj := fnC "check_piece" "check_piece" (top 20)
def o83 : Obj := cd "check_piece" 389 "check_piece" 390 391 43 3 3 117 true 118 .none (.ref 119) (.ref 120) (.ref 121) 399 400
def o84 : Obj := fnO "check_piece" "check_piece" (top 20) 3 "testedrows.rows" 290 122
def o85 : Obj := ⟨.type "tuple",none,(.seq #[.str "row" 405,.str "places" 406,.str "place" 407,.str "number" 408] 0),#[]⟩
def o86 : Obj := fnC "is_row" "is_row" (top 21)
def o87 : Obj := cd "is_row" 402 "is_row" 403 404 54 1 3 124 true 125 .none (.ref 126) (.ref 127) (.ref 128) 409 410
def o88 : Obj := fnO "is_row" "is_row" (top 21) 3 "testedrows.rows" 290 129
def o89 : Obj := ⟨.type "tuple",none,(.seq #[.str "place" 415,.str "number" 416] 0),#[]⟩
def o90 : Obj := fnC "may_stand" "may_stand" (top 22)
def o91 : Obj := cd "may_stand" 412 "may_stand" 413 414 64 2 3 131 true 132 .none (.ref 133) (.ref 134) (.ref 135) 417 418
def o92 : Obj := fnO "may_stand" "may_stand" (top 22) 3 "testedrows.rows" 290 136
def o93 : Obj := ⟨.type "tuple",none,(.seq #[.str "value" 423] 0),#[]⟩
def o94 : Obj := fnC "is_test" "is_test" (top 23)
def o95 : Obj := cd "is_test" 420 "is_test" 421 422 70 1 3 138 true 139 .none (.ref 140) (.ref 141) (.ref 142) 424 425
def o96 : Obj := fnO "is_test" "is_test" (top 23) 3 "testedrows.rows" 290 143
def o97 : Obj := ⟨.type "tuple",none,(.seq #[.str "goes" 430,.str "pieces" 431,.str "go" 432] 0),#[]⟩
def o98 : Obj := fnC "are_goes" "are_goes" (top 24)
def o99 : Obj := cd "are_goes" 427 "are_goes" 428 429 72 2 3 145 true 146 .none (.ref 147) (.ref 148) (.ref 149) 433 434
def o100 : Obj := fnO "are_goes" "are_goes" (top 24) 3 "testedrows.rows" 290 150
def st1 : List Stmt := (bdy.drop 5).take 20
def b35 (P : Params) : BT := .node o0 (.node o40 (lf o0) .nil) (lf o65)
def b36 (P : Params) : BT := .node o16 (.node o52 (lf o95) .nil) (lf o1)
def b37 (P : Params) : BT := .node o22 (.node o47 (lf o90) .nil) (lf o0)
def b38 (P : Params) : BT := .node o1 (.node (o57 P) (lf o100) .nil) (lf o81)
def b39 (P : Params) : BT := .node (boot_o_7 P) (.node o6 (b35 P) (b36 P)) (.node (o11 P) (b37 P) (b38 P))
def b40 (P : Params) : BT := .node o0 (.node o1 (lf o0) .nil) (lf o69)
def b41 (P : Params) : BT := .node o31 (.node o0 (lf o97) .nil) (lf o79)
def b42 (P : Params) : BT := .node (o26 P) (.node o49 (lf o1) .nil) (lf o74)
def b43 (P : Params) : BT := .node o36 (lf o61) (lf o84)
def b44 (P : Params) : BT := .node o0 (.node o1 (b40 P) (b41 P)) (.node o15 (b42 P) (b43 P))
def b45 (P : Params) : BT := .node o19 (.node o42 (lf o87) .nil) (lf o67)
def b46 (P : Params) : BT := .node (o30 P) (.node o1 (lf o0) .nil) (lf o0)
def b47 (P : Params) : BT := .node o24 (.node o0 (lf o92) .nil) (lf o73)
def b48 (P : Params) : BT := .node o0 (lf o59) (lf o82)
def b49 (P : Params) : BT := .node (boot_o_9 P) (.node (o8 P) (b45 P) (b46 P)) (.node o13 (b47 P) (b48 P))
def b50 (P : Params) : BT := .node o21 (.node o0 (lf o89) .nil) (lf o71)
def b51 (P : Params) : BT := .node o33 (.node o55 (lf o98) .nil) (lf o0)
def b52 (P : Params) : BT := .node o28 (.node o50 (lf o0) .nil) (lf o76)
def b53 (P : Params) : BT := .node o38 (lf o63) (lf o1)
def b54 (P : Params) : BT := .node o2 (.node o10 (b50 P) (b51 P)) (.node o7 (b52 P) (b53 P))
def b55 (P : Params) : BT := .node o18 (.node o41 (lf o86) .nil) (lf o66)
def b56 (P : Params) : BT := .node o7 (.node o0 (lf o96) .nil) (lf o77)
def b57 (P : Params) : BT := .node o23 (.node o48 (lf o91) .nil) (lf o1)
def b58 (P : Params) : BT := .node o34 (lf o58) (lf o0)
def b59 (P : Params) : BT := .node (boot_o_8 P) (.node o7 (b55 P) (b56 P)) (.node o12 (b57 P) (b58 P))
def b60 (P : Params) : BT := .node o1 (.node o45 (lf o1) .nil) (lf o70)
def b61 (P : Params) : BT := .node o32 (.node o54 (lf o0) .nil) (lf o80)
def b62 (P : Params) : BT := .node o27 (.node o0 (lf o93) .nil) (lf o75)
def b63 (P : Params) : BT := .node o37 (lf o62) (lf o0)
def b64 (P : Params) : BT := .node o44 (.node o9 (b60 P) (b61 P)) (.node o16 (b62 P) (b63 P))
def b65 (P : Params) : BT := .node o20 (.node o0 (lf o88) .nil) (lf o68)
def b66 (P : Params) : BT := .node o0 (.node o53 (lf o1) .nil) (lf o78)
def b67 (P : Params) : BT := .node o25 (.node o1 (lf o0) .nil) (lf o0)
def b68 (P : Params) : BT := .node o35 (lf o60) (lf o83)
def b69 (P : Params) : BT := .node (boot_o_10 P) (.node o0 (b65 P) (b66 P)) (.node o14 (b67 P) (b68 P))
def b70 (P : Params) : BT := .node o0 (.node o46 (lf o0) .nil) (lf o72)
def b71 (P : Params) : BT := .node o0 (.node o56 (lf o99) .nil) (lf o1)
def b72 (P : Params) : BT := .node o29 (.node o51 (lf o94) .nil) (lf o0)
def b73 (P : Params) : BT := .node (o39 P) (lf o64) (lf o85)
def b74 (P : Params) : BT := .node o3 (.node o0 (b70 P) (b71 P)) (.node (o17 P) (b72 P) (b73 P))
def T2 (P : Params) : BT := .node (boot_o_0 P) (.node (boot_o_1 P) (.node (o43 P) (b39 P) (b44 P)) (.node (boot_o_5 P) (b49 P) (b54 P))) (.node (boot_o_2 P) (.node (boot_o_4 P) (b59 P) (b64 P)) (.node (boot_o_6 P) (b69 P) (b74 P)))
def o101 (P : Params) : Obj := ⟨.type "dict",none,(.dict #[ek P "__name__" 165 (.str "law_testedrows_k24_rows_written" 529),ek P "__doc__" 166 .none,ek P "__package__" 167 .none,ek P "__loader__" 168 (.builtin "__main__.__loader__#opaque"),ek P "__spec__" 169 .none,ek P "__annotations__" 170 (.ref 6),ek P "__builtins__" 171 (.ref 4),ek P "__file__" 173 (.str "/claim/cut.py" 172),ek P "__cached__" 174 .none,ek P "RowsError" 206 (.ref 24),ek P "BadTested" 233 (.ref 44),ek P "BadText" 258 (.ref 63),ek P "WORTHS" 262 (.int 10007 261),ek P "is_number" 269 (.ref 72),ek P "is_within" 278 (.ref 79),ek P "is_worth" 285 (.ref 86),ek P "MOST_INS" 287 (.int 3 286),ek P "MOST_NAMES" 289 (.int 99 288),ek P "REGISTERS" 293 (.int 2000 292),ek P "TESTS" 295 (.int 2000 294),ek P "MOST_PIECES" 297 (.int 999 296),ek P "MOST_ROWS" 299 (.int 1500 298),ek P "MOST_GOES" 301 (.int 8 300),ek P "PLACES" 368 (.ref 87),ek P "check_tested" 378 (.ref 109),ek P "is_framed" 388 (.ref 116),ek P "check_piece" 401 (.ref 123),ek P "is_row" 411 (.ref 130),ek P "may_stand" 419 (.ref 137),ek P "is_test" 426 (.ref 144),ek P "are_goes" 435 (.ref 151),ek P "is_go" 445 (.ref 158),ek P "FIGURES" 449 (.str "0123456789" 448),ek P "MOST_OF_NUMBER" 451 (.int 5 450),ek P "MOST_OF_TEST" 453 (.int 4 452),ek P "MOST_OF_PIECE" 455 (.int 4 454),ek P "MOST_OF_NAME" 457 (.int 2 456),ek P "number_of" 463 (.ref 163),ek P "written_rows" 469 (.ref 168),ek P "line_of_go" 477 (.ref 175),ek P "read_rows" 483 (.ref 180),ek P "head_of" 490 (.ref 187),ek P "numbers_of" 496 (.ref 192),ek P "add_line" 505 (.ref 199),ek P "add_told" 514 (.ref 206),ek P "go_of" 522 (.ref 213),ek P "row_of" 528 (.ref 218),ek P "_law_dice" 539 (.ref 225),ek P "_law_next" 549 (.ref 232),ek P "_law_like" 558 (.ref 239),ek P "_law_some_row" 564 (.ref 244),ek P "_law_some_rows" 570 (.ref 249),ek P "_law_some_goes" 583 (.ref 256),ek P "_law_some_tested" 599 (.ref 263),ek P "_law_rows_text" 605 (.ref 268),ek P "law" 621 (.ref 275)] 56),#[]⟩
def o102 : Obj := ⟨.none,none,(.fields #[.int 2 0,.int 0 0,.ref 20,.int 4 0,.int 0 0,.ref 33,.int 9 0,.int 0 0,.ref 52,.int 15 0,.int 0 0,.ref 71,.int 17 0,.int 0 0,.ref 78,.int 19 0,.int 0 0,.ref 85,.int 30 0,.int 0 0,.ref 108,.int 36 0,.int 0 0,.ref 115,.int 43 0,.int 0 0,.ref 122,.int 54 0,.int 0 0,.ref 129,.int 64 0,.int 0 0,.ref 136,.int 70 0,.int 0 0,.ref 143,.int 72 0,.int 0 0,.ref 150,.int 79 0,.int 0 0,.ref 157,.int 90 0,.int 0 0,.ref 162,.int 98 0,.int 0 0,.ref 167,.int 107 0,.int 0 0,.ref 174,.int 111 0,.int 0 0,.ref 179,.int 123 0,.int 0 0,.ref 186,.int 127 0,.int 0 0,.ref 191,.int 132 0,.int 0 0,.ref 198,.int 141 0,.int 0 0,.ref 205,.int 145 0,.int 0 0,.ref 212,.int 150 0,.int 0 0,.ref 217,.int 157 0,.int 0 0,.ref 224,.int 162 0,.int 0 0,.ref 231,.int 174 0,.int 0 0,.ref 238,.int 191 0,.int 0 0,.ref 243,.int 215 0,.int 0 0,.ref 248,.int 221 0,.int 0 0,.ref 255,.int 227 0,.int 0 0,.ref 262,.int 236 0,.int 0 0,.ref 267,.int 243 0,.int 0 0,.ref 274]),#[]⟩
def o103 : Obj := ⟨.type "tuple",none,(.seq #[.str "go" 439,.str "pieces" 440,.str "test" 441,.str "piece" 442] 0),#[]⟩
def o104 : Obj := fnC "is_go" "is_go" (top 25)
def o105 : Obj := cd "is_go" 436 "is_go" 437 438 79 2 3 152 true 153 .none (.ref 154) (.ref 155) (.ref 156) 443 444
def o106 : Obj := fnO "is_go" "is_go" (top 25) 3 "testedrows.rows" 290 157
def o107 : Obj := fnC "number_of" "number_of" (top 32)
def o108 : Obj := cd "number_of" 458 "number_of" 459 460 90 2 3 159 true 160 .none .none .none (.ref 161) 461 462
def o109 : Obj := fnO "number_of" "number_of" (top 32) 3 "testedrows.notes" 446 162
def o110 : Obj := fnC "written_rows" "written_rows" (top 33)
def o111 : Obj := cd "written_rows" 464 "written_rows" 465 466 98 1 3 164 true 165 .none .none .none (.ref 166) 467 468
def o112 : Obj := fnO "written_rows" "written_rows" (top 33) 3 "testedrows.notes" 446 167
def o113 : Obj := ⟨.type "tuple",none,(.seq #[.str "test" 473,.str "piece" 474] 0),#[]⟩
def o114 : Obj := fnC "line_of_go" "line_of_go" (top 34)
def o115 : Obj := cd "line_of_go" 470 "line_of_go" 471 472 107 2 3 169 true 170 .none (.ref 171) (.ref 172) (.ref 173) 475 476
def o116 : Obj := fnO "line_of_go" "line_of_go" (top 34) 3 "testedrows.notes" 446 174
def o117 : Obj := fnC "read_rows" "read_rows" (top 35)
def o118 : Obj := cd "read_rows" 478 "read_rows" 479 480 111 1 3 176 true 177 .none .none .none (.ref 178) 481 482
def o119 : Obj := fnO "read_rows" "read_rows" (top 35) 3 "testedrows.notes" 446 179
def o120 : Obj := ⟨.type "tuple",none,(.seq #[.str "words" 487] 0),#[]⟩
def o121 : Obj := fnC "head_of" "head_of" (top 36)
def o122 : Obj := cd "head_of" 484 "head_of" 485 486 123 1 3 181 true 182 .none (.ref 183) (.ref 184) (.ref 185) 488 489
def o123 : Obj := fnO "head_of" "head_of" (top 36) 3 "testedrows.notes" 446 186
def o124 : Obj := fnC "numbers_of" "numbers_of" (top 37)
def o125 : Obj := cd "numbers_of" 491 "numbers_of" 492 493 127 2 3 188 true 189 .none .none .none (.ref 190) 494 495
def o126 : Obj := fnO "numbers_of" "numbers_of" (top 37) 3 "testedrows.notes" 446 191
def o127 : Obj := ⟨.type "tuple",none,(.seq #[.str "words" 500,.str "place" 501,.str "pieces" 502] 0),#[]⟩
def o128 : Obj := fnC "add_line" "add_line" (top 38)
def o129 : Obj := cd "add_line" 497 "add_line" 498 499 132 3 3 193 true 194 .none (.ref 195) (.ref 196) (.ref 197) 503 504
def o130 : Obj := fnO "add_line" "add_line" (top 38) 3 "testedrows.notes" 446 198
def o131 : Obj := ⟨.type "tuple",none,(.seq #[.str "told" 509,.str "place" 510,.str "held" 511] 0),#[]⟩
def o132 : Obj := fnC "add_told" "add_told" (top 39)
def o133 : Obj := cd "add_told" 506 "add_told" 507 508 141 3 3 200 true 201 .none (.ref 202) (.ref 203) (.ref 204) 512 513
def o134 : Obj := fnO "add_told" "add_told" (top 39) 3 "testedrows.notes" 446 205
def o135 : Obj := ⟨.type "tuple",none,(.seq #[.str "words" 518,.str "test" 519] 0),#[]⟩
def o136 : Obj := fnC "go_of" "go_of" (top 40)
def o137 : Obj := cd "go_of" 515 "go_of" 516 517 145 1 3 207 true 208 .none (.ref 209) (.ref 210) (.ref 211) 520 521
def o138 : Obj := fnO "go_of" "go_of" (top 40) 3 "testedrows.notes" 446 212
def o139 : Obj := fnC "row_of" "row_of" (top 41)
def o140 : Obj := cd "row_of" 523 "row_of" 524 525 150 1 3 214 true 215 .none .none .none (.ref 216) 526 527
def o141 : Obj := fnO "row_of" "row_of" (top 41) 3 "testedrows.notes" 446 217
def o142 : Obj := ⟨.type "tuple",none,(.seq #[.str "_law_script" 534,.str "_law_mixed" 535,.str "_law_cell" 536] 0),#[]⟩
def o143 : Obj := fnC "_law_dice" "_law_dice" (top 43)
def o144 : Obj := cd "_law_dice" 531 "_law_dice" 532 533 157 1 3 219 true 220 .none (.ref 221) (.ref 222) (.ref 223) 537 538
def o145 : Obj := fnO "_law_dice" "_law_dice" (top 43) 3 "law_testedrows_k24_rows_written" 529 224
def o146 : Obj := ⟨.type "tuple",none,(.seq #[.str "_law_dice_here" 543,.str "_law_many" 544,.str "_law_found" 545,.str "_law_cell" 546] 0),#[]⟩
def o147 : Obj := fnC "_law_next" "_law_next" (top 44)
def o148 : Obj := cd "_law_next" 540 "_law_next" 541 542 162 2 3 226 true 227 .none (.ref 228) (.ref 229) (.ref 230) 547 548
def o149 : Obj := fnO "_law_next" "_law_next" (top 44) 3 "law_testedrows_k24_rows_written" 529 231
def o150 : Obj := ⟨.type "tuple",none,(.seq #[.str "_law_found" 553,.str "_law_due" 554,.str "_law_k" 555] 0),#[]⟩
def o151 : Obj := fnC "_law_like" "_law_like" (top 45)
def o152 : Obj := cd "_law_like" 550 "_law_like" 551 552 174 2 3 233 true 234 .none (.ref 235) (.ref 236) (.ref 237) 556 557
def o153 : Obj := fnO "_law_like" "_law_like" (top 45) 3 "law_testedrows_k24_rows_written" 529 238
def o154 : Obj := fnC "_law_some_row" "_law_some_row" (top 46)
def o155 : Obj := cd "_law_some_row" 559 "_law_some_row" 560 561 191 2 3 240 true 241 .none .none .none (.ref 242) 562 563
def o156 : Obj := fnO "_law_some_row" "_law_some_row" (top 46) 3 "law_testedrows_k24_rows_written" 529 243
def o157 : Obj := fnC "_law_some_rows" "_law_some_rows" (top 47)
def o158 : Obj := cd "_law_some_rows" 565 "_law_some_rows" 566 567 215 3 3 245 true 246 .none .none .none (.ref 247) 568 569
def o159 : Obj := fnO "_law_some_rows" "_law_some_rows" (top 47) 3 "law_testedrows_k24_rows_written" 529 248
def o160 : Obj := ⟨.type "tuple",none,(.seq #[.str "_law_d" 574,.str "_law_made" 575,.str "_law_off" 576,.str "_law_many" 577,.str "_law_found" 578,.str "_law_k" 579,.str "_law_test" 580] 0),#[]⟩
def o161 : Obj := fnC "_law_some_goes" "_law_some_goes" (top 48)
def o162 : Obj := cd "_law_some_goes" 571 "_law_some_goes" 572 573 221 4 3 250 true 251 .none (.ref 252) (.ref 253) (.ref 254) 581 582
def o163 : Obj := fnO "_law_some_goes" "_law_some_goes" (top 48) 3 "law_testedrows_k24_rows_written" 529 255
def o164 : Obj := ⟨.type "tuple",none,(.seq #[.str "_law_d" 587,.str "_law_most" 588,.str "_law_ins" 589,.str "_law_names" 590,.str "_law_many" 591,.str "_law_pieces" 592,.str "_law_k" 593,.str "_law_rows" 594,.str "_law_made" 595,.str "_law_off" 596] 0),#[]⟩
def o165 : Obj := fnC "_law_some_tested" "_law_some_tested" (top 49)
def o166 : Obj := cd "_law_some_tested" 584 "_law_some_tested" 585 586 227 2 3 257 true 258 .none (.ref 259) (.ref 260) (.ref 261) 597 598
def o167 : Obj := fnO "_law_some_tested" "_law_some_tested" (top 49) 3 "law_testedrows_k24_rows_written" 529 262
def o168 : Obj := fnC "_law_rows_text" "_law_rows_text" (top 50)
def o169 : Obj := cd "_law_rows_text" 600 "_law_rows_text" 601 602 236 1 3 264 true 265 .none .none .none (.ref 266) 603 604
def o170 : Obj := fnO "_law_rows_text" "_law_rows_text" (top 50) 3 "law_testedrows_k24_rows_written" 529 267
def o171 : Obj := ⟨.type "tuple",none,(.seq #[.str "_law_script" 609,.str "_law_d" 610,.str "_law_turn" 611,.str "_law_ins" 612,.str "_law_names" 613,.str "_law_pieces" 614,.str "_law_tested" 615,.str "_law_text" 616,.str "_law_again" 617,.str "_law_found" 618] 0),#[]⟩
def o172 : Obj := fnC "law" "law" (top 51)
def o173 : Obj := cd "law" 606 "law" 607 608 243 1 3 269 true 270 .none (.ref 271) (.ref 272) (.ref 273) 619 620
def o174 : Obj := fnO "law" "law" (top 51) 3 "law_testedrows_k24_rows_written" 529 274
def st2 : List Stmt := (bdy.drop 25).take 27
def b75 (P : Params) : BT := .node o0 (.node o40 (.node o0 (lf o162) .nil) (lf o125)) (.node o65 (lf o0) (lf o143))
def b76 (P : Params) : BT := .node o16 (.node o52 (.node o95 (lf o171) .nil) (lf o0)) (.node o1 (lf o116) (lf o153))
def b77 (P : Params) : BT := .node o22 (.node o47 (.node o90 (lf o167) .nil) (lf o130)) (.node o0 (lf o111) (lf o148))
def b78 (P : Params) : BT := .node o1 (.node (o57 P) (lf o100) (lf o1)) (.node o81 (lf o120) (lf o157))
def b79 (P : Params) : BT := .node (boot_o_7 P) (.node o6 (b75 P) (b76 P)) (.node (o11 P) (b77 P) (b78 P))
def b80 (P : Params) : BT := .node o0 (.node o1 (.node o0 (lf o164) .nil) (lf o127)) (.node o69 (lf o109) (lf o1))
def b81 (P : Params) : BT := .node o31 (.node o0 (.node o97 (lf o174) .nil) (lf o136)) (.node o79 (lf o118) (lf o155))
def b82 (P : Params) : BT := .node (o26 P) (.node o49 (.node o1 (lf o169) .nil) (lf o0)) (.node o74 (lf o113) (lf o150))
def b83 (P : Params) : BT := .node o36 (.node o61 (lf o0) (lf o0)) (.node o84 (lf o123) (lf o1))
def b84 (P : Params) : BT := .node o0 (.node o1 (b80 P) (b81 P)) (.node o15 (b82 P) (b83 P))
def b85 (P : Params) : BT := .node o19 (.node o42 (.node o87 (lf o0) .nil) (lf o0)) (.node o67 (lf o107) (lf o145))
def b86 (P : Params) : BT := .node (o30 P) (.node o1 (.node o0 (lf o172) .nil) (lf o135)) (.node o0 (lf o1) (lf o1))
def b87 (P : Params) : BT := .node o24 (.node o0 (.node o92 (lf o1) .nil) (lf o1)) (.node o73 (lf o0) (lf o0))
def b88 (P : Params) : BT := .node o0 (.node o59 (lf o1) (lf o140)) (.node o82 (lf o121) (lf o159))
def b89 (P : Params) : BT := .node (boot_o_9 P) (.node (o8 P) (b85 P) (b86 P)) (.node o13 (b87 P) (b88 P))
def b90 (P : Params) : BT := .node o21 (.node o0 (.node o89 (lf o165) .nil) (lf o128)) (.node o71 (lf o1) (lf o0))
def b91 (P : Params) : BT := .node o33 (.node o55 (lf o98) (lf o138)) (.node o0 (lf o0) (lf o0))
def b92 (P : Params) : BT := .node o28 (.node o50 (.node o0 (lf o0) .nil) (lf o133)) (.node o76 (lf o114) (lf o151))
def b93 (P : Params) : BT := .node o38 (.node o63 (lf o105) (lf o142)) (.node o1 (lf o1) (lf o0))
def b94 (P : Params) : BT := .node o2 (.node o10 (b90 P) (b91 P)) (.node o7 (b92 P) (b93 P))
def b95 (P : Params) : BT := .node o18 (.node o41 (.node o86 (lf o163) .nil) (lf o126)) (.node o66 (lf o1) (lf o144))
def b96 (P : Params) : BT := .node o7 (.node o0 (.node o96 (lf o0) .nil) (lf o1)) (.node o77 (lf o0) (lf o0))
def b97 (P : Params) : BT := .node o23 (.node o48 (.node o91 (lf o0) .nil) (lf o0)) (.node o1 (lf o112) (lf o149))
def b98 (P : Params) : BT := .node o34 (.node o58 (lf o0) (lf o139)) (.node o0 (lf o0) (lf o158))
def b99 (P : Params) : BT := .node (boot_o_8 P) (.node o7 (b95 P) (b96 P)) (.node o12 (b97 P) (b98 P))
def b100 (P : Params) : BT := .node o1 (.node o45 (.node o1 (lf o0) .nil) (lf o0)) (.node o70 (lf o0) (lf o146))
def b101 (P : Params) : BT := .node o32 (.node o54 (lf o0) (lf o137)) (.node o80 (lf o119) (lf o156))
def b102 (P : Params) : BT := .node o27 (.node o0 (.node o93 (lf o170) .nil) (lf o132)) (.node o75 (lf o0) (lf o0))
def b103 (P : Params) : BT := .node o37 (.node o62 (lf o104) (lf o1)) (.node o0 (lf o0) (lf o160))
def b104 (P : Params) : BT := .node o102 (.node o9 (b100 P) (b101 P)) (.node o16 (b102 P) (b103 P))
def b105 (P : Params) : BT := .node o20 (.node o0 (.node o88 (lf o1) .nil) (lf o1)) (.node o68 (lf o108) (lf o0))
def b106 (P : Params) : BT := .node o0 (.node o53 (.node o1 (lf o173) .nil) (lf o0)) (.node o78 (lf o117) (lf o154))
def b107 (P : Params) : BT := .node o25 (.node o1 (.node o0 (lf o168) .nil) (lf o131)) (.node o0 (lf o1) (lf o1))
def b108 (P : Params) : BT := .node o35 (.node o60 (lf o103) (lf o141)) (.node o83 (lf o122) (lf o0))
def b109 (P : Params) : BT := .node (boot_o_10 P) (.node o0 (b105 P) (b106 P)) (.node o14 (b107 P) (b108 P))
def b110 (P : Params) : BT := .node o0 (.node o46 (.node o0 (lf o166) .nil) (lf o129)) (.node o72 (lf o110) (lf o147))
def b111 (P : Params) : BT := .node o0 (.node o56 (lf o99) (lf o0)) (.node o1 (lf o1) (lf o1))
def b112 (P : Params) : BT := .node o29 (.node o51 (.node o94 (lf o1) .nil) (lf o134)) (.node o0 (lf o115) (lf o152))
def b113 (P : Params) : BT := .node (o39 P) (.node o64 (lf o106) (lf o0)) (.node o85 (lf o124) (lf o161))
def b114 (P : Params) : BT := .node o3 (.node o0 (b110 P) (b111 P)) (.node (o17 P) (b112 P) (b113 P))
def T3 (P : Params) : BT := .node (boot_o_0 P) (.node (boot_o_1 P) (.node (o101 P) (b79 P) (b84 P)) (.node (boot_o_5 P) (b89 P) (b94 P))) (.node (boot_o_2 P) (.node (boot_o_4 P) (b99 P) (b104 P)) (.node (boot_o_6 P) (b109 P) (b114 P)))
def h17 (P : Params) : List Obj := o0 :: o172 :: o173 :: o174 :: []
def h16 (P : Params) : List Obj := o163 :: o0 :: o1 :: o164 :: o0 :: o165 :: o166 :: o167 :: o0 :: o1 :: o168 :: o169 :: o170 :: o0 :: o1 :: o171 :: h17 P
def h15 (P : Params) : List Obj := o0 :: o1 :: o154 :: o155 :: o156 :: o0 :: o1 :: o157 :: o158 :: o159 :: o0 :: o1 :: o160 :: o0 :: o161 :: o162 :: h16 P
def h14 (P : Params) : List Obj := o144 :: o145 :: o0 :: o1 :: o146 :: o0 :: o147 :: o148 :: o149 :: o0 :: o1 :: o150 :: o0 :: o151 :: o152 :: o153 :: h15 P
def h13 (P : Params) : List Obj := o1 :: o135 :: o0 :: o136 :: o137 :: o138 :: o0 :: o1 :: o139 :: o140 :: o141 :: o0 :: o1 :: o142 :: o0 :: o143 :: h14 P
def h12 (P : Params) : List Obj := o126 :: o0 :: o1 :: o127 :: o0 :: o128 :: o129 :: o130 :: o0 :: o1 :: o131 :: o0 :: o132 :: o133 :: o134 :: o0 :: h13 P
def h11 (P : Params) : List Obj := o0 :: o1 :: o117 :: o118 :: o119 :: o0 :: o1 :: o120 :: o0 :: o121 :: o122 :: o123 :: o0 :: o1 :: o124 :: o125 :: h12 P
def h10 (P : Params) : List Obj := o1 :: o107 :: o108 :: o109 :: o0 :: o1 :: o110 :: o111 :: o112 :: o0 :: o1 :: o113 :: o0 :: o114 :: o115 :: o116 :: h11 P
def h9 (P : Params) : List Obj := o96 :: o0 :: o1 :: o97 :: o0 :: o98 :: o99 :: o100 :: o0 :: o1 :: o103 :: o0 :: o104 :: o105 :: o106 :: o0 :: h10 P
def h8 (P : Params) : List Obj := o86 :: o87 :: o88 :: o0 :: o1 :: o89 :: o0 :: o90 :: o91 :: o92 :: o0 :: o1 :: o93 :: o0 :: o94 :: o95 :: h9 P
def h7 (P : Params) : List Obj := o77 :: o0 :: o78 :: o79 :: o80 :: o0 :: o1 :: o81 :: o0 :: o82 :: o83 :: o84 :: o0 :: o1 :: o85 :: o0 :: h8 P
def h6 (P : Params) : List Obj := o66 :: o67 :: o68 :: o69 :: o70 :: o71 :: o72 :: o0 :: o1 :: o73 :: o0 :: o74 :: o75 :: o76 :: o0 :: o1 :: h7 P
def h5 (P : Params) : List Obj := o0 :: o1 :: o53 :: o0 :: o54 :: o55 :: o56 :: (o57 P) :: o58 :: o59 :: o60 :: o61 :: o62 :: o63 :: o64 :: o65 :: h6 P
def h4 (P : Params) : List Obj := o41 :: o42 :: o0 :: o1 :: o45 :: o0 :: o46 :: o47 :: o48 :: o0 :: o1 :: o49 :: o0 :: o50 :: o51 :: o52 :: h5 P
def h3 (P : Params) : List Obj := o7 :: (o30 P) :: o0 :: o31 :: o32 :: o33 :: o0 :: o1 :: o34 :: o0 :: o35 :: o36 :: o37 :: o38 :: (o39 P) :: o40 :: h4 P
def h2 (P : Params) : List Obj := o18 :: o19 :: o20 :: o0 :: o1 :: o21 :: o0 :: o22 :: o23 :: o24 :: o25 :: (o26 P) :: o27 :: o28 :: o29 :: o16 :: h3 P
def h1 (P : Params) : List Obj := o7 :: (o8 P) :: o0 :: o1 :: o9 :: o10 :: o0 :: (o11 P) :: o12 :: o13 :: o14 :: o15 :: o16 :: o7 :: (o17 P) :: o0 :: h2 P
def h0 (P : Params) : List Obj := (boot_o_0 P) :: (boot_o_1 P) :: (boot_o_2 P) :: (o101 P) :: (boot_o_4 P) :: (boot_o_5 P) :: (boot_o_6 P) :: (boot_o_7 P) :: (boot_o_8 P) :: (boot_o_9 P) :: (boot_o_10 P) :: o0 :: o102 :: o2 :: o3 :: o6 :: h1 P
def H1 (P : Params) : Heap := ⟨⟨h0 P⟩,{}⟩
def k10 (P : Params) : PySem.W.Frag := (255,o162) :: (256,o163) :: (257,o0) :: (259,o164) :: (260,o0) :: (262,o166) :: (263,o167) :: (264,o0) :: (267,o169) :: (268,o170) :: (269,o0) :: (271,o171) :: (272,o0) :: (274,o173) :: (275,o174) :: []
def k9 (P : Params) : PySem.W.Frag := (231,o148) :: (232,o149) :: (233,o0) :: (235,o150) :: (236,o0) :: (238,o152) :: (239,o153) :: (240,o0) :: (243,o155) :: (244,o156) :: (245,o0) :: (248,o158) :: (249,o159) :: (250,o0) :: (252,o160) :: (253,o0) :: k10 P
def k8 (P : Params) : PySem.W.Frag := (207,o0) :: (209,o135) :: (210,o0) :: (212,o137) :: (213,o138) :: (214,o0) :: (217,o140) :: (218,o141) :: (219,o0) :: (221,o142) :: (222,o0) :: (224,o144) :: (225,o145) :: (226,o0) :: (228,o146) :: (229,o0) :: k9 P
def k7 (P : Params) : PySem.W.Frag := (184,o0) :: (186,o122) :: (187,o123) :: (188,o0) :: (191,o125) :: (192,o126) :: (193,o0) :: (195,o127) :: (196,o0) :: (198,o129) :: (199,o130) :: (200,o0) :: (202,o131) :: (203,o0) :: (205,o133) :: (206,o134) :: k8 P
def k6 (P : Params) : PySem.W.Frag := (159,o0) :: (162,o108) :: (163,o109) :: (164,o0) :: (167,o111) :: (168,o112) :: (169,o0) :: (171,o113) :: (172,o0) :: (174,o115) :: (175,o116) :: (176,o0) :: (179,o118) :: (180,o119) :: (181,o0) :: (183,o120) :: k7 P
def k5 (P : Params) : PySem.W.Frag := (137,o92) :: (138,o0) :: (140,o93) :: (141,o0) :: (143,o95) :: (144,o96) :: (145,o0) :: (147,o97) :: (148,o0) :: (150,o99) :: (151,o100) :: (152,o0) :: (154,o103) :: (155,o0) :: (157,o105) :: (158,o106) :: k6 P
def k4 (P : Params) : PySem.W.Frag := (115,o79) :: (116,o80) :: (117,o0) :: (119,o81) :: (120,o0) :: (122,o83) :: (123,o84) :: (124,o0) :: (126,o85) :: (127,o0) :: (129,o87) :: (130,o88) :: (131,o0) :: (133,o89) :: (134,o0) :: (136,o91) :: k5 P
def k3 (P : Params) : PySem.W.Frag := (95,o65) :: (96,o66) :: (97,o67) :: (98,o68) :: (99,o69) :: (100,o70) :: (101,o71) :: (102,o72) :: (103,o0) :: (105,o73) :: (106,o0) :: (108,o75) :: (109,o76) :: (110,o0) :: (112,o77) :: (113,o0) :: k4 P
def k2 (P : Params) : PySem.W.Frag := (76,o0) :: (78,o51) :: (79,o52) :: (80,o0) :: (82,o53) :: (83,o0) :: (85,o55) :: (86,o56) :: (87,(o57 P)) :: (88,o58) :: (89,o59) :: (90,o60) :: (91,o61) :: (92,o62) :: (93,o63) :: (94,o64) :: k3 P
def k1 (P : Params) : PySem.W.Frag := (47,o16) :: (54,o0) :: (56,o34) :: (57,o0) :: (59,o36) :: (60,o37) :: (61,o38) :: (62,(o39 P)) :: (63,o40) :: (66,o0) :: (68,o45) :: (69,o0) :: (71,o47) :: (72,o48) :: (73,o0) :: (75,o49) :: k2 P
def k0 (P : Params) : PySem.W.Frag := (2,(boot_o_2 P)) :: (3,(o101 P)) :: (15,o6) :: (22,o0) :: (23,(o11 P)) :: (24,o12) :: (25,o13) :: (28,o16) :: (35,o0) :: (37,o21) :: (38,o0) :: (40,o23) :: (41,o24) :: (42,o25) :: (43,(o26 P)) :: (44,o27) :: k1 P
def K (P : Params) : PySem.W.Frag := k0 P
def ks : List Addr := [2,3,15,22,23,24,25,28,35,37,38,40,41,42,43,44,47,54,56,57,59,60,61,62,63,66,68,69,71,72,73,75,76,78,79,80,82,83,85,86,87,88,89,90,91,92,93,94,95,96,97,98,99,100,101,102,103,105,106,108,109,110,112,113,115,116,117,119,120,122,123,124,126,127,129,130,131,133,134,136,137,138,140,141,143,144,145,147,148,150,151,152,154,155,157,158,159,162,163,164,167,168,169,171,172,174,175,176,179,180,181,183,184,186,187,188,191,192,193,195,196,198,199,200,202,203,205,206,207,209,210,212,213,214,217,218,219,221,222,224,225,226,228,229,231,232,233,235,236,238,239,240,243,244,245,248,249,250,252,253,255,256,257,259,260,262,263,264,267,268,269,271,272,274,275]
abbrev hk : Hook := kHook K ks (fun _ => by kernel_rfl)
abbrev Xt : Shared → Bool := fun s => xlAt vw [] s && recOk (RowW.records PySem.Challenge.rw_testedrows_k24_rows_written.row.toRowW) s
def tru {α : Type} (_ : α) : Bool := true
theorem pr0 : tru prg = true := by k_qdec
theorem pr1 : tru bdy = true := by k_qdec
theorem pr2 : tru env = true := by k_qdec
theorem pr3 : tru cod = true := by k_qdec
theorem pr4 : tru vw = true := by k_qdec
theorem pr5 : tru lse = true := by k_qdec
theorem pr6 : tru Ha = true := by k_qdec
theorem pr7 : tru T0 = true := by k_qdec
theorem pr8 : tru st0 = true := by k_qdec
theorem pr9 : tru T1 = true := by k_qdec
theorem pr10 : tru st1 = true := by k_qdec
theorem pr11 : tru T2 = true := by k_qdec
theorem pr12 : tru st2 = true := by k_qdec
theorem pr13 : tru T3 = true := by k_qdec
theorem pr14 : tru H1 = true := by k_qdec
theorem pre0 (w : World) (os : OsState) : topGo treeTable prg w 11 (some (.ref 6)) 12 ⟨boot_heap w.params,⟨[]⟩,boot_drawn,boot_toks,os⟩ (topStub prg) = some (⟨Ha w.params,⟨[]⟩,⟨0,0,0,0⟩,187,os⟩,⟨denote treeTable (.body bdy env),cod,⟨0,0,0,0⟩,[topFrame ⟨0,0,0,0⟩]⟩) := by
 (try rewrite [Fast.te8360927449465130689]);(try rewrite [Fast.te533305101018253508]);(try rewrite [Fast.te17219232590832254745]);(try rewrite [Fast.te1436819831676004968]);(try rewrite [Fast.te16276711146888716494]);(try rewrite [Fast.te14364793385576792824]);(try rewrite [Fast.te15667345088766844465]);(try rewrite [Fast.te14374325043358763698]);(try rewrite [Fast.te10110043849684766642]);(try rewrite [Fast.te14082659384304107361]);(try rewrite [Fast.te11892475500146522536]);kernel_rfl
theorem blk0 (w : World) (os : OsState) : segRun treeTable prg w 11 (some (.ref 6)) 1 1 ⟨Ha w.params,⟨[]⟩,⟨0,0,0,0⟩,187,os⟩ (blockOf bdy env cod ⟨0,0,0,0⟩ [topFrame ⟨0,0,0,0⟩]) = some (Flow.next,SharedT.abs ⟨T0 w.params,15,{},⟨[]⟩,⟨0,0,0,0⟩,187,os⟩,cod,⟨0,0,0,0⟩) := by
 (try rewrite [Fast.te8360927449465130689]);(try rewrite [Fast.te533305101018253508]);(try rewrite [Fast.te17219232590832254745]);(try rewrite [Fast.te1436819831676004968]);(try rewrite [Fast.te16276711146888716494]);(try rewrite [Fast.te9439340555799570130]);(try rewrite [Fast.te14364793385576792824]);(try rewrite [Fast.te15667345088766844465]);(try rewrite [Fast.te14374325043358763698]);(try rewrite [Fast.te10110043849684766642]);(try rewrite [Fast.te14082659384304107361]);(try rewrite [Fast.te11892475500146522536]);kernel_rfl
theorem p0 (w : World) (os : OsState) : segRunT treeTable prg w 11 (some (.ref 6)) 1 697 ⟨T0 w.params,15,{},⟨[]⟩,⟨0,0,0,0⟩,187,os⟩ (piecesOf st0 env cod ⟨0,0,0,0⟩ [topFrame ⟨0,0,0,0⟩]) = some (Flow.next,⟨T1 w.params,66,{},⟨[]⟩,⟨0,0,0,0⟩,261,os⟩,cod,⟨13,0,13,8⟩) := by
 (try rewrite [Fast.te8360927449465130689]);(try rewrite [Fast.te15580829195661447008]);(try rewrite [Fast.te17219232590832254745]);(try rewrite [Fast.te1436819831676004968]);(try rewrite [Fast.te16276711146888716494]);(try rewrite [Fast.te9439340555799570130]);(try rewrite [Fast.te10802287469023316999]);(try rewrite [Fast.te14364793385576792824]);(try rewrite [Fast.te15667345088766844465]);(try rewrite [Fast.te14374325043358763698]);(try rewrite [Fast.te10110043849684766642]);(try rewrite [Fast.te14082659384304107361]);(try rewrite [Fast.te11892475500146522536]);kernel_rfl
set_option hygiene false in
local macro_rules | `(tactic| walk_at "tw0") => `(tactic| ((try rewrite [Fast.te8360927449465130689]);(try rewrite [Fast.te12105628255999718586]);(try rewrite [Fast.te17219232590832254745]);(try rewrite [Fast.te1436819831676004968]);(try rewrite [Fast.te16276711146888716494]);(try rewrite [Fast.te10802287469023316999]);(try rewrite [Fast.te10051082598678950850]);(try rewrite [Fast.te14364793385576792824]);(try rewrite [Fast.te15667345088766844465]);(try rewrite [Fast.te14374325043358763698]);(try rewrite [Fast.te10110043849684766642]);(try rewrite [Fast.te14082659384304107361]);(try rewrite [Fast.te11892475500146522536]);kernel_rfl))
set_option hygiene false in
local macro_rules | `(tactic| walk_at "tw1") => `(tactic| ((try rewrite [Fast.te8360927449465130689]);(try rewrite [Fast.te7000725165481098050]);(try rewrite [Fast.te9078813178301593230]);(try rewrite [Fast.te16396366214539813569]);(try rewrite [Fast.te5923862056798008813]);(try rewrite [Fast.te8920871248978507458]);(try rewrite [Fast.te5160383126252970620]);(try rewrite [PySem.W.R.mapR_eq]);(try rewrite [Fast.te3399658132070893891]);(try rewrite [Fast.te5991557255702980513]);(try rewrite [Fast.te10880121769531294198]);(try rewrite [Fast.te821141287760084731]);(try rewrite [Fast.te7409074990110511671]);(try rewrite [Fast.te13664370479719496447]);(try rewrite [Fast.te14722251495701143533]);(try rewrite [Fast.te10994771534591457954]);(try rewrite [Fast.te479339242167458305]);(try rewrite [Fast.te16090120013241838585]);(try rewrite [Fast.te3247288618530077131]);(try rewrite [Fast.te2386780881361962483]);(try rewrite [Fast.te11698064438423848299]);(try rewrite [Fast.te7317090234206586261]);(try rewrite [Fast.te7369524293546568484]);(try rewrite [Fast.te2368527892694137696]);(try rewrite [Fast.te2331645881077049542]);kernel_rfl))
theorem jk4 (w : World) (os : OsState) : segRunT treeTable prg (w.withFollow "special-get-raises" false) 11 (some (.ref 6)) 1 678 ⟨T1 (w.withFollow "special-get-raises" false).params,66,{},⟨[]⟩,⟨0,0,0,0⟩,261,os⟩ (piecesOf st1 env cod ⟨13,0,13,8⟩ [topFrame ⟨0,0,0,0⟩]) = some (Flow.next,⟨T2 (w.withFollow "special-get-raises" false).params,152,{},⟨[]⟩,⟨0,0,0,0⟩,436,os⟩,cod,⟨72,0,78,27⟩) := by
 walk_at "tw0"
theorem jlM (w : World) (os : OsState) : segRunT treeTable prg (w.withFollow "special-get-raises" true) 11 (some (.ref 6)) 1 678 ⟨T1 (w.withFollow "special-get-raises" true).params,66,{},⟨[]⟩,⟨0,0,0,0⟩,261,os⟩ (piecesOf st1 env cod ⟨13,0,13,8⟩ [topFrame ⟨0,0,0,0⟩]) = some (Flow.next,⟨T2 (w.withFollow "special-get-raises" true).params,152,{},⟨[]⟩,⟨0,0,0,0⟩,436,os⟩,cod,⟨72,0,78,27⟩) := by
 walk_at "tw0"
theorem p1 (w : World) (os : OsState) : segRunT treeTable prg w 11 (some (.ref 6)) 1 678 ⟨T1 w.params,66,{},⟨[]⟩,⟨0,0,0,0⟩,261,os⟩ (piecesOf st1 env cod ⟨13,0,13,8⟩ [topFrame ⟨0,0,0,0⟩]) = some (Flow.next,⟨T2 w.params,152,{},⟨[]⟩,⟨0,0,0,0⟩,436,os⟩,cod,⟨72,0,78,27⟩) :=
 byRow2 "special-get-raises" (P := fun w => segRunT treeTable prg w 11 (some (.ref 6)) 1 678 ⟨T1 w.params,66,{},⟨[]⟩,⟨0,0,0,0⟩,261,os⟩ (piecesOf st1 env cod ⟨13,0,13,8⟩ [topFrame ⟨0,0,0,0⟩]) = some (Flow.next,⟨T2 w.params,152,{},⟨[]⟩,⟨0,0,0,0⟩,436,os⟩,cod,⟨72,0,78,27⟩)) (fun w => jk4 w os) (fun w => jlM w os) w
theorem p2 (w : World) (os : OsState) : segRunT treeTable prg w 11 (some (.ref 6)) 1 660 ⟨T2 w.params,152,{},⟨[]⟩,⟨0,0,0,0⟩,436,os⟩ (piecesOf st2 env cod ⟨72,0,78,27⟩ [topFrame ⟨0,0,0,0⟩]) = some (Flow.next,⟨T3 w.params,276,{},⟨[]⟩,⟨0,0,0,0⟩,622,os⟩,cod,⟨243,0,257,15⟩) := by
 (try rewrite [Fast.te8360927449465130689]);(try rewrite [Fast.te1904133582809848148]);(try rewrite [Fast.te17219232590832254745]);(try rewrite [Fast.te1436819831676004968]);(try rewrite [Fast.te16276711146888716494]);(try rewrite [Fast.te10051082598678950850]);(try rewrite [Fast.te6142898774861802914]);(try rewrite [Fast.te14364793385576792824]);(try rewrite [Fast.te15667345088766844465]);(try rewrite [Fast.te14374325043358763698]);(try rewrite [Fast.te10110043849684766642]);(try rewrite [Fast.te14082659384304107361]);(try rewrite [Fast.te11892475500146522536]);kernel_rfl
theorem fin0 (w : World) (os : OsState) : topRun treeTable prg w 11 (some (.ref 6)) 2 (SharedT.abs ⟨T3 w.params,276,{},⟨[]⟩,⟨0,0,0,0⟩,622,os⟩) ⟨doneF .next,cod,⟨243,0,257,15⟩,[topFrame ⟨0,0,0,0⟩]⟩ = some ⟨H1 w.params,⟨[]⟩,⟨0,0,0,0⟩,622,os⟩ := by
 (try rewrite [Fast.te8360927449465130689]);(try rewrite [Fast.te17219232590832254745]);(try rewrite [Fast.te1436819831676004968]);(try rewrite [Fast.te16276711146888716494]);(try rewrite [Fast.te6142898774861802914]);(try rewrite [Fast.te16396366214539813569]);(try rewrite [Fast.te14364793385576792824]);(try rewrite [Fast.te15667345088766844465]);(try rewrite [Fast.te14374325043358763698]);(try rewrite [Fast.te10110043849684766642]);(try rewrite [Fast.te14082659384304107361]);(try rewrite [Fast.te11892475500146522536]);kernel_rfl
theorem jm2 : bdy = st0 ++ (st1 ++ (st2 ++ ([]))) := by kernel_rfl
theorem jms (w : World) (os : OsState) : topRun treeTable prg w 11 (some (.ref 6)) (697 + (678 + (660 + 2))) (SharedT.abs ⟨T0 w.params,15,{},⟨[]⟩,⟨0,0,0,0⟩,187,os⟩) (restOf (st0 ++ (st1 ++ (st2 ++ ([])))) env cod ⟨0,0,0,0⟩ [topFrame ⟨0,0,0,0⟩]) = some ⟨H1 w.params,⟨[]⟩,⟨0,0,0,0⟩,622,os⟩ :=
 piece_app (segRun_of (p0 w os)) (piece_app (segRun_of (p1 w os)) (piece_app (segRun_of (p2 w os)) (piece_nil (fin0 w os))))
theorem run0 (w : World) (os : OsState) : topRun treeTable prg w 11 (some (.ref 6)) (12 + (1 + (697 + (678 + (660 + 2))))) ⟨boot_heap w.params,⟨[]⟩,boot_drawn,boot_toks,os⟩ (topStub prg) = some ⟨H1 w.params,⟨[]⟩,⟨0,0,0,0⟩,622,os⟩ :=
 go_top (pre0 w os) (piece_block (blk0 w os) (by rw [jm2];exact jms w os))
theorem jmr (w : World) : ((boot_heap w.params).isNs mainGlobals && (⟨[]⟩ : Array GenState).size == 0,(boot_heap w.params).objs.size,(boot_heap w.params).nsMap mainGlobals "__annotations__") = (true,11,(some (.ref 6))) := by kernel_rfl
theorem lk1 (w : World) (os : OsState) : (staticsOk (importedModules prg.main.body) (boot_heap w.params) (H1 w.params) && namesBound prg (H1 w.params) && gensDone ⟨H1 w.params,⟨[]⟩,⟨0,0,0,0⟩,622,os⟩ && laidKept (boot_heap w.params) (H1 w.params)) = true := by
 walk_at "tw1"
theorem jmX (w : World) (os : OsState) : seen ((recsOf vw).map (·.name)) (ownsOf vw) [] { (⟨H1 w.params,⟨[]⟩,⟨0,0,0,0⟩,622,os⟩ : Shared) with gens := #[] } = expectedOf vw := by
 walk_at "tw1"
theorem jmW (w : World) (os : OsState) : (⟨H1 w.params,⟨[]⟩,⟨0,0,0,0⟩,622,os⟩ : Shared).heap.bltView = bltViewBooted := by
 walk_at "tw1"
theorem jmV (w : World) (os : OsState) : ((⟨H1 w.params,⟨[]⟩,⟨0,0,0,0⟩,622,os⟩ : Shared).heap.keysOk (looseW vw lse) ((recsOf vw).map (·.name)) ((litsOf vw).map (·.1)) ((clssOf vw (looseW vw lse)).map (·.name)) && (⟨H1 w.params,⟨[]⟩,⟨0,0,0,0⟩,622,os⟩ : Shared).heap.accountedOkI (importedModules prg.main.body) && (⟨H1 w.params,⟨[]⟩,⟨0,0,0,0⟩,622,os⟩ : Shared).heap.isNs mainGlobals && (⟨H1 w.params,⟨[]⟩,⟨0,0,0,0⟩,622,os⟩ : Shared).heap.isNs builtinsNs && tablesOk vw (⟨H1 w.params,⟨[]⟩,⟨0,0,0,0⟩,622,os⟩ : Shared).heap && Xt ⟨H1 w.params,⟨[]⟩,⟨0,0,0,0⟩,622,os⟩ && (if true = true then (⟨H1 w.params,⟨[]⟩,⟨0,0,0,0⟩,622,os⟩ : Shared).gens.size == 0 else !leftWithCleanup (⟨H1 w.params,⟨[]⟩,⟨0,0,0,0⟩,622,os⟩ : Shared).gens)) = true := by
 walk_at "tw1"
theorem jmU (w : World) (os : OsState) : tabsOk vw ⟨H1 w.params,⟨[]⟩,⟨0,0,0,0⟩,622,os⟩ = true := by
 walk_at "tw1"
theorem jmT (w : World) (os : OsState) : pinSeenD vw (drecsOf vw) ⟨H1 w.params,⟨[]⟩,⟨0,0,0,0⟩,622,os⟩ = pinGoodD (drecsOf vw) := by
 walk_at "tw1"
theorem jmS (w : World) (os : OsState) : plainSeenE vw (looseW vw lse) ⟨H1 w.params,⟨[]⟩,⟨0,0,0,0⟩,622,os⟩ = plainGoodE vw (looseW vw lse) := by
 walk_at "tw1"
theorem jmR (w : World) (os : OsState) : plainSeenD vw lse ⟨H1 w.params,⟨[]⟩,⟨0,0,0,0⟩,622,os⟩ = plainGoodD vw lse := by
 walk_at "tw1"
theorem jmQ (w : World) (os : OsState) : wideSeen vw ⟨H1 w.params,⟨[]⟩,⟨0,0,0,0⟩,622,os⟩ = wideGood vw := by
 walk_at "tw1"
theorem jmP (w : World) (os : OsState) : clsSeenW vw lse ⟨H1 w.params,⟨[]⟩,⟨0,0,0,0⟩,622,os⟩ = clsGoodW vw lse := by
 walk_at "tw1"
theorem lk2 (w : World) (os : OsState) : openSeen vw lse (importedModules prg.main.body) Xt true ⟨H1 w.params,⟨[]⟩,⟨0,0,0,0⟩,622,os⟩ = openGood vw lse := by
 unfold openSeen openGood
 exact looks_pair (jmX w os) (looks_pair (jmW w os) (looks_pair (jmV w os) (looks_pair (jmU w os) (looks_pair (jmT w os) (looks_pair (jmS w os) (looks_pair (jmR w os) (looks_pair (jmQ w os) (jmP w os))))))))
theorem lk3 (w : World) (os : OsState) : (Hook.obs hk) ⟨H1 w.params,⟨[]⟩,⟨0,0,0,0⟩,622,os⟩ = Hook.val hk w := by kernel_rfl
theorem left : LeftO prg vw lse Xt (Hook.obs hk) (Hook.val hk) 4190 :=
 LeftO.of_pieces (boot_open (by kernel_rfl) (by rfl) (by intro s;kernel_rfl)) jmr run0 (by rfl) (fun w => funext fun os => looks_pair (lk1 w os) (looks_pair (lk2 w os) (lk3 w os)))
def dd : DefRec := ⟨"law",L2.defArgs (top 51),L2.defBody (top 51),L2.defScope (top 51),⟨243,0,257,15⟩⟩
end
end Hd
end
section
namespace K3
open PySem L2
abbrev NmD (x : Str) : Prop := (x == ("__debug__" : Str)) = false
abbrev NmC (x : Str) : Prop := (x == ("__classdict__" : Str)) = false
theorem jhi : NmD "FIGURES" := by decide +kernel
theorem jfD : NmD "MOST_GOES" := by decide +kernel
theorem jgv : NmD "MOST_INS" := by decide +kernel
theorem jex : NmD "MOST_NAMES" := by decide +kernel
theorem gZ : NmD "MOST_OF_NAME" := by decide +kernel
theorem jb3 : NmD "MOST_OF_NUMBER" := by decide +kernel
theorem jcz : NmD "MOST_OF_PIECE" := by decide +kernel
theorem yI : NmD "MOST_OF_TEST" := by decide +kernel
theorem jd5 : NmD "MOST_PIECES" := by decide +kernel
theorem jfC : NmD "MOST_ROWS" := by decide +kernel
theorem jcy : NmD "PLACES" := by decide +kernel
theorem jfB : NmD "REGISTERS" := by decide +kernel
theorem jgu : NmD "TESTS" := by decide +kernel
theorem jio : NmD "WORTHS" := by decide +kernel
theorem uz : NmD "_law_cell" := by decide +kernel
theorem uA : NmC "_law_cell" := by decide +kernel
theorem jM : NmD "_law_d" := by decide +kernel
theorem jN : NmC "_law_d" := by decide +kernel
theorem jgq : NmD "_law_dice" := by decide +kernel
theorem jG : NmD "_law_dice_here" := by decide +kernel
theorem jH : NmC "_law_dice_here" := by decide +kernel
theorem jR : NmD "_law_due" := by decide +kernel
theorem jS : NmC "_law_due" := by decide +kernel
theorem jq : NmD "_law_found" := by decide +kernel
theorem jr : NmC "_law_found" := by decide +kernel
theorem jcP : NmD "_law_goal" := by decide +kernel
theorem jcU : NmC "_law_goal" := by decide +kernel
theorem jgp : NmD "_law_goes" := by decide +kernel
theorem jgB : NmC "_law_goes" := by decide +kernel
theorem jbt : NmD "_law_ins" := by decide +kernel
theorem jbx : NmC "_law_ins" := by decide +kernel
theorem jgo : NmD "_law_k" := by decide +kernel
theorem jgA : NmC "_law_k" := by decide +kernel
theorem jaI : NmD "_law_like" := by decide +kernel
theorem yr : NmD "_law_made" := by decide +kernel
theorem yu : NmC "_law_made" := by decide +kernel
theorem zH : NmD "_law_many" := by decide +kernel
theorem zI : NmC "_law_many" := by decide +kernel
theorem jb2 : NmD "_law_mixed" := by decide +kernel
theorem jb7 : NmC "_law_mixed" := by decide +kernel
theorem jcO : NmD "_law_most" := by decide +kernel
theorem jcT : NmC "_law_most" := by decide +kernel
theorem ve : NmD "_law_names" := by decide +kernel
theorem vf : NmC "_law_names" := by decide +kernel
theorem jy : NmD "_law_next" := by decide +kernel
theorem jd2 : NmD "_law_off" := by decide +kernel
theorem jea : NmC "_law_off" := by decide +kernel
theorem jbs : NmD "_law_one" := by decide +kernel
theorem jbw : NmC "_law_one" := by decide +kernel
theorem jcN : NmD "_law_pair" := by decide +kernel
theorem jcS : NmC "_law_pair" := by decide +kernel
theorem yF : NmD "_law_pieces" := by decide +kernel
theorem yG : NmC "_law_pieces" := by decide +kernel
theorem j8 : NmD "_law_place" := by decide +kernel
theorem j9 : NmC "_law_place" := by decide +kernel
theorem jaH : NmD "_law_rows" := by decide +kernel
theorem jaK : NmC "_law_rows" := by decide +kernel
theorem jcx : NmD "_law_rows_text" := by decide +kernel
theorem vz : NmD "_law_script" := by decide +kernel
theorem vA : NmC "_law_script" := by decide +kernel
theorem jcw : NmD "_law_some_goes" := by decide +kernel
theorem jdd : NmD "_law_some_row" := by decide +kernel
theorem jcv : NmD "_law_some_rows" := by decide +kernel
theorem jbr : NmD "_law_some_tested" := by decide +kernel
theorem zp : NmD "_law_test" := by decide +kernel
theorem zq : NmC "_law_test" := by decide +kernel
theorem yg : NmD "_law_tested" := by decide +kernel
theorem yh : NmC "_law_tested" := by decide +kernel
theorem jaG : NmD "_law_text" := by decide +kernel
theorem jaJ : NmC "_law_text" := by decide +kernel
theorem vG : NmD "_law_w" := by decide +kernel
theorem vI : NmC "_law_w" := by decide +kernel
theorem yq : NmD "_law_way" := by decide +kernel
theorem yt : NmC "_law_way" := by decide +kernel
theorem jgn : NmD "_law_wide" := by decide +kernel
theorem jgz : NmC "_law_wide" := by decide +kernel
theorem jgm : NmD "_law_word" := by decide +kernel
theorem jgy : NmC "_law_word" := by decide +kernel
theorem jgt : NmD "add_line" := by decide +kernel
theorem jcQ : NmD "add_told" := by decide +kernel
theorem jlt : NmD "any" := by decide +kernel
theorem jgs : NmD "are_goes" := by decide +kernel
theorem jmj : NmD "at" := by decide +kernel
theorem jml : NmC "at" := by decide +kernel
theorem vT : NmD "bool" := by decide +kernel
theorem jd4 : NmD "check_piece" := by decide +kernel
theorem gY : NmD "check_tested" := by decide +kernel
theorem jh0 : NmD "go" := by decide +kernel
theorem jh3 : NmC "go" := by decide +kernel
theorem jjy : NmD "go_of" := by decide +kernel
theorem jaS : NmD "goes" := by decide +kernel
theorem jaV : NmC "goes" := by decide +kernel
theorem jfA : NmD "head" := by decide +kernel
theorem jfG : NmC "head" := by decide +kernel
theorem jhh : NmD "head_of" := by decide +kernel
theorem jkt : NmD "held" := by decide +kernel
theorem jkw : NmC "held" := by decide +kernel
theorem jhg : NmD "ins" := by decide +kernel
theorem jhk : NmC "ins" := by decide +kernel
theorem uI : NmD "int" := by decide +kernel
theorem jfz : NmD "is_framed" := by decide +kernel
theorem jjx : NmD "is_go" := by decide +kernel
theorem jfy : NmD "is_number" := by decide +kernel
theorem jin : NmD "is_row" := by decide +kernel
theorem jd3 : NmD "is_test" := by decide +kernel
theorem ya : NmD "is_within" := by decide +kernel
theorem jgr : NmD "is_worth" := by decide +kernel
theorem jk : NmD "isinstance" := by decide +kernel
theorem jjw : NmD "least" := by decide +kernel
theorem jjC : NmC "least" := by decide +kernel
theorem zJ : NmD "len" := by decide +kernel
theorem jew : NmD "line_of_go" := by decide +kernel
theorem jb1 : NmD "lines" := by decide +kernel
theorem jb6 : NmC "lines" := by decide +kernel
theorem jhZ : NmD "list" := by decide +kernel
theorem jls : NmD "max" := by decide +kernel
theorem jfx : NmD "may_stand" := by decide +kernel
theorem jb0 : NmD "most" := by decide +kernel
theorem jb5 : NmC "most" := by decide +kernel
theorem jgl : NmD "names" := by decide +kernel
theorem jgx : NmC "names" := by decide +kernel
theorem jaR : NmD "number" := by decide +kernel
theorem jaU : NmC "number" := by decide +kernel
theorem jbZ : NmD "number_of" := by decide +kernel
theorem uj : NmD "numbers" := by decide +kernel
theorem um : NmC "numbers" := by decide +kernel
theorem uH : NmD "numbers_of" := by decide +kernel
theorem vF : NmD "piece" := by decide +kernel
theorem vH : NmC "piece" := by decide +kernel
theorem zn : NmD "pieces" := by decide +kernel
theorem zo : NmC "pieces" := by decide +kernel
theorem ui : NmD "place" := by decide +kernel
theorem ul : NmC "place" := by decide +kernel
theorem jcu : NmD "places" := by decide +kernel
theorem jcA : NmC "places" := by decide +kernel
theorem jfw : NmD "read_rows" := by decide +kernel
theorem uh : NmD "row" := by decide +kernel
theorem uk : NmC "row" := by decide +kernel
theorem jim : NmD "row_of" := by decide +kernel
theorem jfv : NmD "rows" := by decide +kernel
theorem jfF : NmC "rows" := by decide +kernel
theorem vt : NmD "str" := by decide +kernel
theorem jbY : NmD "test" := by decide +kernel
theorem jb4 : NmC "test" := by decide +kernel
theorem yA : NmD "tested" := by decide +kernel
theorem yB : NmC "tested" := by decide +kernel
theorem jks : NmD "text" := by decide +kernel
theorem jkv : NmC "text" := by decide +kernel
theorem jhY : NmD "told" := by decide +kernel
theorem jh2 : NmC "told" := by decide +kernel
theorem zy : NmD "tuple" := by decide +kernel
theorem gd : NmD "value" := by decide +kernel
theorem ge : NmC "value" := by decide +kernel
theorem jaQ : NmD "word" := by decide +kernel
theorem jaT : NmC "word" := by decide +kernel
theorem zk : NmD "words" := by decide +kernel
theorem zl : NmC "words" := by decide +kernel
theorem gX : NmD "written_rows" := by decide +kernel
theorem jl1 : ("any" : Str) ≠ "__name__" := by decide +kernel
theorem gh : ("bool" : Str) ≠ "__name__" := by decide +kernel
theorem ja8 : ("int" : Str) ≠ "__name__" := by decide +kernel
theorem jn : ("isinstance" : Str) ≠ "__name__" := by decide +kernel
theorem yE : ("len" : Str) ≠ "__name__" := by decide +kernel
theorem ji6 : ("list" : Str) ≠ "__name__" := by decide +kernel
theorem jl0 : ("max" : Str) ≠ "__name__" := by decide +kernel
theorem uQ : ("str" : Str) ≠ "__name__" := by decide +kernel
theorem zM : ("tuple" : Str) ≠ "__name__" := by decide +kernel
end K3
end
section
namespace K3
open PySem L2
end K3
end
open PySem L2 K3
local macro_rules | `(tactic| walk_at "rd") => `(tactic| simp only [vZ,tDispN,tTupN,tLstN,jc2,gG,gH,jdw,jbB,jdx,jc0,jcZ,tVar,tC,tOp,tUn,rI,rI0,rU,rEq,rNe,tTest,tChain,tIf,tAnd,tOr,tNot,tAndV,tOrV,tNotV,tB,tSeq,tNext,tDrop,tRet,jdo,tIfS,tAsg,gName,gSub,gTup,gCons,gNil,jc1,rIxL,rIxT,tCB,tCallC,sDPut,tDGet,jdr,vX,tKGet,yY,jdn,jdy,tKIdx,jab,jdq,jaa,tDIn,vY,tAug,ipI,jdR,jaq,tCE,tCEs,tCL,tRevT,tDUpd,v8,jdv,iZipT,iEnumT,jad,jac,cx_P,cx_w,jd7,jd6,tSl,tPart,tNoPart,rSlT,rIn,rCat,rRep,tBM,tBM0,vL,jag,jaf,tFld,sFld,v7,rSub,rAdd,jdp,g9,tPar,tCons,tNil,tTup,tLst,L2.start,tYes,wipe,cx_K,jd8,
 List.map_cons,List.map_nil,List.length_cons,List.length_nil,List.cons_append,List.nil_append,Nat.zero_add,Nat.reduceAdd,Nat.reduceSub,List.replicate_succ,List.replicate_zero,List.getElem?_cons_zero,List.getElem?_cons_succ,List.set_cons_zero,List.set_cons_succ,
 Option.some.injEq,exists_eq_left',exists_eq_left,exists_and_left,V.int.injEq,V.ref.injEq,V.bl.injEq,V.str.injEq,V.ty.injEq,List.cons.injEq,and_true,true_and,decide_eq_true_eq])
local macro_rules | `(tactic| walk_at "go") => `(tactic| repeat (first | (with_reducible refine iteF ?_) | (with_reducible refine iteT ?_) | (refine Exists.intro _ (Exists.intro _ (And.intro (And.intro rfl rfl) (Exists.intro _ (And.intro (by first | exact Or.inl (TyOf.int _) | exact Or.inl (TyOf.str _) | exact Or.inl (TyOf.bl _) | exact Or.inl TyOf.non | exact Or.inl (TyOf.tup (by with_reducible assumption)) | exact Or.inl (TyOf.lst (by with_reducible assumption)) | exact Tp.ty (by with_reducible assumption)) (Exists.intro _ (And.intro (by with_reducible first | exact jgc | exact jha | exact jhb | exact jfq | exact jgb | exact jf8 | exact jdP | exact jg9 | exact jfn | exact jf7 | exact jek | exact jfl | exact jfm | exact zu | exact jej | exact jfp | exact jf9 | exact jga | exact jel | exact jfo | exact jfs | exact jgd | exact jge | exact jem | exact jfr | exact jcm | exact jc3 | exact jc4 | exact jbP | exact jcl) ?_))))))) | (refine iteT ?_) | (refine iteF ?_) | (refine iteN (fun z => V.noConfusion z) ?_) | (with_reducible refine Exists.intro _ (And.intro rfl ?_)) | (refine Exists.intro _ (And.intro (SqL.of jj) ?_)) | (refine Exists.intro _ (And.intro (SqL.of (by with_reducible assumption)) ?_)) | (refine Exists.intro _ (And.intro (by with_reducible assumption) ?_)) | (refine Exists.intro _ (And.intro jj ?_)) | (refine Exists.intro _ (And.intro (SqT.of jj) ?_)) | (refine Exists.intro _ (And.intro (SqT.of (by with_reducible assumption)) ?_)) | (refine Exists.intro _ (And.intro rfl ?_)) | (refine And.intro (by first | assumption | omega | decide) ?_)))
local macro_rules | `(tactic| walk_at "at") => `(tactic| repeat (first | with_reducible assumption | exact jj | assumption | refine jbg (by with_reducible assumption) _ _ ?_ | refine (show Same _ _ by with_reducible assumption) _ _ ?_ | refine (show Keep _ _ _ by with_reducible assumption) _ _ (by with_reducible first | assumption | (refine Ne.symm ?_;assumption)) ?_))
section
namespace K3
open PySem L2
section
variable {P : Program} {w : World} {K : PySem.W.Frag} {mg : Str → Option Value} {base : Heap} {f : Addr} {fd : FuncData}
abbrev yK : Stmt := top 6
theorem jfU : FnScope ["value"] ["value"] (defScope yK) := ⟨rfl,rfl,rfl,by decide +kernel,rfl,by decide +kernel,by decide +kernel⟩
theorem jbL : (defScope yK).names.lookup ("value" : Str) = some .local := by decide +kernel
theorem vg : (defScope yK).names.lookup ("isinstance" : Str) = some .globalImplicit := by decide +kernel
theorem jdZ : (defScope yK).names.lookup ("int" : Str) = some .globalImplicit := by decide +kernel
theorem jc8 : (defScope yK).names.lookup ("bool" : Str) = some .globalImplicit := by decide +kernel
abbrev yJ : Stmt := top 7
theorem jfT : FnScope ["value", "least", "most"] ["value", "least", "most"] (defScope yJ) := ⟨rfl,rfl,rfl,by decide +kernel,rfl,by decide +kernel,by decide +kernel⟩
theorem jbK : (defScope yJ).names.lookup ("value" : Str) = some .local := by decide +kernel
theorem jfg : (defScope yJ).names.lookup ("least" : Str) = some .local := by decide +kernel
theorem jff : (defScope yJ).names.lookup ("most" : Str) = some .local := by decide +kernel
theorem jaB : (defScope yJ).names.lookup ("is_number" : Str) = some .globalImplicit := by decide +kernel
abbrev vU : Stmt := top 8
theorem jgQ : FnScope ["value"] ["value"] (defScope vU) := ⟨rfl,rfl,rfl,by decide +kernel,rfl,by decide +kernel,by decide +kernel⟩
theorem jf1 : (defScope vU).names.lookup ("value" : Str) = some .local := by decide +kernel
theorem ja0 : (defScope vU).names.lookup ("is_within" : Str) = some .globalImplicit := by decide +kernel
theorem jcq : (defScope vU).names.lookup ("WORTHS" : Str) = some .globalImplicit := by decide +kernel
def jkR : Sp := fun vs H Q _ => ∃ x : Int,vs = [.int x] ∧ Q (.bl true) H
theorem jlV (F : Fun K "is_number" "is_number" yK f fd) (T : TT mg) : FnOk P w K mg base CX0 1 f fd ["value"] jkR := by
 refine F.ok jfU (fun vs H Q E h => ?_) (fun cdv A outer s H vs Q E hr h => ?_)
 ·obtain ⟨x,rfl,_⟩ := h
  rfl
 obtain ⟨x,rfl,q⟩ := h
 refine ⟨_,(QSs.h (jf (jm (yj (jh jO vg T.isinstance jo (ja (jb (i := 0) rfl (Or.inl jbL) gd ge) (ja (jL (v := .ty "int") (u := .type "int") jdZ T.int jbe rfl ja8 uI) jc (by rfl)) (by rfl)) jn jk (by rfl)) (yx (je3 (jh jO vg T.isinstance jo (ja (jb (i := 0) rfl (Or.inl jbL) gd ge) (ja (jL (v := .ty "bool") (u := .type "bool") jc8 T.bool gE rfl gh vT) jc (by rfl)) (by rfl)) jn jk (by rfl)))))))),?_⟩
 walk_at "rd"
 walk_at "go"
 exact q
def spIn : Sp := fun vs H Q _ => ∃ x a b : Int,vs = [.int x,.int a,.int b] ∧ Q (.bl (decide (a ≤ x ∧ x ≤ b))) H
theorem jmH (F : Fun K "is_within" "is_within" yJ f fd) (T : TT mg) (c_is_number : Cal P w K mg base CX0 "is_number" 1 ["value"] jkR) : FnOk P w K mg base CX0 2 f fd ["value", "least", "most"] spIn := by
 refine F.ok jfT (fun vs H Q E h => ?_) (fun cdv A outer s H vs Q E hr h => ?_)
 ·obtain ⟨x,a,b,rfl,_⟩ := h
  rfl
 obtain ⟨x,a,b,rfl,q⟩ := h
 refine ⟨_,(QSs.h (jf (jm (yj (jg c_is_number hr (by omega) j5 (ja (jb (i := 0) rfl (Or.inl jbK) gd ge) jc (by rfl)) jaB jfy (by rfl)) (yx (jeF je5 je5 (jb (i := 1) rfl (Or.inl jfg) jjw jjC) (jb (i := 0) rfl (Or.inl jbK) gd ge) (jb (i := 2) rfl (Or.inl jff) jb0 jb5))))))),?_⟩
 walk_at "rd"
 refine ⟨x,rfl,true,rfl,iteP rfl ?_⟩
 by_cases h : a ≤ x
 ·refine iteP h ?_
  have e : decide (a ≤ x ∧ x ≤ b) = decide (x ≤ b) := by simp [h]
  rw [← e];exact q
 ·refine iteN h ?_
  have e : decide (a ≤ x ∧ x ≤ b) = false := by simp [h]
  rw [← e];exact q
def jkO : Sp := fun vs H Q _ => ∃ x : Int,vs = [.int x] ∧ Q (.bl (decide (0 ≤ x ∧ x ≤ 10006))) H
theorem jlQ (F : Fun K "is_worth" "is_worth" vU f fd) (T : TT mg) (c_is_within : Cal P w K mg base CX0 "is_within" 2 ["value", "least", "most"] spIn) : FnOk P w K mg base CX0 3 f fd ["value"] jkO := by
 refine F.ok jgQ (fun vs H Q E h => ?_) (fun cdv A outer s H vs Q E hr h => ?_)
 ·obtain ⟨x,rfl,_⟩ := h
  rfl
 obtain ⟨x,rfl,q⟩ := h
 obtain ⟨tg,h_WORTHS⟩ := T.WORTHS
 refine ⟨_,(QSs.h (jf (jm (jg c_is_within hr (by omega) j5 (ja (jb (i := 0) rfl (Or.inl jf1) gd ge) (ja jd (ja (jz ja7 (zd (v := .int 10007) jcq h_WORTHS ⟨_,rfl⟩ jio) jd) jc (by rfl)) (by rfl)) (by rfl)) ja0 ya (by rfl))))),?_⟩
 walk_at "rd"
 exact ⟨x,0,10007 - 1,rfl,q⟩
end
end K3
end
section
namespace K3
open PySem L2
section
variable {P : Program} {w : World} {K : PySem.W.Frag} {mg : Str → Option Value} {base : Heap} {f : Addr} {fd : FuncData}
end
end K3
end
section
namespace K3
open PySem L2
section
variable {P : Program} {w : World} {K : PySem.W.Frag} {mg : Str → Option Value} {base : Heap} {f : Addr} {fd : FuncData}
def EndsE (E : XK) (C : Addr) (H : Hp) (e : End) : Prop := ∀ H' dx t,Same H H' → H' dx = some (.xd [("end",.ref t)]) → H' t = some (.tup (endL e)) → E (.ref C) (some dx) H'
def ResE (Q : VK) (E : XK) (C : Addr) (H : Hp) : PR → Prop
 | .ok z => ∀ H',Same H H' → Q (.int z) H'
 | .error e => EndsE E C H (.fault e)
theorem EndsE.trans {E : XK} {C : Addr} {H H1 : Hp} {e : End} (h : EndsE E C H e) (s : Same H H1) : EndsE E C H1 e := fun H' dx t s' => h H' dx t (s.trans s')
theorem ResE.trans {Q : VK} {E : XK} {C : Addr} {H H1 : Hp} {r : PR} (h : ResE Q E C H r) (s : Same H H1) : ResE Q E C H1 r := by
 cases r with
 | ok z => exact fun H' s' => h H' (s.trans s')
 | error e => exact EndsE.trans h s
variable {C fI : Addr} {fdI : FuncData}
end
end K3
end
section
namespace K3
open PySem L2
section
variable {P : Program} {w : World} {K : PySem.W.Frag} {mg : Str → Option Value} {base : Heap} {f : Addr} {fd : FuncData}
variable {C fI MC : Addr} {fdI : FuncData}
def fsM (rl : Addr) (fu : Int) (cl sl hd : Addr) (lk dn : Int) : List (Str × V) := [("registers",.ref rl),("fuel",.int fu),("cells",.ref cl),("said",.ref sl),("holding",.ref hd),("looked",.int lk),("done",.int dn)]
def HoAt (kvs : List (Key × V)) (ho : Int → Bool) : Prop := ∀ t : Int,(valV kvs (Sum.inl t)).getD (.bl false) = .bl (ho t)
structure MAt (H : Hp) (MC m rl cl sl hd : Addr) (s : MS) (n : Nat) : Prop where
 d : ∃ dx,H m = some (.ins MC dx (fsM rl s.fu cl sl hd s.lk s.dn))
 r : H rl = some (.lst (s.rs.map V.int))
 c : H cl = some (.lst (s.cs.map V.int))
 sa : H sl = some (.lst (s.sd.map V.int))
 h : ∃ kvs,H hd = some (.dK kvs) ∧ HoAt kvs s.ho ∧ kvs.length ≤ n
 g : MGood s
 n1 : rl ≠ cl
 n2 : rl ≠ sl
 n3 : cl ≠ sl
def Keep5 (m rl cl sl hd : Addr) (H H' : Hp) : Prop := ∀ b o,b ≠ m → b ≠ rl → b ≠ cl → b ≠ sl → b ≠ hd → H b = some o → H' b = some o
section
variable {H H' H1 H2 : Hp} {m rl cl sl hd : Addr} {s : MS} {n : Nat}
theorem Keep5.trans (a : Keep5 m rl cl sl hd H H1) (b : Keep5 m rl cl sl hd H1 H2) : Keep5 m rl cl sl hd H H2 := fun c o h1 h2 h3 h4 h5 h => b c o h1 h2 h3 h4 h5 (a c o h1 h2 h3 h4 h5 h)
theorem MAt.tups (a : MAt H MC m rl cl sl hd s n) (k : Keep5 m rl cl sl hd H H') : TupKeep H H' := fun b xs hb => by
 obtain ⟨dx,hm⟩ := a.d
 obtain ⟨kvs,hh,_⟩ := a.h
 exact k b _ (fun z => by rw [z,hm] at hb;cases hb) (fun z => by rw [z,a.r] at hb;cases hb) (fun z => by rw [z,a.c] at hb;cases hb) (fun z => by rw [z,a.sa] at hb;cases hb) (fun z => by rw [z,hh] at hb;cases hb) hb
theorem MAt.m1 (a : MAt H MC m rl cl sl hd s n) : m ≠ rl := fun z => by obtain ⟨dx,h⟩ := a.d;rw [z,a.r] at h;cases h
theorem MAt.m2 (a : MAt H MC m rl cl sl hd s n) : m ≠ cl := fun z => by obtain ⟨dx,h⟩ := a.d;rw [z,a.c] at h;cases h
theorem MAt.h1 (a : MAt H MC m rl cl sl hd s n) : hd ≠ rl := fun z => by obtain ⟨kvs,h,_⟩ := a.h;rw [z,a.r] at h;cases h
theorem MAt.h2 (a : MAt H MC m rl cl sl hd s n) : hd ≠ cl := fun z => by obtain ⟨kvs,h,_⟩ := a.h;rw [z,a.c] at h;cases h
theorem MAt.reg (a : MAt H MC m rl cl sl hd s n) {r x : Int} (hx : InR x) : MAt (upd H rl (.lst ((s.rs.map V.int).set r.toNat (.int x)))) MC m rl cl sl hd (s.wr r x) n :=
 ⟨by rw [jB a.m1];exact a.d,by rw [jj,← List.map_set];rfl,by rw [jB (Ne.symm a.n1)];exact a.c,by rw [jB (Ne.symm a.n2)];exact a.sa,by rw [jB a.h1];exact a.h,a.g.wr hx,a.n1,a.n2,a.n3⟩
theorem MAt.cell (a : MAt H MC m rl cl sl hd s n) {i : Nat} {x : Int} (hx : InR x) : MAt (upd H cl (.lst ((s.cs.map V.int).set i (.int x)))) MC m rl cl sl hd { s with cs := s.cs.set i x } n :=
 ⟨by rw [jB a.m2];exact a.d,by rw [jB a.n1];exact a.r,by rw [jj,← List.map_set],by rw [jB (Ne.symm a.n3)];exact a.sa,by rw [jB a.h2];exact a.h,⟨a.g.rl,a.g.rr,by simp only [List.length_set];exact a.g.cl,jkC a.g.cr hx⟩,a.n1,a.n2,a.n3⟩
end
section
variable {H H' : Hp} {rl hd : Addr} {rs : List Int} {ho : Int → Bool}
end
end
end K3
end
section
namespace K3
open PySem L2
section
variable {P : Program} {w : World} {K : PySem.W.Frag} {mg : Str → Option Value} {base : Heap} {f : Addr} {fd : FuncData}
variable {C fI MC : Addr} {fdI : FuncData}
theorem Op2.ne5 (w : Op2) : w.str ≠ "put" ∧ w.str ≠ "say" ∧ w.str ≠ "stop" ∧ w.str ≠ "test" := by cases w <;> decide +kernel
def ResM (Q : VK) (E : XK) (C MC : Addr) (H : Hp) (m rl cl sl hd : Addr) (n : Nat) : MS × Option End → Prop
 | (s',none) => ∀ H',Keep5 m rl cl sl hd H H' → MAt H' MC m rl cl sl hd s' n → Q .non H'
 | (s',some e) => ∀ H' dx t,Keep5 m rl cl sl hd H H' → MAt H' MC m rl cl sl hd s' n → H' dx = some (.xd [("end",.ref t)]) → H' t = some (.tup (endL e)) → E (.ref C) (some dx) H'
section
variable {Q : VK} {E : XK} {H H1 : Hp} {m rl cl sl hd : Addr} {n n' : Nat} {r : MS × Option End}
theorem ResM.trans (h : ResM Q E C MC H m rl cl sl hd n r) (k : Keep5 m rl cl sl hd H H1) : ResM Q E C MC H1 m rl cl sl hd n r := by
 obtain ⟨s',oe⟩ := r
 cases oe with
 | none => exact fun H' k' => h H' (k.trans k')
 | some e => exact fun H' dx t k' => h H' dx t (k.trans k')
end
end
end K3
end
section
namespace K3
open PySem L2
section
variable {P : Program} {w : World} {K : PySem.W.Frag} {mg : Str → Option Value} {base : Heap} {f : Addr} {fd : FuncData}
variable {C fI MC : Addr} {fdI : FuncData}
end
end K3
end
section
namespace K3
open PySem L2
end K3
end
section
namespace K3
open PySem L2
section
variable {P : Program} {w : World} {K : PySem.W.Frag} {mg : Str → Option Value} {base : Heap} {f : Addr} {fd : FuncData}
variable {C fI MC : Addr} {fdI : FuncData}
def KeepM (m rl cl sl : Addr) (H H' : Hp) : Prop := ∀ b o,b ≠ m → b ≠ rl → b ≠ cl → b ≠ sl → H b = some o → H' b = some o
section
variable {H H1 H2 : Hp} {m rl cl sl hd : Addr} {s : MS} {n : Nat}
theorem KeepM.trans (a : KeepM m rl cl sl H H1) (b : KeepM m rl cl sl H1 H2) : KeepM m rl cl sl H H2 := fun c o h1 h2 h3 h4 h => b c o h1 h2 h3 h4 (a c o h1 h2 h3 h4 h)
end
end
end K3
end
section
namespace K3
open PySem L2
section
variable {P : Program} {w : World} {K : PySem.W.Frag} {mg : Str → Option Value} {base : Heap} {f : Addr} {fd : FuncData}
variable {C fI MC : Addr} {fdI : FuncData}
end
end K3
end
section
namespace K3
open PySem L2
section
variable {P : Program} {w : World} {K : PySem.W.Frag} {mg : Str → Option Value} {base : Heap} {f : Addr} {fd : FuncData}
abbrev uK : Stmt := top 23
theorem jid : FnScope ["value"] ["value"] (defScope uK) := ⟨rfl,rfl,rfl,by decide +kernel,rfl,by decide +kernel,by decide +kernel⟩
theorem jg3 : (defScope uK).names.lookup ("value" : Str) = some .local := by decide +kernel
theorem jbq : (defScope uK).names.lookup ("is_within" : Str) = some .globalImplicit := by decide +kernel
theorem jdX : (defScope uK).names.lookup ("TESTS" : Str) = some .globalImplicit := by decide +kernel
abbrev zX : Stmt := top 22
theorem jfS : FnScope ["place", "number"] ["place", "number"] (defScope zX) := ⟨rfl,rfl,rfl,by decide +kernel,rfl,by decide +kernel,by decide +kernel⟩
theorem jbJ : (defScope zX).names.lookup ("place" : Str) = some .local := by decide +kernel
theorem gn : (defScope zX).names.lookup ("number" : Str) = some .local := by decide +kernel
theorem vD : (defScope zX).names.lookup ("is_within" : Str) = some .globalImplicit := by decide +kernel
theorem jaY : (defScope zX).names.lookup ("is_worth" : Str) = some .globalImplicit := by decide +kernel
theorem jau : (defScope zX).names.lookup ("REGISTERS" : Str) = some .globalImplicit := by decide +kernel
theorem jcp : (defScope zX).names.lookup ("TESTS" : Str) = some .globalImplicit := by decide +kernel
abbrev zY : Stmt := top 21
theorem sc_is_row : FnScope ["row", "places", "place", "number"] ["row"] (defScope zY) := ⟨rfl,rfl,rfl,by decide +kernel,rfl,by decide +kernel,by decide +kernel⟩
theorem ye : (defScope zY).names.lookup ("row" : Str) = some .local := by decide +kernel
theorem jaP : (defScope zY).names.lookup ("places" : Str) = some .local := by decide +kernel
theorem jeJ : (defScope zY).names.lookup ("place" : Str) = some .local := by decide +kernel
theorem jeI : (defScope zY).names.lookup ("number" : Str) = some .local := by decide +kernel
theorem jgh : (defScope zY).names.lookup ("zip" : Str) = some .globalImplicit := by decide +kernel
theorem jdY : (defScope zY).names.lookup ("PLACES" : Str) = some .globalImplicit := by decide +kernel
theorem ue : (defScope zY).names.lookup ("isinstance" : Str) = some .globalImplicit := by decide +kernel
theorem jet : (defScope zY).names.lookup ("tuple" : Str) = some .globalImplicit := by decide +kernel
theorem jaC : (defScope zY).names.lookup ("len" : Str) = some .globalImplicit := by decide +kernel
theorem jgi : (defScope zY).names.lookup ("str" : Str) = some .globalImplicit := by decide +kernel
theorem jc7 : (defScope zY).names.lookup ("is_test" : Str) = some .globalImplicit := by decide +kernel
theorem jbT : (defScope zY).names.lookup ("may_stand" : Str) = some .globalImplicit := by decide +kernel
abbrev vK : Stmt := top 25
theorem sc_is_go : FnScope ["go", "pieces", "test", "piece"] ["go", "pieces"] (defScope vK) := ⟨rfl,rfl,rfl,by decide +kernel,rfl,by decide +kernel,by decide +kernel⟩
theorem jdG : (defScope vK).names.lookup ("go" : Str) = some .local := by decide +kernel
theorem ji9 : (defScope vK).names.lookup ("pieces" : Str) = some .local := by decide +kernel
theorem jf3 : (defScope vK).names.lookup ("test" : Str) = some .local := by decide +kernel
theorem jf2 : (defScope vK).names.lookup ("piece" : Str) = some .local := by decide +kernel
theorem jd0 : (defScope vK).names.lookup ("is_test" : Str) = some .globalImplicit := by decide +kernel
theorem jcr : (defScope vK).names.lookup ("is_within" : Str) = some .globalImplicit := by decide +kernel
theorem jbU : (defScope vK).names.lookup ("isinstance" : Str) = some .globalImplicit := by decide +kernel
theorem jft : (defScope vK).names.lookup ("tuple" : Str) = some .globalImplicit := by decide +kernel
theorem jhd : (defScope vK).names.lookup ("len" : Str) = some .globalImplicit := by decide +kernel
abbrev zO : Stmt := top 24
theorem sc_are_goes : FnScope ["goes", "pieces", "go"] ["goes", "pieces"] (defScope zO) := ⟨rfl,rfl,rfl,by decide +kernel,rfl,by decide +kernel,by decide +kernel⟩
theorem uw : (defScope zO).names.lookup ("goes" : Str) = some .local := by decide +kernel
theorem jf4 : (defScope zO).names.lookup ("pieces" : Str) = some .local := by decide +kernel
theorem jcI : (defScope zO).names.lookup ("go" : Str) = some .local := by decide +kernel
theorem jaF : (defScope zO).names.lookup ("isinstance" : Str) = some .globalImplicit := by decide +kernel
theorem jc9 : (defScope zO).names.lookup ("tuple" : Str) = some .globalImplicit := by decide +kernel
theorem ja4 : (defScope zO).names.lookup ("MOST_GOES" : Str) = some .globalImplicit := by decide +kernel
theorem jda : (defScope zO).names.lookup ("is_go" : Str) = some .globalImplicit := by decide +kernel
theorem jeu : (defScope zO).names.lookup ("len" : Str) = some .globalImplicit := by decide +kernel
def jjW : Sp := fun vs H Q _ => ∃ x : Int,vs = [.int x] ∧ Q (.bl (decide (0 ≤ x ∧ x ≤ 1999))) H
theorem jlS (F : Fun K "is_test" "is_test" uK f fd) (T : TT mg) (c_is_within : Cal P w K mg base CX0 "is_within" 2 ["value", "least", "most"] spIn) : FnOk P w K mg base CX0 3 f fd ["value"] jjW := by
 refine F.ok jid (fun vs H Q E h => ?_) (fun cdv A outer s H vs Q E hr h => ?_)
 ·obtain ⟨x,rfl,_⟩ := h
  rfl
 obtain ⟨x,rfl,q⟩ := h
 obtain ⟨tg,h_TESTS⟩ := T.TESTS
 refine ⟨_,(QSs.h (jf (jm (jg c_is_within hr (by omega) j5 (ja (jb (i := 0) rfl (Or.inl jg3) gd ge) (ja jd (ja (jz ja7 (zd (v := .int 2000) jdX h_TESTS ⟨_,rfl⟩ jgu) jd) jc (by rfl)) (by rfl)) (by rfl)) jbq ya (by rfl))))),?_⟩
 walk_at "rd"
 exact ⟨x,0,2000 - 1,rfl,q⟩
def Fit (p : Str) (x : Int) : Prop := (p = "worth" ∧ InR x) ∨ (p = "made" ∧ 1 ≤ x ∧ x ≤ 1999) ∨ ((p = "written" ∨ p = "read") ∧ In2 x)
def jkS : Sp := fun vs H Q _ => ∃ (p : Str) (x : Int),vs = [.str p,.int x] ∧ Fit p x ∧ Q (.bl true) H
theorem jlW (F : Fun K "may_stand" "may_stand" zX f fd) (T : TT mg) (c_is_within : Cal P w K mg base CX0 "is_within" 2 ["value", "least", "most"] spIn) (c_is_worth : Cal P w K mg base CX0 "is_worth" 3 ["value"] jkO) : FnOk P w K mg base CX0 4 f fd ["place", "number"] jkS := by
 refine F.ok jfS (fun vs H Q E h => ?_) (fun cdv A outer s H vs Q E hr h => ?_)
 ·obtain ⟨p,x,rfl,_⟩ := h
  rfl
 obtain ⟨p,x,rfl,ft,q⟩ := h
 obtain ⟨tg,h_TESTS⟩ := T.TESTS
 obtain ⟨tg2,h_REGISTERS⟩ := T.REGISTERS
 refine ⟨_,(QSs.h (je (jF (jv vM (jb (i := 0) rfl (Or.inl jbJ) ui ul) ju (jP _))
 (jf (jm (jg c_is_worth hr (by omega) j5 (ja (jb (i := 1) rfl (Or.inl gn) jaR jaU) jc (by rfl)) jaY jgr (by rfl))))
 jw)
 (je (jF (jv vM (jb (i := 0) rfl (Or.inl jbJ) ui ul) ju (jP _))
 (jf (jm (jg c_is_within hr (by omega) j5 (ja (jb (i := 1) rfl (Or.inl gn) jaR jaU) (ja jd (ja (jz ja7 (zd (v := .int 2000) jcp h_TESTS ⟨_,rfl⟩ jgu) jd) jc (by rfl)) (by rfl)) (by rfl)) vD ya (by rfl))))
 jw)
 (jf (jm (jg c_is_within hr (by omega) j5 (ja (jb (i := 1) rfl (Or.inl gn) jaR jaU) (ja jd (ja (jz ja7 (zd (v := .int 2000) jau h_REGISTERS ⟨_,rfl⟩ jfB) jd) jc (by rfl)) (by rfl)) (by rfl)) vD ya (by rfl))))))),?_⟩
 walk_at "rd"
 rcases ft with ⟨rfl,hx⟩ | ⟨rfl,hx⟩ | ⟨hp,hx⟩
 ·exact ⟨rfl,iteP rfl ⟨x,rfl,by rw [decide_eq_true (show 0 ≤ x ∧ x ≤ 10006 from hx)];exact q⟩⟩
 ·exact ⟨rfl,iteN (by decide +kernel) ⟨rfl,iteP rfl ⟨x,1,2000 - 1,rfl,by rw [decide_eq_true (show 1 ≤ x ∧ x ≤ 2000 - 1 from hx)];exact q⟩⟩⟩
 ·have n1 : ¬ p = "worth" := by rcases hp with rfl | rfl <;> decide +kernel
  have n2 : ¬ p = "made" := by rcases hp with rfl | rfl <;> decide +kernel
  exact ⟨rfl,iteN n1 ⟨rfl,iteN n2 ⟨x,0,2000 - 1,rfl,by rw [decide_eq_true (show 0 ≤ x ∧ x ≤ 2000 - 1 from hx)];exact q⟩⟩⟩
def Row.word : Row → Str
 | .num _ _ _ => "num" | .copy _ _ _ => "copy" | .not _ _ _ => "not" | .get _ _ _ => "get" | .op w _ _ _ _ => w.str | .put _ _ _ => "put" | .say _ _ => "say" | .stop _ _ => "stop" | .test _ _ _ _ => "test"
def Row.ns : Row → List Int
 | .num _ r n => [r,n] | .copy _ r a => [r,a] | .not _ r a => [r,a] | .get _ r a => [r,a] | .op _ _ r a b => [r,a,b] | .put _ a b => [a,b] | .say _ a => [a] | .stop _ a => [a] | .test _ p q a => [p,q,a]
def Row.pl : Row → List Str
 | .num _ _ _ => ["written", "worth"] | .copy _ _ _ => ["written", "read"] | .not _ _ _ => ["written", "read"] | .get _ _ _ => ["written", "read"] | .op _ _ _ _ _ => ["written", "read", "read"]
 | .put _ _ _ => ["read", "read"] | .say _ _ => ["read"] | .stop _ _ => ["read"] | .test _ _ _ _ => ["made", "made", "read"]
theorem Row.vs_eq (r : Row) : r.vs = .int r.t :: .str r.word :: r.ns.map V.int := by cases r <;> rfl
theorem Row.pl_len (r : Row) : r.pl.length = r.ns.length := by cases r <;> rfl
theorem Row.t_in {r : Row} (o : r.ok) : In2 r.t := by
 cases r
 case op => exact o.2.1
 all_goals exact o.1
theorem Row.fit {r : Row} (o : r.ok) : ∀ (i : Nat) (p : Str) (x : Int),r.pl[i]? = some p → r.ns[i]? = some x → Fit p x := by
 cases r <;> intro i p x h1 h2
 case num => match i,h1,h2 with | 0,rfl,rfl => exact .inr (.inr ⟨.inl rfl,o.2.1⟩) | 1,rfl,rfl => exact .inl ⟨rfl,o.2.2⟩
 case copy => match i,h1,h2 with | 0,rfl,rfl => exact .inr (.inr ⟨.inl rfl,o.2.1⟩) | 1,rfl,rfl => exact .inr (.inr ⟨.inr rfl,o.2.2⟩)
 case not => match i,h1,h2 with | 0,rfl,rfl => exact .inr (.inr ⟨.inl rfl,o.2.1⟩) | 1,rfl,rfl => exact .inr (.inr ⟨.inr rfl,o.2.2⟩)
 case get => match i,h1,h2 with | 0,rfl,rfl => exact .inr (.inr ⟨.inl rfl,o.2.1⟩) | 1,rfl,rfl => exact .inr (.inr ⟨.inr rfl,o.2.2⟩)
 case op => match i,h1,h2 with | 0,rfl,rfl => exact .inr (.inr ⟨.inl rfl,o.2.2.1⟩) | 1,rfl,rfl => exact .inr (.inr ⟨.inr rfl,o.2.2.2.1⟩) | 2,rfl,rfl => exact .inr (.inr ⟨.inr rfl,o.2.2.2.2⟩)
 case put => match i,h1,h2 with | 0,rfl,rfl => exact .inr (.inr ⟨.inr rfl,o.2.1⟩) | 1,rfl,rfl => exact .inr (.inr ⟨.inr rfl,o.2.2⟩)
 case say => match i,h1,h2 with | 0,rfl,rfl => exact .inr (.inr ⟨.inr rfl,o.2⟩)
 case stop => match i,h1,h2 with | 0,rfl,rfl => exact .inr (.inr ⟨.inr rfl,o.2⟩)
 case test => match i,h1,h2 with | 0,rfl,rfl => exact .inr (.inl ⟨rfl,o.2.1⟩) | 1,rfl,rfl => exact .inr (.inl ⟨rfl,o.2.2.1⟩) | 2,rfl,rfl => exact .inr (.inr ⟨.inr rfl,o.2.2.2.2⟩)
structure WordsT (P : Program) (w : World) (K : PySem.W.Frag) (mg : Str → Option Value) : Prop where
 D : ∃ a kvs,mg "PLACES" = some (.ref a) ∧ KD P w K a kvs ∧ ∀ r : Row,r.ok → ∃ b,valueAt kvs (Sum.inr r.word : Key) = some (.ref b) ∧ ∀ H,SqT K H b (r.pl.map V.str)
theorem jhj {v u : V} {hs : List V} : cutV (v :: u :: hs) (some 2) none = hs := by
 unfold cutV
 show ((v :: u :: hs).drop (min 2 (hs.length + 1 + 1))).take ((hs.length + 1 + 1) - min 2 (hs.length + 1 + 1)) = hs
 rw [show min 2 (hs.length + 1 + 1) = 2 by omega]
 show hs.take (hs.length + 1 + 1 - 2) = hs
 rw [show hs.length + 1 + 1 - 2 = hs.length by omega,List.take_length]
theorem jij {v u : V} {hs : List V} : ¬ (HT.sIx (v :: u :: hs).length 0 (some 2) = 0 ∧ HT.sIx (v :: u :: hs).length (v :: u :: hs).length none = (v :: u :: hs).length) := by
 intro ⟨h,_⟩
 have : min 2 (hs.length + 1 + 1) = 0 := h
 omega
def jkQ (K : PySem.W.Frag) : Sp := fun vs H Q _ => ∃ (r : Row) (v : V),vs = [v] ∧ RowAt K H r v ∧ r.ok ∧ ∀ H',Same H H' → Q (.bl true) H'
theorem jlU (F : Fun K "is_row" "is_row" zY f fd) (T : TT mg) (W : WordsT P w K mg) (c_is_test : Cal P w K mg base CX0 "is_test" 3 ["value"] jjW) (c_may_stand : Cal P w K mg base CX0 "may_stand" 4 ["place", "number"] jkS) : FnOk P w K mg base CX0 5 f fd ["row"] (jkQ K) := by
 refine F.ok sc_is_row (fun vs H Q E h => ?_) (fun cdv A outer s H vs Q E hr h => ?_)
 ·obtain ⟨r,v,rfl,_⟩ := h
  rfl
 obtain ⟨r,v,rfl,⟨a,rfl,ha⟩,ok,q⟩ := h
 obtain ⟨aPLACES,kvs,mPLACES,KDP,hP⟩ := W.D
 obtain ⟨pa,hpa,hq⟩ := hP r ok
 refine ⟨_,(QSs.h (je (jF (yD (vb (zr (j7 (jh jO ue T.isinstance jo (ja (jb (i := 0) rfl (Or.inl ye) uh uk) (ja (jL (v := .ty "tuple") (u := .type "tuple") jet T.tuple zN rfl zM zy) jc (by rfl)) (by rfl)) jn jk (by rfl)))) (vb (jv jii (jh jQ jaC T.len PySem.boot_len (ja (jb (i := 0) rfl (Or.inl ye) uh uk) jc (by rfl)) yE zJ (by rfl)) jd (jP _)) (va (zr (j7 (jh jO ue T.isinstance jo (ja (jC ix_tup (jb (i := 0) rfl (Or.inl ye) uh uk) jd (fun _ _ => rfl)) (ja (jL (v := .ty "str") (u := .type "str") jgi T.str gf rfl uQ vt) jc (by rfl)) (by rfl)) jn jk (by rfl))))))))
 (jf (jm yL))
 jw)
 (je (jV (i := 1) sc_is_row.nd rfl (Or.inl jaP) (jiU (zd (v := .ref aPLACES) jdY mPLACES rfl jcy) (jC ix_tup (jb (i := 0) rfl (Or.inl ye) uh uk) jd (fun _ _ => rfl)) (jl4 rfl rfl rfl)) (by rfl) (by first | exact .inl rfl | exact .inr rfl | assumption))
 (je (jF (yD (vb (jv jcF (jb (i := 1) rfl (Or.inl jaP) jcu jcA) zD (jP _)) (vb (jv jcd (jh jQ jaC T.len PySem.boot_len (ja (jb (i := 0) rfl (Or.inl ye) uh uk) jc (by rfl)) yE zJ (by rfl)) (jz yn (jh jQ jaC T.len PySem.boot_len (ja (jb (i := 1) rfl (Or.inl jaP) jcu jcA) jc (by rfl)) yE zJ (by rfl)) jd) (jP _)) (va (zr (j7 (jg c_is_test hr (by omega) j5 (ja (jC ix_tup (jb (i := 0) rfl (Or.inl ye) uh uk) jd (fun _ _ => rfl)) jc (by rfl)) jc7 jd3 (by rfl))))))))
 (jf (jm yL))
 jw)
 (je (yi PassesOwn.never rfl (jif jgh T.zip (ja (jb (i := 1) rfl (Or.inl jaP) jcu jcA) (ja (uP sl_tup (jb (i := 0) rfl (Or.inl ye) uh uk) (jai jd) jaj) jc (by rfl)) (by rfl)) (by rfl)) (zL (by rfl) (jD (jp (i := 2) sc_is_row.nd rfl (Or.inl jeJ) (by first | exact .inl rfl | exact .inr rfl | assumption)) (jD (jp (i := 3) sc_is_row.nd rfl (Or.inl jeI) (by first | exact .inl rfl | exact .inr rfl | assumption)) zx)) (by rfl) (by rfl))
 (jf (jF (zr (j7 (jg c_may_stand hr (by omega) j5 (ja (jb (i := 2) rfl (Or.inl jeJ) ui ul) (ja (jb (i := 3) rfl (Or.inl jeI) jaR jaU) jc (by rfl)) (by rfl)) jbT jfx (by rfl))))
 (jf (jm yL))
 jw)))
 (jf (jm (jkX (zt jcd (jC ix_tup (jb (i := 0) rfl (Or.inl ye) uh uk) jd (fun _ _ => rfl)) ju (jP _)) (yx (zt jcd (jC ix_tup (jb (i := 0) rfl (Or.inl ye) uh uk) jd (fun _ _ => rfl)) (jC ix_tup (jb (i := 0) rfl (Or.inl ye) uh uk) jd (fun _ _ => rfl)) (jP _))))))))))),?_⟩
 walk_at "rd"
 have hv := r.vs_eq
 have ti := Row.t_in ok
 rw [hv] at ha
 refine ⟨_,_,⟨rfl,rfl⟩,_,ha.ty,_,zu,iteN (by decide) ⟨_,.inr ha.sq,iteN (by simp only [List.length_cons];omega) ⟨_,ha.sq,_,at1,_,_,⟨rfl,rfl⟩,_,.inl (TyOf.str _),_,jdP,iteN (by decide) ?_⟩⟩⟩
 have hl := r.pl_len
 refine ⟨kvs,KDP,_,ha.sq,_,at1,Sum.inr r.word,rfl,.ref pa,(by rw [hpa];rfl),iteN (fun z => V.noConfusion z) ⟨_,.inr ha.sq,pa,rfl,_,.inr (hq _),rfl,iteN (by simp only [List.length_cons,List.length_map];rw [decide_eq_true (by omega)];decide) ⟨_,ha.sq,_,at0,r.t,rfl,_,rfl,iteN (by rw [decide_eq_true (show 0 ≤ r.t ∧ r.t ≤ 1999 from ti)];decide) ?_⟩⟩⟩
 refine ⟨_,rfl,_,rfl,2,rfl,a,_,rfl,ha.sq,jij,fun ps hps => ⟨pa,ps,r.pl.map V.str,r.ns.map V.int,rfl,hq _,SqT.of (by rw [jhj];exact jj),?_⟩⟩
 rw [jhj]
 have S1 : Same H (upd H ps (.tup (r.ns.map V.int))) := jbg hps
 have d1 : (upd H ps (.tup (r.ns.map V.int))) ps = some (.tup (r.ns.map V.int)) := jj
 revert S1 d1
 generalize upd H ps (.tup (r.ns.map V.int)) = H1
 intro S1 d1
 refine jkk (K := K) (a := pa) (b := ps) (xs := r.pl.map V.str) (ys := r.ns.map V.int) (fun i σ H2 => ∃ v1 v2,σ = [some (.ref a),some (.ref pa),v1,v2] ∧ Same H1 H2) ⟨none,none,rfl,Same.refl _⟩ (by rw [List.length_map,List.length_map];omega) (fun i σ H2 _ ⟨_,_,_,k⟩ => ⟨hq _,SqT.of (k _ _ d1)⟩) ?_ ?_
 ·rintro i x y σ H2 T' hx hy ⟨v1,v2,rfl,k2⟩ hT
  walk_at "rd"
  rw [List.getElem?_map] at hx hy
  cases ep : r.pl[i]? with
  | none => rw [ep] at hx;cases hx
  | some s1 =>
   cases en : r.ns[i]? with
   | none => rw [en] at hy;cases hy
   | some z =>
    rw [ep] at hx
    rw [en] at hy
    obtain rfl : V.str s1 = x := Option.some.inj hx
    obtain rfl : V.int z = y := Option.some.inj hy
    exact ⟨_,SqT.of jj,rfl,_,_,rfl,_,_,rfl,rfl,s1,z,rfl,Row.fit ok i s1 z ep en,true,rfl,iteN (by decide) ⟨_,_,⟨rfl,rfl⟩,k2.trans (jbg hT)⟩⟩
 ·rintro σ H2 ⟨v1,v2,rfl,k2⟩
  have k02 := S1.trans k2
  have ha2 := ha.mono (TupKeep.same k02)
  walk_at "rd"
  refine ⟨_,ha2.sq,_,at1,rfl,?_⟩
  by_cases wt : r.word = "test"
  ·have ex : ∃ t p q a,r = .test t p q a := by
    cases r
    case test t p q a => exact ⟨t,p,q,a,rfl⟩
    case op w' _ _ _ _ => exact absurd wt w'.ne5.2.2.2
    all_goals exact absurd wt (by simp only [Row.word];decide +kernel)
   obtain ⟨t',p',q',a',rfl⟩ := ex
   refine iteN (by rw [decide_eq_true (congrArg V.str wt)];decide) ⟨_,ha2.sq,_,jby (j := 2) rfl rfl,_,ha2.sq,_,jby (j := 3) rfl rfl,rfl,?_⟩
   rw [decide_eq_false (fun z => ok.2.2.2.1 (V.int.inj z))]
   exact q H2 k02
  ·exact iteP (by rw [decide_eq_false (sne wt)];rfl) (q H2 k02)
def spGo (K : PySem.W.Frag) : Sp := fun vs H Q _ => ∃ (n : Nat) (g : Int × Int) (v : V),vs = [v,.int n] ∧ GoAt K H g v ∧ GoOk n g ∧ Q (.bl true) H
theorem jmK (F : Fun K "is_go" "is_go" vK f fd) (T : TT mg) (c_is_test : Cal P w K mg base CX0 "is_test" 3 ["value"] jjW) (c_is_within : Cal P w K mg base CX0 "is_within" 2 ["value", "least", "most"] spIn) : FnOk P w K mg base CX0 4 f fd ["go", "pieces"] (spGo K) := by
 refine F.ok sc_is_go (fun vs H Q E h => ?_) (fun cdv A outer s H vs Q E hr h => ?_)
 ·obtain ⟨n,g,v,rfl,_⟩ := h
  rfl
 obtain ⟨n,g,v,rfl,⟨a,rfl,ha⟩,⟨g1,g2,g3⟩,q⟩ := h
 refine ⟨_,(QSs.h (je (jF (yD (vb (zr (j7 (jh jO jbU T.isinstance jo (ja (jb (i := 0) rfl (Or.inl jdG) jh0 jh3) (ja (jL (v := .ty "tuple") (u := .type "tuple") jft T.tuple zN rfl zM zy) jc (by rfl)) (by rfl)) jn jk (by rfl)))) (va (jv jcd (jh jQ jhd T.len PySem.boot_len (ja (jb (i := 0) rfl (Or.inl jdG) jh0 jh3) jc (by rfl)) yE zJ (by rfl)) jd (jP _)))))
 (jf (jm yL))
 jw)
 (je (vv (jb (i := 0) rfl (Or.inl jdG) jh0 jh3) (zL (by rfl) (jD (jp (i := 2) sc_is_go.nd rfl (Or.inl jf3) (by first | exact .inl rfl | exact .inr rfl | assumption)) (jD (jp (i := 3) sc_is_go.nd rfl (Or.inl jf2) (by first | exact .inl rfl | exact .inr rfl | assumption)) zx)) (by rfl) (by rfl)) (by rfl) (by rfl) (by rfl))
 (jf (jm (yj (jg c_is_test hr (by omega) j5 (ja (jb (i := 2) rfl (Or.inl jf3) jbY jb4) jc (by rfl)) jd0 jd3 (by rfl)) (yx (jg c_is_within hr (by omega) j5 (ja (jb (i := 3) rfl (Or.inl jf2) vF vH) (ja (uD ja5 jd) (ja (jz ja7 (jb (i := 1) rfl (Or.inl ji9) zn zo) jd) jc (by rfl)) (by rfl)) (by rfl)) jcr ya (by rfl))))))))),?_⟩
 walk_at "rd"
 refine ⟨_,_,⟨rfl,rfl⟩,_,ha.ty,_,zu,iteN (by decide) ⟨_,.inr ha.sq,rfl,iteN (by show ¬ false = true;exact nof) ⟨_,ha.sq,rfl,_,_,rfl,_,_,rfl,rfl,g.1,rfl,true,(by rw [decide_eq_true (show 0 ≤ g.1 ∧ g.1 ≤ 1999 from g1)]),iteP rfl ⟨g.2,-1,n - 1,rfl,?_⟩⟩⟩⟩
 rw [decide_eq_true (show -1 ≤ g.2 ∧ g.2 ≤ (n : Int) - 1 by omega)]
 exact q
def jiN (K : PySem.W.Frag) : Sp := fun vs H Q _ => ∃ (n : Nat) (ga : Addr) (gvs : List V) (gs : List (Int × Int)),vs = [.ref ga,.int n] ∧ Tp K H ga gvs ∧ AllAt (GoAt K H) gs gvs ∧ 1 ≤ gs.length ∧ gs.length ≤ 8 ∧ (∀ g ∈ gs,GoOk n g) ∧ (∀ g,gs[gs.length - 1]? = some g → g.1 = 0) ∧ Q (.bl true) H
theorem jlv {xs : List V} {v : V} (h : xs[xs.length - 1]? = some v) : atI xs (-1) = some v := by
 have hn : xs ≠ [] := fun z => by rw [z] at h;cases h
 have e := List.dropLast_concat_getLast hn
 have e2 : xs.getLast hn = v := by
  rw [List.getLast_eq_getElem]
  exact (List.getElem?_eq_some_iff.mp h).2
 rw [← e,e2]
 exact jdk _ _
theorem jk8 (F : Fun K "are_goes" "are_goes" zO f fd) (T : TT mg) (c_is_go : Cal P w K mg base CX0 "is_go" 4 ["go", "pieces"] (spGo K)) : FnOk P w K mg base CX0 5 f fd ["goes", "pieces"] (jiN K) := by
 refine F.ok sc_are_goes (fun vs H Q E h => ?_) (fun cdv A outer s H vs Q E hr h => ?_)
 ·obtain ⟨n,ga,gvs,gs,rfl,_⟩ := h
  rfl
 obtain ⟨n,ga,gvs,gs,rfl,hg,ag,g1,g8,go,gl,q⟩ := h
 obtain ⟨tg,h_MOST_GOES⟩ := T.MOST_GOES
 refine ⟨_,(QSs.h (je (jF (yD (vb (zr (j7 (jh jO jaF T.isinstance jo (ja (jb (i := 0) rfl (Or.inl uw) jaS jaV) (ja (jL (v := .ty "tuple") (u := .type "tuple") jc9 T.tuple zN rfl zM zy) jc (by rfl)) (by rfl)) jn jk (by rfl)))) (va (zr (jeC je5 je5 jd (jh jQ jeu T.len PySem.boot_len (ja (jb (i := 0) rfl (Or.inl uw) jaS jaV) jc (by rfl)) yE zJ (by rfl)) (zd (v := .int 8) ja4 h_MOST_GOES ⟨_,rfl⟩ jfD))))))
 (jf (jm yL))
 jw)
 (je (yi PassesOwn.never rfl (vx (jb (i := 0) rfl (Or.inl uw) jaS jaV)) (jp (i := 2) sc_are_goes.nd rfl (Or.inl jcI) (by first | exact .inl rfl | exact .inr rfl | assumption))
 (jf (jF (zr (j7 (jg c_is_go hr (by omega) j5 (ja (jb (i := 2) rfl (Or.inl jcI) jh0 jh3) (ja (jb (i := 1) rfl (Or.inl jf4) zn zo) jc (by rfl)) (by rfl)) jda jjx (by rfl))))
 (jf (jm yL))
 jw)))
 (jf (jm (zt vM (jC ix_tup (jC ix_tup (jb (i := 0) rfl (Or.inl uw) jaS jaV) (uD ja5 jd) (fun _ _ => rfl)) jd (fun _ _ => rfl)) jd (jP _))))))),?_⟩
 walk_at "rd"
 have hl := ag.len
 refine ⟨_,_,⟨rfl,rfl⟩,_,hg.ty,_,zu,iteN (by decide) ?_⟩
 refine ⟨_,.inr hg.sq,iteP (by omega) (iteN (by rw [decide_eq_true (show (gvs.length : Int) ≤ 8 by omega)];decide) ?_)⟩
 refine ⟨_,rfl,ga,rfl,⟨_,hg.sq⟩,jfu (K := K) (a := ga) (xs := gvs) (fun j σ H2 => ∃ v : Option V,σ = [some (.ref ga),some (.int n),v] ∧ H2 = H) ⟨none,rfl,rfl⟩ (fun j σ H2 _ ⟨_,_,e⟩ => by rw [e];exact hg.sq) ?_ ?_⟩
 ·rintro j x σ H2 hx ⟨v,rfl,rfl⟩
  obtain ⟨g,eg,hga⟩ := ag.get hx
  walk_at "rd"
  exact ⟨n,g,x,rfl,hga,go g (List.mem_of_getElem? eg),true,rfl,iteN (by decide) rfl⟩
 ·rintro σ H2 ⟨v,rfl,rfl⟩
  obtain ⟨g,eg⟩ : ∃ g,gs[gs.length - 1]? = some g := ⟨gs[gs.length - 1],List.getElem?_eq_getElem (by omega)⟩
  obtain ⟨v',ev,a,rfl,ha⟩ := ag.of eg
  have e0 := gl g eg
  walk_at "rd"
  refine ⟨_,hg.sq,_,jlv (by rw [hl];exact ev),a,rfl,_,ha.sq,_,at0,rfl,?_⟩
  rw [e0]
  exact q
end
end K3
end
section
namespace K3
open PySem L2
structure HeAt (kvs : List (Key × V)) (s : MS) : Prop where
 v : ∀ r : Int,In2 r → (valV kvs (Sum.inl r)).getD (.int 0) = .int (s.reg r)
 k : ∀ kv ∈ kvs,∃ r : Int,kv.1 = Sum.inl r ∧ In2 r
 n : (kvs.map (·.1)).Nodup
theorem jdj : ∀ {n : Nat} {l : List Nat},l.Nodup → (∀ x ∈ l,x < n) → l.length ≤ n
 | 0,[],_,_ => Nat.le_refl _
 | 0,x :: _,_,h => absurd (h x (by simp)) (Nat.not_lt_zero _)
 | n + 1,l,nd,h => by
  by_cases m : n ∈ l
  ·have := jdj (n := n) (l := l.erase n) (nd.erase n) (fun x hx => by
    have h1 := nd.mem_erase_iff.mp hx
    have h2 := h x h1.2
    have h3 := h1.1
    omega)
   rw [List.length_erase_of_mem m] at this
   omega
  ·have := jdj (n := n) (l := l) nd (fun x hx => by
    have h2 := h x hx
    have h3 : x ≠ n := fun z => m (z ▸ hx)
    omega)
   omega
def jlc : Key → Nat
 | .inl r => r.toNat
 | .inr _ => 0
theorem HeAt.len {kvs : List (Key × V)} {s : MS} (h : HeAt kvs s) : kvs.length ≤ 2000 := by
 have nd : (kvs.map fun kv => jlc kv.1).Nodup := by
  have n := h.n
  rw [List.nodup_iff_pairwise_ne] at *
  rw [List.pairwise_map] at *
  refine List.Pairwise.imp_of_mem (fun {a b} ha hb z e => z ?_) n
  obtain ⟨x,ex,hx⟩ := h.k a ha
  obtain ⟨y,ey,hy⟩ := h.k b hb
  rw [ex,ey] at e ⊢
  simp only [jlc] at e
  have h1 := hx.1
  have h2 := hy.1
  rw [show x = y by omega]
 have := jdj nd (n := 2000) (fun x hx => by
  obtain ⟨kv,hk,rfl⟩ := List.mem_map.mp hx
  obtain ⟨r,er,hr⟩ := h.k kv hk
  rw [er]
  simp only [jlc]
  have := hr.1
  have := hr.2
  omega)
 rwa [List.length_map] at this
end K3
end
section
namespace K3
open PySem L2
def Row.makes : Row → List Int
 | .test _ p q _ => [p,q]
 | _ => []
def idxs (rows : List Row) (t : Int) : List Nat := (List.range rows.length).filter fun i => match rows[i]? with | some r => decide (t ∈ r.makes) | none => false
def lone (rows : List Row) (t : Int) : Option Nat := match idxs rows t with | [i] => some i | _ => none
def jlD (rows : List Row) (i : Nat) : Int := match rows[i]? with | some r => r.t | none => 0
structure BEq (s s' : MS) : Prop where
 cs : s'.cs = s.cs
 sd : s'.sd = s.sd
 lk : s'.lk = s.lk
 dn : s.dn ≤ s'.dn
section
variable {nm : Int} {ps : List Piece} {i j : Nat} {p : Piece} {s s' : MS} {r : Row}
end
end K3
end
section
namespace K3
open PySem L2
def othr (t p q : Int) : Int := if t = p then q else p
def kept (rows : List Row) (b : Int) : Option Int := if (lone rows b).isSome then some b else none
def jm8 (rows : List Row) (t : Int) : Option Int := match lone rows t with
 | none => none
 | some k => match rows[k]? with
  | some (.test _ p q _) => kept rows (othr t p q)
  | _ => none
def chG (rows : List Row) : Nat → List (Int × Nat) → Int → List (Int × Nat)
 | 0,fnd,_ => fnd
 | n + 1,fnd,u => match lone rows u with
  | none => fnd
  | some k => if (u,k) ∈ fnd then fnd else chG rows n (fnd ++ [(u,k)]) (jlD rows k)
def jna (rows : List Row) (u : Int) : List (Int × Nat) := chG rows (rows.length + 2) [] u
def maxL (l : List Nat) : Nat := l.foldr max 0
def jmh (ah : List (List Nat)) (pl : List Nat) : Nat := maxL ((ah.getD pl.length []).map fun f => pl.getD f 0 + 1)
def jgK (ah : List (List Nat)) (wd many low : Nat) (pl : List Nat) : List Nat := (List.range' (max low (jmh ah pl)) (many - max low (jmh ah pl))).filter fun b => decide (pl.count b < wd)
def lpG (ah : List (List Nat)) (wd many : Nat) : Nat → List Nat → Option (List Nat)
 | 0,pl => some pl
 | k + 1,pl => (jgK ah wd many 0 pl).findSome? fun b => lpG ah wd many k (pl ++ [b])
def lpL (ah : List (List Nat)) (wd many : Nat) : Nat → List Nat → Nat → Option (List Nat)
 | 0,pl,_ => some pl
 | k + 1,pl,low => (jgK ah wd many low pl).findSome? fun b => lpG ah wd many k (pl ++ [b])
def back (ah : List (List Nat)) (wd many : Nat) : List Nat → Option (List Nat)
 | [] => none
 | b :: r => (lpL ah wd many (ah.length - r.length) r.reverse (b + 1)).or (back ah wd many r)
def jm9 (ah : List (List Nat)) (wd many : Nat) : Option (List Nat) := lpG ah wd many ah.length []
def code (B : Nat) : Nat → List Nat → Nat → Nat
 | 0,_,_ => 0
 | r + 1,[],low => 2 * low * B ^ r
 | r + 1,b :: pl,low => (2 * b + 1) * B ^ r + code B r pl low
end K3
end
section
namespace L2
open PySem PySem.Spec PyProof.Rows
section
variable {X : Cx} {pins : List (Addr × Obj)} {σ : St} {H : Hp} {s : Shared} {o i e e2 : Expr} {td ty te : TE} {p pos : Pos}
def jei (ty td : TE) : TE := fun σ H Q => ty σ H fun y H1 => td σ H1 fun x H2 => ∃ a,x = .ref a ∧ ((∃ o,DGet H2 a y o ∧ Q (.bl o.isSome) H2) ∨ (y = .non ∧ ∃ kvs,H2 a = some (.dK kvs) ∧ Q (.bl false) H2))
def uC (K : PySem.W.Frag) : V → List V → Hp → VK → Prop := fun x vs H Q => ∃ (a : Addr) (ns : List Int) (k : Int),x = .ref a ∧ vs = [.int k] ∧ SqL K H a (ns.map V.int) ∧ Q (.int (ns.count k : Nat)) H
def rInD (K : PySem.W.Frag) : R2 := fun x y H Q => ∃ d ds,Dp K H x d ∧ Dp K H y (.list ds) ∧ SeqAt.shaped d = true ∧ SeqAt.shaped (.list ds) = true ∧ Q (.bl (ds.any fun z => PyData.eqv z d)) H
theorem pi_enumP {ta : TA} {tpos : Pos} {elts : List Expr} {kk : Nat} (hg : Gl X "enumerate") (hm : X.mg "enumerate" = none) (ha : PA X [e] ta) (h : isStar e = false) : PI X (.Tuple elts kk tpos) (.Call (.Name "enumerate" p) [e] [] pos) (iEnum X.K ta) := jk1 hg hm ha (v5 h)
end
section
variable {prog : Program} {w : World} {A : Around} {R : Result → Shared → Prop} {I : Addr} {fp wr : List Addr} {n : Nat} {P : Nat → Value → Prop} {St : Nat → Heap → Prop}
end
section
variable {X : Cx} {e d : Expr} {p pos kp : Pos} {te : TE} {ta : TA}
def jeh (K : PySem.W.Frag) (ta tk : TA) : TE := fun σ H Q => ta σ H fun vs H1 => tk σ H1 fun ks H2 => ∃ (a : Addr) (ns : List Int) (z : Int),vs = [.ref a] ∧ ks = [.int z] ∧ SqL K H2 a (ns.map V.int) ∧ ∀ m,(ns = [] ∧ m = z) ∨ (m ∈ ns ∧ ∀ y,y ∈ ns → y ≤ m) → Q (.int m) H2
end
end L2
end
section
namespace L2
theorem jig {X : L2.Cx}{e : PySem.Expr}{p : PySem.Pos}{pos : PySem.Pos}{ta : L2.TA}{tpos : PySem.Pos}{elts : List.{0} PySem.Expr}{kk : Nat} (hg : L2.Gl X (PySem.Str.ofString "enumerate")) (hm : @Eq.{1} (Option.{0} PySem.Value) (L2.Cx.mg X (PySem.Str.ofString "enumerate")) (@Option.none.{0} PySem.Value)) (ha : L2.QA X (@List.cons.{0} PySem.Expr e (@List.nil.{0} PySem.Expr)) ta) (h : @Eq.{1} Bool (L2.isStar e) Bool.false) : L2.QI X (PySem.Expr.Tuple elts kk tpos) (PySem.Expr.Call (PySem.Expr.Name (PySem.Str.ofString "enumerate") p) (@List.cons.{0} PySem.Expr e (@List.nil.{0} PySem.Expr)) (@List.nil.{0} PySem.Keyword) pos) (L2.iEnum (L2.Cx.K X) ta) := ⟨@L2.pi_enumP X e p pos ta tpos elts kk hg hm ha.h h⟩
end L2
end
section
namespace K3
open PySem L2
section
variable {D b : Addr} {H H0 H1 H' H2 : Hp} {o : HO}
end
section
variable {C x dx : Addr} {H0 H H' : Hp} {fs gs : List (Str × V)}
end
end K3
end
section
namespace L2
open PySem PySem.Spec PyProof.Rows
section
variable {prog : Program} {w : World} {A : Around} {E : Value → Shared → Prop}
end
section
variable {X : Cx} {pos : Pos}
def jev (K : PySem.W.Frag) (n : Nat) (t : TGs) : TG := fun v σ H Q => ∃ a xs,v = .ref a ∧ SqL K H a xs ∧ xs.length = n ∧ t xs σ H Q
end
end L2
namespace K3
open PySem L2
end K3
end
section
namespace K3
open PySem L2
section
variable {K : PySem.W.Frag} {a : Addr} {xs : List V} {i : Nat} {tt : L2.TT} {σ : St} {H1 : Hp} {D : Addr} {Qd : Hp → Prop}
end
noncomputable def byR {α : Type} (R : α → V → Prop) (q : α → Bool) (v : V) : Bool := @decide (∃ x,R x v ∧ q x = true) (Classical.propDecidable _)
end K3
end
section
namespace L2
open PySem PySem.Spec PyProof.Rows
section
variable {X : Cx} {e : Expr} {p p2 pos pos2 : Pos} {ta : TA}
end
section
variable {X : Cx} {e e2 : Expr} {te t2 : TE} {pos p2 : Pos}
end
section
variable {X : Cx} {e e2 : Expr} {p pos : Pos}
theorem jiR {ta : TA} {tpos : Pos} {elts : List Expr} {kk : Nat} (hg : Gl X "zip") (hm : X.mg "zip" = none) (ha : QA X [e,e2] ta) (h : noStar [e,e2] = true) : QI X (.Tuple elts kk tpos) (.Call (.Name "zip" p) [e,e2] [] pos) (iZip X.K ta) := ⟨jlJ hg hm ha.h (v5 (yb h).1) (jcB (yb h).2)⟩
end
theorem jlh {K : PySem.W.Frag} {a b : Addr} {xs ys : List V} {g : TG} {tt : TT} {te : TE} {vs : List Nat} {σ : St} {H1 : Hp} {D : Addr} {Qd : Hp → Prop} (Pv : Nat → Hp → Prop) (h0 : Pv 0 (upd H1 D (.lst []))) (hl : ∀ i H,Pv i H → SqL K H a xs ∧ SqL K H b ys)
  (hs : ∀ i x y H T,xs[i]? = some x → ys[i]? = some y → Pv i H → H T = none → g (.ref T) (wipe σ vs) (upd H T (.tup [x,y])) fun σ2 H2 => wipe σ2 vs = wipe σ vs ∧ tt σ2 H2 fun b H3 =>
   if b = true then te σ2 H3 fun y H4 => ∃ acc,H4 D = some (.lst acc) ∧ acc.length < sizeLine ∧ Pv (i + 1) (upd H4 D (.lst (acc ++ [y]))) else Pv (i + 1) H3) (hd : ∀ H,Pv (min xs.length ys.length) H → Qd H) :
  ∃ W : Nat → Nat → Hp → Prop,(∃ m,W 0 m (upd H1 D (.lst []))) ∧ ∀ i m H,W i m H →
   ((Itz K a b).stop i H ∧ Qd H) ∨ ((Itz K a b).go i H ∧ ∃ Nx : Hp → Prop,(∀ H',Nx H' → ∃ m',m' < m ∧ W (i + 1) m' H') ∧ ∀ x H',(Itz K a b).yld i H x H' → g x (wipe σ vs) H' fun σ2 H2 => wipe σ2 vs = wipe σ vs ∧ tt σ2 H2 fun b H3 =>
    if b = true then te σ2 H3 fun y H4 => ∃ acc,H4 D = some (.lst acc) ∧ acc.length < sizeLine ∧ Nx (upd H4 D (.lst (acc ++ [y]))) else Nx H3) := by
 refine ⟨fun i m H => m = min xs.length ys.length - i ∧ i ≤ min xs.length ys.length ∧ Pv i H,⟨min xs.length ys.length,by simp,Nat.zero_le _,h0⟩,?_⟩
 rintro i m H ⟨rfl,hi,p⟩
 obtain ⟨q1,q2⟩ := hl i H p
 by_cases lt : i < min xs.length ys.length
 ·have l1 : i < xs.length := by omega
  have l2 : i < ys.length := by omega
  refine .inr ⟨⟨xs,ys,xs[i],ys[i],q1,q2,List.getElem?_eq_getElem l1,List.getElem?_eq_getElem l2⟩,Pv (i + 1),fun H' n => ⟨min xs.length ys.length - (i + 1),by omega,rfl,lt,n⟩,?_⟩
  rintro v H' ⟨T,x,y,rfl,hT,rfl,e1,e2⟩
  exact hs i x y H T (e1 _ q1) (e2 _ q2) p hT
 ·obtain rfl : i = min xs.length ys.length := by omega
  exact .inl ⟨⟨xs,ys,q1,q2,by omega⟩,hd H p⟩
theorem jjp {K : PySem.W.Frag} {a : Addr} {xs : List V} {g : TG} {tb : TS} {D : Ends} {σ : St} {H : Hp} (Pv : Nat → St → Hp → Prop) (h0 : Pv 0 σ H) (hl : ∀ i σ H,i ≤ xs.length → Pv i σ H → SqL K H a xs)
  (hs : ∀ i x σ H T,xs[i]? = some x → Pv i σ H → H T = none → g (.ref T) σ (upd H T (.tup [.int (i : Nat),x])) fun σ2 H2 => tb { D with nx := Pv (i + 1),ct := Pv (i + 1),bk := D.nx } σ2 H2) (hd : ∀ σ H,Pv xs.length σ H → D.nx σ H) :
  ∃ W : Nat → Nat → St → Hp → Prop,(∃ m,W 0 m σ H) ∧ ∀ i m σ H,W i m σ H →
   ((Ite K a).stop i H ∧ D.nx σ H) ∨ ((Ite K a).go i H ∧ ∃ N : St → Hp → Prop,(∀ σ' H',N σ' H' → ∃ m',m' < m ∧ W (i + 1) m' σ' H') ∧ ∀ x H',(Ite K a).yld i H x H' → g x σ H' fun σ2 H2 => tb { D with nx := N,ct := N,bk := D.nx } σ2 H2) := by
 refine ⟨fun i m σ H => m = xs.length - i ∧ i ≤ xs.length ∧ Pv i σ H,⟨xs.length,by simp,Nat.zero_le _,h0⟩,?_⟩
 rintro i m σ H ⟨rfl,hi,p⟩
 have q := hl i σ H hi p
 by_cases lt : i < xs.length
 ·refine .inr ⟨⟨xs,xs[i],q,List.getElem?_eq_getElem lt⟩,Pv (i + 1),fun σ' H' p' => ⟨xs.length - (i + 1),by omega,rfl,lt,p'⟩,?_⟩
  rintro v H' ⟨T,x,rfl,hT,rfl,e1⟩
  exact hs i x σ H T (e1 _ q) p hT
 ·obtain rfl : i = xs.length := by omega
  exact .inl ⟨⟨xs,q,Nat.le_refl _⟩,hd σ H p⟩
end L2
namespace K3
open PySem L2
theorem jh1 {xs : List V} {k : Nat} : cutV xs (some (k : Int)) none = xs.drop k := by
 unfold cutV
 rw [HT.sIx_nat]
 have e : HT.sIx xs.length xs.length none = xs.length := rfl
 rw [e]
 by_cases h : k ≤ xs.length
 ·rw [Nat.min_eq_left h]
  exact List.take_of_length_le (by rw [List.length_drop];omega)
 ·rw [Nat.min_eq_right (by omega),List.drop_eq_nil_of_le (Nat.le_refl _),List.drop_eq_nil_of_le (by omega)]
  simp
end K3
end
section
namespace L2
open PySem PySem.W PyProof.Rows
section
variable {X : Cx} {pos : Pos}
def jjS (i j l : Nat) (ta : TA) : TS := fun D σ H => ta σ H fun vs H1 => ∃ v w u,vs = [v,w,u] ∧ D.nx (((σ.set i (some v)).set j (some w)).set l (some u)) H1
end
end L2
end
section
namespace HT
open PySem PySem.Spec PyProof.Rows L2
section
variable {prog : Program} {w : World} {A : Around} {E : Value → Shared → Prop} {s : Shared}
end
end HT
namespace L2
open PySem PySem.Spec PyProof.Rows
section
variable {X : Cx}
end
end L2
end
section
namespace PySem
section
variable {prog : Program} {w : World} {K : Type} [DecidableEq K] {knd : HeapKind prog w K} {A : Around} {E : Value → Shared → Prop} {s : Shared}
end
section
variable {prog : Program} {w : World} {K : Type} [DecidableEq K] (knd : HeapKind prog w K) (d a : Addr)
end
end PySem
namespace L2
open PySem PySem.Spec PyProof.Rows
section
variable {X : Cx} {o i e f : Expr} {apos cpos pos : Pos} {td ty tx : TE}
theorem KT.erase {H : Hp} : ∀ {kvs : List (List Key × V)} {xs : List (List Key × Addr × Value)},KT H kvs xs → ∀ {j : Nat} {k : List Key} {p : Addr × Value},xs[j]? = some (k,p) → (xs.map (·.1)).Nodup → KT H (jko kvs k) (xs.eraseIdx j) := by
 intro kvs xs r
 induction r with
 | nil => intro j k p hj _;cases hj
 | @cons a b as bs h t ih =>
  intro j k p hj hn
  rw [List.map_cons,List.nodup_cons] at hn
  unfold jko
  rw [List.filter_cons]
  cases j with
  | zero =>
   cases hj
   have e : a.1 = k := h.1
   rw [if_neg (by simp [e]),List.eraseIdx_cons_zero]
   have all : ∀ {l : List (List Key × V)} {m : List (List Key × Addr × Value)},KT H l m → k ∉ m.map (·.1) → l.filter (fun kv => decide (kv.1 ≠ k)) = l := by
    intro l m q
    induction q with
    | nil => intro _;rfl
    | @cons c d cs ds hc ht ih2 =>
     intro hk
     rw [List.map_cons,List.mem_cons,not_or] at hk
     rw [List.filter_cons,if_pos (by simp only [decide_eq_true_eq];rw [hc.1];exact fun z => hk.1 z.symm),ih2 hk.2]
   rw [all t hn.1]
   exact t
  | succ j =>
   rw [List.getElem?_cons_succ] at hj
   have mem : k ∈ bs.map (·.1) := List.mem_map.mpr ⟨(k,p),List.mem_of_getElem? hj,rfl⟩
   have ne : a.1 ≠ k := fun z => hn.1 (by rw [← h.1,z];exact mem)
   rw [if_pos (by simp [ne]),List.eraseIdx_cons_succ]
   exact .cons h (ih hj hn.2)
end
end L2
end
section
namespace PySem
section
variable {prog : Program} {w : World} {A : Around} {E : Value → Shared → Prop} {s : Shared}
end
end PySem
namespace L2
open PySem PySem.Spec PyProof.Rows
section
variable {X : Cx}
end
end L2
end
section
namespace L2
open PySem PySem.Spec PyProof.Rows
section
variable {X : Cx}
def ipL : TIp := fun x y H Q => ∃ (l b : Addr) (xs zs : List V),x = .ref l ∧ y = .ref b ∧ H l = some (.lst xs) ∧ H b = some (.lst zs) ∧ xs.length + zs.length ≤ sizeLine ∧ Q (.ref l) (upd H l (.lst (xs ++ zs)))
theorem jkG : PIp X .Add ipL := by
 intro pins s σ H x y v u Q I r1 r2 h
 obtain ⟨l,b,xs,zs,rfl,rfl,hH,hB,hz,q⟩ := h
 cases r1
 cases r2
 obtain ⟨z,its,n,r,hl,e⟩ := I.lstM hH
 obtain ⟨z2,its2,n2,r2,hl2,e2⟩ := I.lstM hB
 have hsz : its.toArray.size + its2.toArray.size ≤ sizeLine := by rw [List.size_toArray,List.size_toArray];omega
 have hlong : ¬ (!its.toArray.isEmpty && Builtin.List.listTooLong (its.toArray.size + its2.toArray.size)) = true := by
  rw [jhL hsz,Bool.and_false]
  exact Bool.false_ne_true
 have hc : wpAny (model X.prog X.w) X.A (call (.builtin "list.__iadd__") [.ref l,.ref b]) (EP X pins σ Q) X.xe s := by
  refine call_meets F.slot_list_iadd ⟨_,e,rfl⟩ entry_list_iadd' (F.args_list_iadd_2 _ _)
   (AutoSeq1.list___iadd___list_list_0 l its.toArray n b its2.toArray n2 hlong (by rw [List.size_toArray];omega) (by omega)) ⟨e,e2,?_⟩
  refine ⟨.ref l,_,I.lset (its' := its ++ its2) hH e (by simp) (r.append r2) ?_,rfl,q⟩
  rw [List.length_append]
  omega
 have ha : s.TypeIs (.ref l) "list" := ⟨_,e,rfl⟩
 have hb : s.TypeIs (.ref b) "list" := ⟨_,e2,rfl⟩
 unfold inplaceOp
 refine wpAny_holding ?_
 have hq : isSeqSlot (some (.builtin "list.__iadd__")) = true := by decide +kernel
 have hfi : fillsInplaceSlot (.type "list") "add" (Operator.Add == .Add) = pure false := by
  unfold fillsInplaceSlot
  show (typeLookup (.type "list") (dunderI "add") >>= fun fi => pure (fi.isSome && !isSeqSlot fi)) = pure false
  rw [F.slot_list_iadd.lookup]
  show (pure (true && !isSeqSlot (some (Value.builtin "list.__iadd__"))) : Sem Bool) = pure false
  rw [hq];rfl
 have hsi : seqSlot? (.type "list") (dunderI "add") = pure (some (.builtin "list.__iadd__")) := PySem.seqSlot_of F.slot_list_iadd.lookup hq
 refine wpAny_bind (wpAny_typeOf ha (wpAny_bind (wpAny_of_eq hfi ?_)))
 show wpAny _ _ (if false = true then _ else _) _ _ s
 rw [if_neg Bool.false_ne_true]
 refine wpAny_bind (wpAny_binaryOp1_none (nm := "add") ha hb noFill_list_add ?_)
 refine wpAny_bind (wpAny_of_eq hsi ?_)
 exact wpAny_bind (wpAny_rule hc)
end
end L2
namespace L2
open PySem PySem.Spec PyProof.Rows
section
variable {X : Cx} {o i e f value : Expr} {es : List Expr} {apos cpos pos tpos : Pos} {td ty tx tv ta : TE} {t : TA}
end
end L2
namespace L2
open PySem
end L2
end
section
namespace L2
open PySem PySem.Spec PyProof.Rows
section
variable {X : Cx}
def tFv (te : TE) : TE := fun σ H Q => te σ H fun x H1 => (∃ i : Int,x = .int i ∧ i.natAbs.log2 < 1920 ∧ Q (.str (toString i)) H1) ∨ ∃ z : Str,x = .str z ∧ z.length ≤ sizeLine ∧ Q (.str z) H1
theorem jmv {e : Expr} {te : TE} {pos : Pos} (h : PE X e te) : PE X (.FormattedValue e (-1) none pos) (tFv te) := by
 intro pins s σ H Q I hq
 refine FormattedValue_plain (thn (h pins s σ H _ I hq) fun u s1 ⟨x,H1,I1,r1,q1⟩ => ?_)
 rcases q1 with ⟨i,rfl,hl,q⟩ | ⟨z,rfl,hl,q⟩
 ·obtain ⟨t,rfl⟩ := r1
  exact formatField_int_small hl ⟨.str _,H1,I1.tok _,⟨_,rfl⟩,q⟩
 ·obtain ⟨t,rfl⟩ := r1
  exact formatField_str (fun t' tk => ⟨.str _,H1,I1.tok _,⟨_,rfl⟩,q⟩) hl
abbrev TJ := St → Hp → Str → (Str → Hp → Prop) → Prop
def tJn : TJ := fun _ H acc Q => Q acc H
def tJc (te : TE) (tr : TJ) : TJ := fun σ H acc Q => te σ H fun x H1 => ∃ z : Str,x = .str z ∧ (acc ++ z).length ≤ sizeLine ∧ tr σ H1 (acc ++ z) Q
def PJ (X : Cx) (es : List Expr) (t : TJ) : Prop := ∀ (pins : List (Addr × Obj)) (s : Shared) (σ : St) (H : Hp) (acc : Str) (Q : Str → Hp → Prop) (R : Str → Shared → Prop),Inv X pins σ H s → t σ H acc Q → (∀ out H' s',Inv X pins σ H' s' → Q out H' → R out s') → Joins (model X.prog X.w) X.A X.xe (evalEach es X.env) acc R s
theorem jlI : PJ X [] tJn := fun pins s σ H acc Q R I h k => Joins_nil (k _ _ _ I h)
theorem jkZ {e : Expr} {es : List Expr} {te : TE} {tr : TJ} (h : PE X e te) (hr : PJ X es tr) : PJ X (e :: es) (tJc te tr) := fun pins s σ H acc Q R I hq k =>
 Joins_cons (thn (h pins s σ H _ I hq) fun u s1 ⟨x,H1,I1,r1,z,e,hl,q⟩ => by
  subst e
  obtain ⟨t,rfl⟩ := r1
  exact ⟨z,t,rfl,hl,hr pins s1 σ H1 _ Q R I1 q k⟩)
def tFs (t : TJ) : TE := fun σ H Q => t σ H Str.empty fun out H1 => out.length ≤ sizeLine ∧ Q (.str out) H1
theorem jmw {a b : Expr} {es : List Expr} {t : TJ} {pos : Pos} (h : PJ X (a :: b :: es) t) : PE X (.JoinedStr (a :: b :: es) pos) (tFs t) := by
 intro pins s σ H Q I hq
 exact wpAny_JoinedStr (h pins s σ H Str.empty _ _ I hq fun out H' s' I' q => ⟨q.1,.str out,H',I'.tok _,⟨_,rfl⟩,q.2⟩)
def jcY : V → List V → Hp → VK → Prop := fun x xs H Q => ∃ a b : Str,x = .str a ∧ xs = [.str b] ∧ (b.length == 0) = false ∧ a.length + 2 ≤ sizeLine ∧ ∀ p H',H p = none → Same H H' → H' p = some (.lst ((Txt.split a b).map V.str)) → Q (.ref p) H'
theorem jja : MtR X "str.split" jcY := fun pins s σ H x xs v us Q I rx rs ⟨a,b,e1,e2,h1,h2,q⟩ => jkc pins s σ H x xs v us Q I rx rs ⟨a,b,e1,e2,h1,h2,fun p hp => q p _ hp (zi hp) jj⟩
def jbC (K : PySem.W.Frag) : V → List V → Hp → VK → Prop := fun x xs H Q => ∃ a p,∃ ys : List Str,x = .str a ∧ xs = [.ref p] ∧ (SqL K H p (ys.map V.str) ∨ SqT K H p (ys.map V.str)) ∧ (ys.map (·.length)).sum + ys.length * a.length ≤ 16777216 ∧ Q (.str (Txt.join a ys)) H
structure QJ (X : Cx) (es : List Expr) (t : TJ) : Prop where
 h : PJ X es t
theorem je2 : QJ X [] tJn := ⟨jlI⟩
theorem yk {e : Expr} {es : List Expr} {te : TE} {tr : TJ} (h : QE X e te) (hr : QJ X es tr) : QJ X (e :: es) (tJc te tr) := ⟨jkZ h.h hr.h⟩
theorem jgU {a b : Expr} {es : List Expr} {t : TJ} {pos : Pos} (h : QJ X (a :: b :: es) t) : QE X (.JoinedStr (a :: b :: es) pos) (tFs t) := ⟨jmw h.h⟩
theorem jdB {e : Expr} {te : TE} {pos : Pos} (h : QE X e te) : QE X (.FormattedValue e (-1) none pos) (tFv te) := ⟨jmv h.h⟩
theorem jeD {o e : Expr} {to te : TE} {apos pos : Pos} (ho : QE X o to) (he : QE X e te) (hs : starEach [e] X.env = [(false,eval e X.env)] := by rfl) (hbase : attributeBase o "split" X.env (eval o X.env) = eval o X.env := by rfl) (hline : (apos.endLine == pos.line) = true := by rfl) :
  QE X (.Call (.Attribute o "split" apos) [e] [] pos) (tM1 jcY to te) := ⟨jlL F.slot_str_split F.type_str_split jja ho.h he.h hs hbase hline⟩
theorem jbF {o e : Expr} {to te : TE} {apos pos : Pos} (ho : QE X o to) (he : QE X e te) (hs : starEach [e] X.env = [(false,eval e X.env)] := by rfl) (hbase : attributeBase o "join" X.env (eval o X.env) = eval o X.env := by rfl) (hline : (apos.endLine == pos.line) = true := by rfl) :
  QE X (.Call (.Attribute o "join" apos) [e] [] pos) (tM1 (jbC X.K) to te) := ⟨jlL F.slot_str_join F.type_str_join (show MtR X "str.join" (jbC X.K) from jlg) ho.h he.h hs hbase hline⟩
def gF : List V → Hp → VK → Prop := fun xs H Q => ∃ a : Str,xs = [.str a] ∧ a.length ≤ sizeLine ∧ Q (.int a.length) H
theorem jiq : CallR X (.builtin "len") gF := fun pins s σ H xs us Q I r ⟨a,e,h,q⟩ => jkx pins s σ H xs us Q I r ⟨.str a,a.length,e,⟨h,rfl⟩,q⟩
def gg (P : Program) (w : World) (K : PySem.W.Frag) (ty td : TE) : TE := fun σ H Q => ty σ H fun y H1 => td σ H1 fun x H2 => ∃ a kvs k,x = .ref a ∧ KD P w K a kvs ∧ y = kV k ∧ Q (.bl (!(valueAt kvs k).isSome)) H2
theorem jiZ {i o : Expr} {ty td : TE} (hi : PE X i ty) (ho : PE X o td) : PC X .NotIn i o (gg X.prog X.w X.K ty td) := by
 intro pins s σ H Q I h
 refine thn (hi pins s σ H _ I h) fun iv s1 ⟨y,H1,I1,ry,q1⟩ => thn (ho pins s1 σ H1 _ I1 q1) fun u s2 ⟨x,H2,I2,rx,a,kvs,k,ex,d,ey,q2⟩ => ?_
 subst ex ey
 obtain rfl : u = Value.ref a := rx
 have dd := d.2 _ I2.kIn
 exact wpAny_notIn_of (jen ry) d.1 dd.mapOf ⟨.bl _,H2,I2.tok _,rfl,q2⟩
theorem jgV {i o : Expr} {ty td : TE} (hi : QE X i ty) (ho : QE X o td) : QC X .NotIn i o (gg X.prog X.w X.K ty td) := ⟨jiZ hi.h ho.h⟩
def jdz : List V → Hp → VK → Prop := fun xs H Q => ∃ a n,xs = [.str a] ∧ PySem.intText? a = some n ∧ a.length ≤ 640 ∧ Q (.int n) H
end
section
variable {x : Str} {g : TG} {tt : TT} {te : TE} {vs : List Nat} {σ : St} {H1 : Hp} {D : Addr} {Qd : Hp → Prop}
theorem jl6 (Pv : Nat → Hp → Prop) (h0 : Pv 0 (upd H1 D (.lst [])))
  (hs : ∀ i c H,x.cps[i]? = some c → Pv i H → g (.str ⟨#[c]⟩) (wipe σ vs) H fun σ2 H2 => wipe σ2 vs = wipe σ vs ∧ tt σ2 H2 fun b H3 =>
   if b = true then te σ2 H3 fun y H4 => ∃ acc,H4 D = some (.lst acc) ∧ acc.length < sizeLine ∧ Pv (i + 1) (upd H4 D (.lst (acc ++ [y]))) else Pv (i + 1) H3) (hd : ∀ H,Pv x.cps.size H → Qd H) :
  ∃ W : Nat → Nat → Hp → Prop,(∃ m,W 0 m (upd H1 D (.lst []))) ∧ ∀ i m H,W i m H →
   ((Its x).stop i H ∧ Qd H) ∨ ((Its x).go i H ∧ ∃ Nx : Hp → Prop,(∀ H',Nx H' → ∃ m',m' < m ∧ W (i + 1) m' H') ∧ ∀ y H',(Its x).yld i H y H' → g y (wipe σ vs) H' fun σ2 H2 => wipe σ2 vs = wipe σ vs ∧ tt σ2 H2 fun b H3 =>
    if b = true then te σ2 H3 fun y H4 => ∃ acc,H4 D = some (.lst acc) ∧ acc.length < sizeLine ∧ Nx (upd H4 D (.lst (acc ++ [y]))) else Nx H3) := by
 refine ⟨fun i m H => m = x.cps.size - i ∧ i ≤ x.cps.size ∧ Pv i H,⟨x.cps.size,by simp,Nat.zero_le _,h0⟩,?_⟩
 rintro i m H ⟨rfl,hi,p⟩
 by_cases hlt : i < x.cps.size
 ·refine .inr ⟨hlt,Pv (i + 1),fun H' p' => ⟨x.cps.size - (i + 1),by omega,rfl,hlt,p'⟩,fun y H' hy => ?_⟩
  obtain ⟨rfl,c,hc,rfl⟩ := hy
  exact hs i c _ hc p
 ·have e : i = x.cps.size := by omega
  subst e
  exact .inl ⟨Nat.le_refl _,hd H p⟩
end
section
open TL
theorem ji3 {n : Nat} (h : (numL n).head? = some 48) : n = 0 := by
 induction n using Nat.strongRecOn with
 | _ n ih =>
  by_cases c : n < 10
  ·rw [jg0 c] at h
   have := Option.some.inj h
   omega
  ·rw [jdC (by omega),List.head?_append] at h
   have e : (numL (n / 10)).head? = some 48 := by
    cases hh : (numL (n / 10)).head? with
    | none => exact absurd (List.head?_eq_none_iff.mp hh) (jgZ _)
    | some x => rw [hh] at h;exact h
   have := ih (n / 10) (by omega) e
   omega
def numT (n : Nat) : Str := Str.ofString (toString ((n : Nat) : Int))
theorem jlb (n : Nat) : tl (numT n) = numL n := jdm n
theorem je9 (n : Nat) : (numT n).cps.toList = numL n := jdm n
theorem jdh (n : Nat) : (numT n).length = (numL n).length := by
 rw [← je9];rfl
theorem jj8 (n : Nat) : 1 ≤ (numT n).length := by
 rw [jdh]
 cases h : numL n with
 | nil => exact absurd h (jgZ n)
 | cons _ _ => simp
theorem ji2 {n : Nat} (h : (numT n).cps.toList.head? = some 48) : n = 0 := ji3 (by rw [← je9];exact h)
theorem jbG {n c : Nat} (h : c ∈ (numT n).cps.toList) : 48 ≤ c ∧ c ≤ 57 := by
 rw [je9] at h
 by_cases z : c < 48 ∨ 57 < c
 ·exact absurd h (ji4 z)
 ·omega
end
end L2
end
section
namespace K3
open PySem L2
local macro_rules | `(tactic| walk_at "rd") => `(tactic| simp only [vZ,jev,jei,jeh,jeo,iEnum,uC,rPop,ja6,rInD,rMax,rEqD,rNeD,jdz,rIxS,rAny,gF,tM1,jcY,jbC,tFv,tFs,tJc,tJn,iStr,tDispN,tTupN,tLstN,jc2,gG,gH,jdw,jbB,jdx,jc0,jcZ,tVar,tC,tOp,tUn,rI,rI0,rU,rEq,rNe,tTest,tChain,tIf,tAnd,tOr,tNot,tAndV,tOrV,tNotV,tB,tSeq,tNext,tDrop,tRet,jdo,tIfS,tAsg,gName,gSub,gTup,gCons,gNil,jc1,rIxL,rIxT,tCB,tCallC,sDPut,tDGet,jdr,vX,tKGet,yY,jdn,jdy,tKIdx,jab,jdq,jaa,tDIn,vY,tAug,ipI,jdR,jaq,tCE,tCEs,tCL,tRevT,tDUpd,v8,jdv,iZipT,iEnumT,jad,jac,cx_P,cx_w,jd7,jd6,tSl,tPart,tNoPart,rSlT,rIn,rCat,rRep,tBM,tBM0,vL,jag,jaf,tFld,sFld,v7,rSub,rAdd,jdp,g9,tPar,tCons,tNil,tTup,tLst,L2.start,tYes,wipe,cx_K,jd8,
 List.map_cons,List.map_nil,List.length_cons,List.length_nil,List.cons_append,List.nil_append,Nat.zero_add,Nat.reduceAdd,Nat.reduceSub,List.replicate_succ,List.replicate_zero,List.getElem?_cons_zero,List.getElem?_cons_succ,List.set_cons_zero,List.set_cons_succ,
 Option.some.injEq,exists_eq_left',exists_eq_left,exists_and_left,V.int.injEq,V.ref.injEq,V.bl.injEq,V.str.injEq,V.ty.injEq,List.cons.injEq,and_true,true_and,decide_eq_true_eq])
section
variable {P : Program} {w : World} {K : PySem.W.Frag} {mg : Str → Option Value} {base : Heap} {f : Addr} {fd : FuncData}
abbrev zW : Stmt := top 32
theorem sc_number_of : FnScope ["word", "most", "sign"] ["word", "most"] (defScope zW) := ⟨rfl,rfl,rfl,by decide +kernel,rfl,by decide +kernel,by decide +kernel⟩
theorem yy : (defScope zW).names.lookup ("word" : Str) = some .local := by decide +kernel
theorem jfc : (defScope zW).names.lookup ("most" : Str) = some .local := by decide +kernel
theorem jdU : (defScope zW).names.lookup ("any" : Str) = some .globalImplicit := by decide +kernel
theorem jdT : (defScope zW).names.lookup ("int" : Str) = some .globalImplicit := by decide +kernel
theorem jdS : (defScope zW).names.lookup ("len" : Str) = some .globalImplicit := by decide +kernel
def spNo : Sp := fun vs H Q _ => ∃ (n m : Nat),vs = [.str (numT n),.int m] ∧ n < 10 ^ m ∧ 1 ≤ m ∧ m ≤ 5 ∧ ∀ H',Same H H' → Q (.int n) H'
open TL in
theorem jmF (F : Fun K "number_of" "number_of" zW f fd) (T : TT mg) : FnOk P w K mg base CX0 2 f fd ["word", "most"] spNo := by
 refine F.ok sc_number_of (fun vs H Q E h => ?_) (fun cdv A outer s H vs Q E hr h => ?_)
 ·obtain ⟨n,m,rfl,_⟩ := h
  rfl
 obtain ⟨n,m,rfl,hn,m1,m5,q⟩ := h
 obtain ⟨tg,h_FIGURES⟩ := T.FIGURES
 refine ⟨_,(QSs.h (je (js (jF (yD (vb (jv jcF (jb (i := 0) rfl (Or.inl yy) jaQ jaT) zD (jP _)) (va (zr (jeC je5 je5 jd (jh (show CallR _ _ gF from jiq) jdS T.len PySem.boot_len (ja (jb (i := 0) rfl (Or.inl yy) jaQ jaT) jc (by rfl)) yE zJ (by rfl)) (jb (i := 1) rfl (Or.inl jfc) jb0 jb5))))))
 (jf (jm zD))
 jw))
 (je (js (jF (j7 (jh (jmk rfl) jdU T.any jmn (ja (jak (own := [("sign",2)]) (g := (gName 2)) rfl sc_number_of.nd (jjZ (jb (i := 0) rfl (Or.inl yy) jaQ jaT)) (yC (own := [("sign",2)]) (N := ["word", "most", "sign"]) (sc := defScope zW) (by decide +kernel)) (fun _ _ _ _ _ => (jp (i := 2) sc_number_of.nd rfl (Or.inl rfl) (by first | exact .inl rfl | exact .inr rfl | assumption))) (fun _ _ _ _ _ => zP) (fun _ _ _ _ _ => (zt je4 (q_pv 2 (by rfl) (by first | exact Or.inl rfl | exact Or.inr (Or.inl rfl) | exact Or.inr (Or.inr rfl)) (by decide) (by decide)) (zd (v := .str "0123456789") rfl h_FIGURES ⟨_,rfl⟩ jhi) (by rfl)))) jc (by rfl)) jl1 jlt (by rfl)))
 (jf (jm zD))
 jw))
 (je (js (jF (yD (jbD (jv vM (jC (show IxR _ rIxS from jkE) (jb (i := 0) rfl (Or.inl yy) jaQ jaT) jd (fun _ _ => rfl)) ju (jP _)) (jah (jv jcd (jb (i := 0) rfl (Or.inl yy) jaQ jaT) ju (jP _)))))
 (jf (jm zD))
 jw))
 (jf (jm (jX (show CallR _ _ jdz from jgD) jdT T.int jbe (ja (jb (i := 0) rfl (Or.inl yy) jaQ jaT) jc (by rfl)) ja8 uI (by rfl)))))))),?_⟩
 have sz : (10000000 : Nat) < sizeLine := by rw [sizeLine_eq];decide
 have l1 := jj8 n
 have l2 : (numT n).length ≤ m := by rw [jdh];exact numL_len (by omega) hn
 refine zf fun R hR => ?_
 walk_at "rd"
 refine iteN (by intro z;cases z) ⟨by omega,?_⟩
 refine iteP (by omega) (iteN (by rw [decide_eq_true (by omega)];decide) (hR _ _ ?_))
 clear hR R
 refine zf fun R hR => ?_
 walk_at "rd"
 refine ⟨_,rfl,_,rfl,fun D hD => ?_⟩
 refine jl6 (fun i H2 => Same H H2 ∧ H2 D = some (.lst ((List.replicate i false).map V.bl))) ⟨jbg hD,jj⟩ ?_ ?_
 ·rintro i c H2 hc ⟨S2,d2⟩
  have cm : c ∈ (numT n).cps.toList := by
   rw [Array.mem_toList_iff]
   exact Array.mem_of_getElem? hc
  have cb := jbG cm
  have il : i < (numT n).cps.size := (Array.getElem?_eq_some_iff.mp hc).1
  walk_at "rd"
  have fig : decide (c ∈ (Str.ofString "0123456789").cps.toList) = true := by
   have : c = 48 ∨ c = 49 ∨ c = 50 ∨ c = 51 ∨ c = 52 ∨ c = 53 ∨ c = 54 ∨ c = 55 ∨ c = 56 ∨ c = 57 := by omega
   rcases this with rfl | rfl | rfl | rfl | rfl | rfl | rfl | rfl | rfl | rfl <;> decide +kernel
  have il2 : i < 5 := by
   have : (numT n).cps.size = (numT n).length := rfl
   omega
  refine iteP trivial ⟨c,rfl,_,d2,by rw [List.length_map,List.length_replicate];omega,fun y o hy => ?_,?_⟩
  ·rw [jB (jt hy hD)];exact S2 _ _ hy
  ·rw [jj,fig,List.map_replicate]
   show some (HO.lst (List.replicate i (V.bl false) ++ [V.bl false])) = _
   rw [← List.replicate_succ',List.replicate_succ]
 rintro H2 ⟨S2,d2⟩
 refine ⟨D,rfl,_,SqL.of d2,iteN ?_ (hR _ _ ?_)⟩
 ·rw [List.any_eq_true]
  rintro ⟨b,hb,h1⟩
  rw [List.eq_of_mem_replicate hb] at h1
  cases h1
 clear hR R
 have it : intText? (numT n) = some (n : Int) := jlm (by have := l2;rw [jdh] at this;omega)
 obtain ⟨c,hc⟩ : ∃ c,(numT n).cps.toList[0]? = some c := by
  refine ⟨_,List.getElem?_eq_getElem (l := (numT n).cps.toList) (i := 0) ?_⟩
  show 0 < (numT n).cps.toList.length
  exact l1
 refine zf fun R hR => ?_
 walk_at "rd"
 refine ⟨by omega,c,jhm (j := 0) hc,rfl,?_⟩
 by_cases z : ({ cps := #[c] } : Str) = Str.ofString "0"
 ·have c0 : c = 48 := by
   have : (#[c] : Array Nat).toList = (Str.ofString "0").cps.toList := by rw [← z]
   rw [show (Str.ofString "0").cps.toList = [48] by decide +kernel] at this
   injection this
  have n0 : n = 0 := ji2 (by rw [List.head?_eq_getElem?,hc,c0])
  subst n0
  refine iteP z ⟨rfl,iteN (by rw [decide_eq_true (show numT 0 = Str.ofString "0" by decide +kernel)];decide) (hR _ _ ?_)⟩
  walk_at "rd"
  exact ⟨_,it,by omega,q H2 S2⟩
 ·refine iteN z (iteN (by decide) (hR _ _ ?_))
  walk_at "rd"
  exact ⟨_,it,by omega,q H2 S2⟩
end
end K3
end
section
namespace K3
open PySem L2
local macro_rules | `(tactic| walk_at "rd") => `(tactic| simp only [vZ,jev,jei,jeh,jeo,iEnum,uC,rPop,ja6,rInD,rMax,rEqD,rNeD,jdz,rIxS,gF,tM1,jcY,jbC,tFv,tFs,tJc,tJn,iStr,rAny,tDispN,tTupN,tLstN,jc2,gG,gH,jdw,jbB,jdx,jc0,jcZ,tVar,tC,tOp,tUn,rI,rI0,rU,rEq,rNe,tTest,tChain,tIf,tAnd,tOr,tNot,tAndV,tOrV,tNotV,tB,tSeq,tNext,tDrop,tRet,jdo,tIfS,tAsg,gName,gSub,gTup,gCons,gNil,jc1,rIxL,rIxT,tCB,tCallC,sDPut,tDGet,jdr,vX,tKGet,yY,jdn,jdy,tKIdx,jab,jdq,jaa,tDIn,vY,tAug,ipI,jdR,jaq,tCE,tCEs,tCL,tRevT,tDUpd,v8,jdv,iZipT,iEnumT,jad,jac,cx_P,cx_w,jd7,jd6,tSl,tPart,tNoPart,rSlT,rIn,rCat,rRep,tBM,tBM0,vL,jag,jaf,tFld,sFld,v7,rSub,rAdd,jdp,g9,tPar,tCons,tNil,tTup,tLst,L2.start,tYes,wipe,cx_K,jd8,
 List.map_cons,List.map_nil,List.length_cons,List.length_nil,List.cons_append,List.nil_append,Nat.zero_add,Nat.reduceAdd,Nat.reduceSub,List.replicate_succ,List.replicate_zero,List.getElem?_cons_zero,List.getElem?_cons_succ,List.set_cons_zero,List.set_cons_succ,
 Option.some.injEq,exists_eq_left',exists_eq_left,exists_and_left,V.int.injEq,V.ref.injEq,V.bl.injEq,V.str.injEq,V.ty.injEq,List.cons.injEq,and_true,true_and,decide_eq_true_eq])
section
variable {P : Program} {w : World} {K : PySem.W.Frag} {mg : Str → Option Value} {base : Heap} {f : Addr} {fd : FuncData}
abbrev zA : Stmt := top 37
theorem sc_numbers_of : FnScope ["words", "most", "numbers", "word", "figures"] ["words", "most"] (defScope zA) := ⟨rfl,rfl,rfl,by decide +kernel,rfl,by decide +kernel,by decide +kernel⟩
theorem jba : (defScope zA).names.lookup ("words" : Str) = some .local := by decide +kernel
theorem ja9 : (defScope zA).names.lookup ("most" : Str) = some .local := by decide +kernel
theorem uE : (defScope zA).names.lookup ("numbers" : Str) = some .local := by decide +kernel
theorem gU : (defScope zA).names.lookup ("len" : Str) = some .globalImplicit := by decide +kernel
theorem jbQ : (defScope zA).names.lookup ("tuple" : Str) = some .globalImplicit := by decide +kernel
theorem jc5 : (defScope zA).names.lookup ("zip" : Str) = some .globalImplicit := by decide +kernel
def FitN (ns ms : List Nat) : Prop := ns.length = ms.length ∧ ∀ (i n m : Nat),ns[i]? = some n → ms[i]? = some m → n < 10 ^ m ∧ 1 ≤ m ∧ m ≤ 5
def spNs : Sp := fun vs H Q _ => ∃ (wa ma : Addr) (ns ms : List Nat),vs = [.ref wa,.ref ma] ∧ H wa = some (.lst (ns.map fun n => V.str (numT n))) ∧ H ma = some (.lst (ms.map fun n => V.int (n : Nat))) ∧ FitN ns ms ∧ ns.length ≤ 100 ∧ ∀ t H',Same H H' → H' t = some (.tup (ns.map fun n => V.int (n : Nat))) → Q (.ref t) H'
theorem jmE (F : Fun K "numbers_of" "numbers_of" zA f fd) (T : TT mg) (c_number_of : Cal P w K mg base CX0 "number_of" 2 ["word", "most"] spNo) : FnOk P w K mg base CX0 3 f fd ["words", "most"] spNs := by
 refine F.ok sc_numbers_of (fun vs H Q E h => ?_) (fun cdv A outer s H vs Q E hr h => ?_)
 ·obtain ⟨wa,ma,ns,ms,rfl,_⟩ := h
  rfl
 obtain ⟨wa,ma,ns,ms,rfl,hw,hm,ft,nl,q⟩ := h
 refine ⟨_,(QSs.h (je (js (jF (jv jcd (jh jQ gU T.len PySem.boot_len (ja (jb (i := 0) rfl (Or.inl jba) zk zl) jc (by rfl)) yE zJ (by rfl)) (jh jQ gU T.len PySem.boot_len (ja (jb (i := 1) rfl (Or.inl ja9) jb0 jb5) jc (by rfl)) yE zJ (by rfl)) (jP _))
 (jf (jm zD))
 jw))
 (je (js (uN (i := 2) (own := [("word",3),("figures",4)]) (g := (gTup K 2 (gCons (gName 3) (gCons (gName 4) gNil)))) rfl sc_numbers_of.nd rfl uE (jds rfl rfl rfl (by decide +kernel)) (jiR jc5 T.zip (ja (jb (i := 0) rfl (Or.inl jba) zk zl) (ja (jb (i := 1) rfl (Or.inl ja9) jb0 jb5) jc (by rfl)) (by rfl)) (by rfl)) (yC (own := [("word",3),("figures",4)]) (N := ["words", "most", "numbers", "word", "figures"]) (sc := defScope zA) (by decide +kernel)) (fun _ _ _ _ _ => (zL (by rfl) (jD (jp (i := 3) sc_numbers_of.nd rfl (Or.inl rfl) (by first | exact .inl rfl | exact .inr rfl | assumption)) (jD (jp (i := 4) sc_numbers_of.nd rfl (Or.inl rfl) (by first | exact .inl rfl | exact .inr rfl | assumption)) zx)) (by rfl) (by rfl))) (fun _ _ _ _ _ => zP) (fun _ _ _ _ _ => (jg c_number_of hr (by omega) j5 (ja (q_pv 3 (by rfl) (by first | exact Or.inl rfl | exact Or.inr (Or.inl rfl) | exact Or.inr (Or.inr rfl)) (by decide) (by decide)) (ja (q_pv 4 (by rfl) (by first | exact Or.inl rfl | exact Or.inr (Or.inl rfl) | exact Or.inr (Or.inr rfl)) (by decide) (by decide)) jc (by rfl)) (by rfl)) rfl jbZ (by rfl)))))
 (jf (jm (zR (jv ji0 zD (jb (i := 2) rfl (Or.inl uE) uj um) (by rfl)) zD (jX uo jbQ T.tuple zN (ja (jb (i := 2) rfl (Or.inl uE) uj um) jc (by rfl)) zM zy (by rfl)))))))),?_⟩
 have sz : (10000000 : Nat) < sizeLine := by rw [sizeLine_eq];decide
 refine zf fun R hR => ?_
 walk_at "rd"
 have el := ft.1
 refine ⟨_,.inl (SqL.of hw),_,.inl (SqL.of hm),rfl,?_⟩
 rw [List.length_map,List.length_map]
 refine iteN (by rw [decide_eq_true (by omega)];decide) (hR _ _ ?_)
 clear hR R
 refine zf fun R hR => ?_
 walk_at "rd"
 refine ⟨_,rfl,_,rfl,wa,ma,_,_,rfl,SqL.of hw,SqL.of hm,fun D hD => ?_⟩
 refine jlh (K := K) (a := wa) (b := ma) (xs := ns.map fun n => V.str (numT n)) (ys := ms.map fun n => V.int (n : Nat)) (fun i H4 => Same H H4 ∧ H4 D = some (.lst ((ns.take i).map fun n => V.int (n : Nat)))) ⟨jbg hD,jj⟩ (fun i H4 h => ⟨SqL.of (h.1 _ _ hw),SqL.of (h.1 _ _ hm)⟩) ?_ ?_
 ·rintro i x1 y1 H4 T' hx hy ⟨S4,d4⟩ hT
  rw [List.getElem?_map] at hx hy
  cases e1 : ns[i]? with
  | none => rw [e1] at hx;cases hx
  | some n =>
   cases e2 : ms[i]? with
   | none => rw [e2] at hy;cases hy
   | some m =>
    rw [e1] at hx
    rw [e2] at hy
    cases hx
    cases hy
    have il := (List.getElem?_eq_some_iff.mp e1).1
    have S5 := zi (o := .tup [.str (numT n),.int (m : Nat)]) hT
    have e5 : (upd H4 T' (.tup [.str (numT n),.int (m : Nat)])) T' = some (.tup [.str (numT n),.int (m : Nat)]) := jj
    revert S5 e5
    generalize upd H4 T' (.tup [.str (numT n),.int (m : Nat)]) = H5
    intro S5 e5
    obtain ⟨f1,f2,f3⟩ := ft.2 i n m e1 e2
    refine ⟨T',_,rfl,SqT.of e5,rfl,_,_,rfl,_,_,rfl,rfl,rfl,?_⟩
    walk_at "rd"
    refine iteP trivial ⟨n,m,rfl,f1,f2,f3,fun H6 S6 => ⟨_,S6 _ _ (S5 _ _ d4),?_,fun c o hc => ?_,?_⟩⟩
    ·rw [List.length_map,List.length_take];omega
    ·rw [jB (jt hc hD)];exact S6 _ _ (S5 _ _ (S4 _ _ hc))
    ·rw [jj,List.take_add_one,e1,List.map_append]
     rfl
 rintro H4 ⟨S4,d4⟩
 rw [List.length_map,List.length_map,el,Nat.min_self,← el,List.take_length] at d4
 refine hR _ _ ?_
 clear hR R
 dsimp only [List.set_cons_succ,List.set_cons_zero]
 walk_at "rd"
 have fl : (ns.map fun n => V.int (n : Nat)).all jd1 = true := by
  rw [List.all_eq_true]
  intro v hv
  obtain ⟨k,_,rfl⟩ := List.mem_map.mp hv
  rfl
 have nin : inV V.non (ns.map fun n => V.int (n : Nat)) = false := by
  cases h : inV V.non (ns.map fun n => V.int (n : Nat)) with
  | false => rfl
  | true =>
   exfalso
   unfold inV at h
   rw [List.any_eq_true] at h
   obtain ⟨v,hv,e⟩ := h
   obtain ⟨k,_,rfl⟩ := List.mem_map.mp hv
   simp [eqV] at e
 refine ⟨_,.inl (SqL.of d4),rfl,fl,iteN (by rw [nin];decide) ⟨_,SqL.of d4,fun l H5 f5 S5 e5 => q l H5 (S4.trans S5) e5⟩⟩
end
end K3
end
section
namespace K3
open PySem L2
local macro_rules | `(tactic| walk_at "rd") => `(tactic| simp only [vZ,jev,jei,jeh,jeo,iEnum,uC,rPop,ja6,rInD,rMax,rEqD,rNeD,jdz,rIxS,gF,tM1,jcY,jbC,tFv,tFs,tJc,tJn,iStr,rAny,tDispN,tTupN,tLstN,jc2,gG,gH,jdw,jbB,jdx,jc0,jcZ,tVar,tC,tOp,tUn,rI,rI0,rU,rEq,rNe,tTest,tChain,tIf,tAnd,tOr,tNot,tAndV,tOrV,tNotV,tB,tSeq,tNext,tDrop,tRet,jdo,tIfS,tAsg,gName,gSub,gTup,gCons,gNil,jc1,rIxL,rIxT,tCB,tCallC,sDPut,tDGet,jdr,vX,tKGet,yY,jdn,jdy,tKIdx,jab,jdq,jaa,tDIn,vY,tAug,ipI,jdR,jaq,tCE,tCEs,tCL,tRevT,tDUpd,v8,jdv,iZipT,iEnumT,jad,jac,cx_P,cx_w,jd7,jd6,tSl,tPart,tNoPart,rSlT,rIn,rCat,rRep,tBM,tBM0,vL,jag,jaf,tFld,sFld,v7,rSub,rAdd,jdp,g9,tPar,tCons,tNil,tTup,tLst,L2.start,tYes,wipe,cx_K,jd8,
 List.map_cons,List.map_nil,List.length_cons,List.length_nil,List.cons_append,List.nil_append,Nat.zero_add,Nat.reduceAdd,Nat.reduceSub,List.replicate_succ,List.replicate_zero,List.getElem?_cons_zero,List.getElem?_cons_succ,List.set_cons_zero,List.set_cons_succ,
 Option.some.injEq,exists_eq_left',exists_eq_left,exists_and_left,V.int.injEq,V.ref.injEq,V.bl.injEq,V.str.injEq,V.ty.injEq,List.cons.injEq,and_true,true_and,decide_eq_true_eq])
section
variable {P : Program} {w : World} {K : PySem.W.Frag} {mg : Str → Option Value} {base : Heap} {f : Addr} {fd : FuncData}
abbrev uL : Stmt := top 36
theorem jie : FnScope ["words"] ["words"] (defScope uL) := ⟨rfl,rfl,rfl,by decide +kernel,rfl,by decide +kernel,by decide +kernel⟩
theorem jdH : (defScope uL).names.lookup ("words" : Str) = some .local := by decide +kernel
theorem ja2 : (defScope uL).names.lookup ("numbers_of" : Str) = some .globalImplicit := by decide +kernel
theorem vi : (defScope uL).names.lookup ("MOST_OF_NAME" : Str) = some .globalImplicit := by decide +kernel
abbrev uB : Stmt := top 40
theorem sc_go_of : FnScope ["words", "test"] ["words"] (defScope uB) := ⟨rfl,rfl,rfl,by decide +kernel,rfl,by decide +kernel,by decide +kernel⟩
theorem jbN : (defScope uB).names.lookup ("words" : Str) = some .local := by decide +kernel
theorem jdI : (defScope uB).names.lookup ("test" : Str) = some .local := by decide +kernel
theorem jbV : (defScope uB).names.lookup ("numbers_of" : Str) = some .globalImplicit := by decide +kernel
theorem jcs : (defScope uB).names.lookup ("number_of" : Str) = some .globalImplicit := by decide +kernel
theorem vQ : (defScope uB).names.lookup ("MOST_OF_TEST" : Str) = some .globalImplicit := by decide +kernel
theorem jaE : (defScope uB).names.lookup ("MOST_OF_PIECE" : Str) = some .globalImplicit := by decide +kernel
theorem jhe : (defScope uB).names.lookup ("len" : Str) = some .globalImplicit := by decide +kernel
def spHd : Sp := fun vs H Q _ => ∃ (wa : Addr) (i n : Nat),vs = [.ref wa] ∧ H wa = some (.lst [.str "tested",.str (numT i),.str (numT n)]) ∧ i < 100 ∧ n < 100 ∧ ∀ t H',Same H H' → H' t = some (.tup [.int i,.int n]) → Q (.ref t) H'
theorem jmI (F : Fun K "head_of" "head_of" uL f fd) (T : TT mg) (c_numbers_of : Cal P w K mg base CX0 "numbers_of" 3 ["words", "most"] spNs) : FnOk P w K mg base CX0 4 f fd ["words"] spHd := by
 refine F.ok jie (fun vs H Q E h => ?_) (fun cdv A outer s H vs Q E hr h => ?_)
 ·obtain ⟨wa,i,n,rfl,_⟩ := h
  rfl
 obtain ⟨wa,i,n,rfl,hw,hi,hn,q⟩ := h
 obtain ⟨tg,h_MOST_OF_NAME⟩ := T.MOST_OF_NAME
 refine ⟨_,(QSs.h (je (js (jF (jv jcd (jC ix_list (jb (i := 0) rfl (Or.inl jdH) zk zl) jd (fun _ _ => rfl)) ju (jP _))
 (jf (jm zD))
 jw))
 (jf (jm (jg c_numbers_of hr (by omega) j5 (ja (uP je0 (jb (i := 0) rfl (Or.inl jdH) zk zl) (jai jd) jaj) (ja (zc (ja (zd (v := .int 2) vi h_MOST_OF_NAME ⟨_,rfl⟩ gZ) (ja (zd (v := .int 2) vi h_MOST_OF_NAME ⟨_,rfl⟩ gZ) jc (by rfl)) (by rfl))) jc (by rfl)) (by rfl)) ja2 uH (by rfl)))))),?_⟩
 have sz : (10000000 : Nat) < sizeLine := by rw [sizeLine_eq];decide
 refine zf fun R hR => ?_
 walk_at "rd"
 refine ⟨_,SqL.of hw,_,at0,rfl,iteN (by decide) (hR _ _ ?_)⟩
 clear hR R
 walk_at "rd"
 refine ⟨_,SqL.of hw,fun p2 H2 f2 S2 e2 => ⟨by omega,fun p3 H3 f3 S3 e3 => ⟨p2,p3,[i,n],[2,2],rfl,S3 _ _ e2,e3,⟨rfl,fun k x m h1 h2 => ?_⟩,(by show 2 ≤ 100;decide),fun t H4 S4 e4 => q t H4 (S2.trans (S3.trans S4)) e4⟩⟩⟩
 match k,h1,h2 with
 | 0,h1,h2 => cases h1;cases h2;exact ⟨hi,by decide,by decide⟩
 | 1,h1,h2 => cases h1;cases h2;exact ⟨hn,by decide,by decide⟩
 | k + 2,h1,_ => cases h1
def goW (g : Int × Int) : List V := [.str "go",.str (numT g.1.toNat),.str (if g.2 = -1 then "end" else numT g.2.toNat)]
def spGw : Sp := fun vs H Q _ => ∃ (wa : Addr) (g : Int × Int),vs = [.ref wa] ∧ H wa = some (.lst (goW g)) ∧ In2 g.1 ∧ -1 ≤ g.2 ∧ g.2 < 999 ∧ ∀ t H',Same H H' → H' t = some (.tup [.int g.1,.int g.2]) → Q (.ref t) H'
theorem jj9 {n : Nat} : numT n ≠ "end" := fun z => by
 have : (101 : Nat) ∈ (numT n).cps.toList := by rw [z];decide +kernel
 have := jbG this
 omega
theorem jmJ (F : Fun K "go_of" "go_of" uB f fd) (T : TT mg) (c_number_of : Cal P w K mg base CX0 "number_of" 2 ["word", "most"] spNo) (c_numbers_of : Cal P w K mg base CX0 "numbers_of" 3 ["words", "most"] spNs) : FnOk P w K mg base CX0 4 f fd ["words"] spGw := by
 refine F.ok sc_go_of (fun vs H Q E h => ?_) (fun cdv A outer s H vs Q E hr h => ?_)
 ·obtain ⟨wa,g,rfl,_⟩ := h
  rfl
 obtain ⟨wa,g,rfl,hw,h1,h2,h3,q⟩ := h
 obtain ⟨tg,h_MOST_OF_TEST⟩ := T.MOST_OF_TEST
 obtain ⟨tg2,h_MOST_OF_PIECE⟩ := T.MOST_OF_PIECE
 refine ⟨_,(QSs.h (je (js (jF (yD (jbD (jv vM (jh jQ jhe T.len PySem.boot_len (ja (jb (i := 0) rfl (Or.inl jbN) zk zl) jc (by rfl)) yE zJ (by rfl)) jd (jP _)) (jah (jv vM (jC ix_list (jb (i := 0) rfl (Or.inl jbN) zk zl) jd (fun _ _ => rfl)) ju (jP _)))))
 (je (js (jV (i := 1) sc_go_of.nd rfl (Or.inl jdI) (jg c_number_of hr (by omega) j5 (ja (jC ix_list (jb (i := 0) rfl (Or.inl jbN) zk zl) jd (fun _ _ => rfl)) (ja (zd (v := .int 4) vQ h_MOST_OF_TEST ⟨_,rfl⟩ yI) jc (by rfl)) (by rfl)) jcs jbZ (by rfl)) (by rfl) (by first | exact .inl rfl | exact .inr rfl | assumption)))
 (jf (jm (zR (jv jcF (jb (i := 1) rfl (Or.inl jdI) jbY jb4) zD (jP _)) zD (jW (ja (jb (i := 1) rfl (Or.inl jdI) jbY jb4) (ja (uD ja5 jd) jc (by rfl)) (by rfl)))))))
 jw))
 (jf (jm (jg c_numbers_of hr (by omega) j5 (ja (uP je0 (jb (i := 0) rfl (Or.inl jbN) zk zl) (jai jd) jaj) (ja (zc (ja (zd (v := .int 4) vQ h_MOST_OF_TEST ⟨_,rfl⟩ yI) (ja (zd (v := .int 4) jaE h_MOST_OF_PIECE ⟨_,rfl⟩ jcz) jc (by rfl)) (by rfl))) jc (by rfl)) (by rfl)) jbV uH (by rfl)))))),?_⟩
 have sz : (10000000 : Nat) < sizeLine := by rw [sizeLine_eq];decide
 obtain ⟨a,b⟩ := g
 simp only [In2] at h1
 simp only at h2 h3
 obtain ⟨t,rfl⟩ : ∃ t : Nat,a = t := ⟨a.toNat,by omega⟩
 have hw : H wa = some (.lst [.str "go",.str (numT t),.str (if b = -1 then "end" else numT b.toNat)]) := hw
 refine zf fun R hR => ?_
 walk_at "rd"
 by_cases c : b = -1
 ·rw [if_pos c] at hw
  refine ⟨_,.inl (SqL.of hw),rfl,iteP rfl ⟨_,SqL.of hw,_,jby (j := 2) rfl rfl,rfl,iteP rfl ?_⟩⟩
  refine jeK fun R hR => ?_
  walk_at "rd"
  refine ⟨_,SqL.of hw,_,at1,t,4,rfl,by omega,by decide,by decide,fun H2 S2 => hR _ _ ?_⟩
  clear hR R
  walk_at "rd"
  exact iteN (by intro z;cases z) ⟨by omega,fun p H3 f3 S3 e3 => q p H3 (S2.trans S3) (by rw [c];exact e3)⟩
 ·rw [if_neg c] at hw
  refine ⟨_,.inl (SqL.of hw),rfl,iteP rfl ⟨_,SqL.of hw,_,jby (j := 2) rfl rfl,rfl,iteN (fun z => jj9 (V.str.inj z)) (hR _ _ ?_)⟩⟩
  clear hR R
  obtain ⟨n,rfl⟩ : ∃ n : Nat,b = n := ⟨b.toNat,by omega⟩
  rw [Int.toNat_natCast] at hw
  walk_at "rd"
  refine ⟨_,SqL.of hw,fun p2 H2 f2 S2 e2 => ⟨by omega,fun p3 H3 f3 S3 e3 => ⟨p2,p3,[t,n],[4,4],rfl,S3 _ _ e2,e3,⟨rfl,fun k x m h1 h2 => ?_⟩,(by show 2 ≤ 100;decide),fun t H4 S4 e4 => q t H4 (S2.trans (S3.trans S4)) e4⟩⟩⟩
  match k,h1,h2 with
  | 0,h1,h2 => cases h1;cases h2;exact ⟨by omega,by decide,by decide⟩
  | 1,h1,h2 => cases h1;cases h2;exact ⟨by omega,by decide,by decide⟩
  | k + 2,h1,_ => cases h1
end
end K3
end
section
namespace K3
open PySem L2
local macro_rules | `(tactic| walk_at "rd") => `(tactic| simp only [vZ,jev,jei,jeh,jeo,iEnum,uC,rPop,ja6,rInD,rMax,rEqD,rNeD,jdz,rIxS,gF,tM1,jcY,jbC,tFv,tFs,tJc,tJn,iStr,rAny,gg,tDispN,tTupN,tLstN,jc2,gG,gH,jdw,jbB,jdx,jc0,jcZ,tVar,tC,tOp,tUn,rI,rI0,rU,rEq,rNe,tTest,tChain,tIf,tAnd,tOr,tNot,tAndV,tOrV,tNotV,tB,tSeq,tNext,tDrop,tRet,jdo,tIfS,tAsg,gName,gSub,gTup,gCons,gNil,jc1,rIxL,rIxT,tCB,tCallC,sDPut,tDGet,jdr,vX,tKGet,yY,jdn,jdy,tKIdx,jab,jdq,jaa,tDIn,vY,tAug,ipI,jdR,jaq,tCE,tCEs,tCL,tRevT,tDUpd,v8,jdv,iZipT,iEnumT,jad,jac,cx_P,cx_w,jd7,jd6,tSl,tPart,tNoPart,rSlT,rIn,rCat,rRep,tBM,tBM0,vL,jag,jaf,tFld,sFld,v7,rSub,rAdd,jdp,g9,tPar,tCons,tNil,tTup,tLst,L2.start,tYes,wipe,cx_K,jd8,
 List.map_cons,List.map_nil,List.length_cons,List.length_nil,List.cons_append,List.nil_append,Nat.zero_add,Nat.reduceAdd,Nat.reduceSub,List.replicate_succ,List.replicate_zero,List.getElem?_cons_zero,List.getElem?_cons_succ,List.set_cons_zero,List.set_cons_succ,
 Option.some.injEq,exists_eq_left',exists_eq_left,exists_and_left,V.int.injEq,V.ref.injEq,V.bl.injEq,V.str.injEq,V.ty.injEq,List.cons.injEq,and_true,true_and,decide_eq_true_eq])
section
variable {P : Program} {w : World} {K : PySem.W.Frag} {mg : Str → Option Value} {base : Heap} {f : Addr} {fd : FuncData}
abbrev yZ : Stmt := top 41
theorem sc_row_of : FnScope ["words", "most", "place", "numbers"] ["words"] (defScope yZ) := ⟨rfl,rfl,rfl,by decide +kernel,rfl,by decide +kernel,by decide +kernel⟩
theorem vW : (defScope yZ).names.lookup ("words" : Str) = some .local := by decide +kernel
theorem jeH : (defScope yZ).names.lookup ("most" : Str) = some .local := by decide +kernel
theorem jaO : (defScope yZ).names.lookup ("numbers" : Str) = some .local := by decide +kernel
theorem jbl : (defScope yZ).names.lookup ("numbers_of" : Str) = some .globalImplicit := by decide +kernel
theorem jar : (defScope yZ).names.lookup ("PLACES" : Str) = some .globalImplicit := by decide +kernel
theorem jgg : (defScope yZ).names.lookup ("len" : Str) = some .globalImplicit := by decide +kernel
theorem jas : (defScope yZ).names.lookup ("MOST_OF_TEST" : Str) = some .globalImplicit := by decide +kernel
def rowW (r : Row) : List V := .str (numT r.t.toNat) :: .str r.word :: (r.ns.map fun x => V.str (numT x.toNat))
theorem Row.ns_nn {r : Row} (o : r.ok) : ∀ x ∈ r.ns,0 ≤ x ∧ x ≤ 10006 := fun x hx => by
 obtain ⟨i,hi⟩ := List.getElem?_of_mem hx
 have il := (List.getElem?_eq_some_iff.mp hi).1
 have := Row.fit o i (r.pl[i]'(by rw [r.pl_len];exact il)) x (List.getElem?_eq_getElem _) hi
 rcases this with ⟨_,h⟩ | ⟨_,h1,h2⟩ | ⟨_,h⟩
 ·exact h
 ·exact ⟨by omega,by omega⟩
 ·exact ⟨h.1,by have := h.2;omega⟩
def mstN (p : Str) : Nat := if p = "made" then 4 else 5
def spRw (K : PySem.W.Frag) : Sp := fun vs H Q _ => ∃ (wa : Addr) (r : Row),vs = [.ref wa] ∧ H wa = some (.lst (rowW r)) ∧ r.ok ∧ ∀ t H',Same H H' → Tp K H' t r.vs → Q (.ref t) H'
theorem jmB (F : Fun K "row_of" "row_of" yZ f fd) (T : TT mg) (W : WordsT P w K mg) (c_numbers_of : Cal P w K mg base CX0 "numbers_of" 3 ["words", "most"] spNs) : FnOk P w K mg base CX0 4 f fd ["words"] (spRw K) := by
 refine F.ok sc_row_of (fun vs H Q E h => ?_) (fun cdv A outer s H vs Q E hr h => ?_)
 ·obtain ⟨wa,r,rfl,_⟩ := h
  rfl
 obtain ⟨wa,r,rfl,hw,ok,q⟩ := h
 obtain ⟨tg,h_MOST_OF_TEST⟩ := T.MOST_OF_TEST
 obtain ⟨tg2,h_MOST_OF_NUMBER⟩ := T.MOST_OF_NUMBER
 obtain ⟨aPLACES,kvs,mPLACES,KDP,hP⟩ := W.D
 obtain ⟨pa,hpa,hq⟩ := hP r ok
 refine ⟨_,(QSs.h (je (js (jF (yD (vb (jv jii (jh jQ jgg T.len PySem.boot_len (ja (jb (i := 0) rfl (Or.inl vW) zk zl) jc (by rfl)) yE zJ (by rfl)) jd (jP _)) (va (jjY (jgV (jC ix_list (jb (i := 0) rfl (Or.inl vW) zk zl) jd (fun _ _ => rfl)) (zd (v := .ref aPLACES) jar mPLACES rfl jcy)) (by rfl)))))
 (jf (jm zD))
 jw))
 (je (js (uN (i := 1) (own := [("place",2)]) (g := (gName 2)) rfl sc_row_of.nd rfl jeH (jds rfl rfl rfl (by decide +kernel)) (vx (jiT (zd (v := .ref aPLACES) jar mPLACES rfl jcy) (jC ix_list (jb (i := 0) rfl (Or.inl vW) zk zl) jd (fun _ _ => rfl)) (fun _ _ => rfl))) (yC (own := [("place",2)]) (N := ["words", "most", "place", "numbers"]) (sc := defScope yZ) (by decide +kernel)) (fun _ _ _ _ _ => (jp (i := 2) sc_row_of.nd rfl (Or.inl rfl) (by first | exact .inl rfl | exact .inr rfl | assumption))) (fun _ _ _ _ _ => zP) (fun _ _ _ _ _ => (zR (jv vM (q_pv 2 (by rfl) (by first | exact Or.inl rfl | exact Or.inr (Or.inl rfl) | exact Or.inr (Or.inr rfl)) (by decide) (by decide)) ju (jP _)) (zd (v := .int 4) rfl h_MOST_OF_TEST ⟨_,rfl⟩ yI) (zd (v := .int 5) rfl h_MOST_OF_NUMBER ⟨_,rfl⟩ jb3)))))
 (je (js (jV (i := 3) sc_row_of.nd rfl (Or.inl jaO) (jg c_numbers_of hr (by omega) j5 (ja (jz je6 (zc (ja (jC ix_list (jb (i := 0) rfl (Or.inl vW) zk zl) jd (fun _ _ => rfl)) jc (by rfl))) (uP je0 (jb (i := 0) rfl (Or.inl vW) zk zl) (jai jd) jaj)) (ja (jz je6 (zc (ja (zd (v := .int 4) jas h_MOST_OF_TEST ⟨_,rfl⟩ yI) jc (by rfl))) (jb (i := 1) rfl (Or.inl jeH) jb0 jb5)) jc (by rfl)) (by rfl)) jbl uH (by rfl)) (by rfl) (by first | exact .inl rfl | exact .inr rfl | assumption)))
 (jf (jm (zR (jv jcF (jb (i := 3) rfl (Or.inl jaO) uj um) zD (jP _)) zD (jz je7 (jW (ja (jC ix_tup (jb (i := 3) rfl (Or.inl jaO) uj um) jd (fun _ _ => rfl)) (ja (jC ix_list (jb (i := 0) rfl (Or.inl vW) zk zl) jd (fun _ _ => rfl)) jc (by rfl)) (by rfl))) (uP jkU (jb (i := 3) rfl (Or.inl jaO) uj um) (jai jd) jaj))))))))),?_⟩
 have sz : (10000000 : Nat) < sizeLine := by rw [sizeLine_eq];decide
 refine zf fun R hR => ?_
 walk_at "rd"
 have rwl : (rowW r).length = 2 + r.ns.length := by unfold rowW;simp only [List.length_cons,List.length_map];omega
 refine ⟨_,.inl (SqL.of hw),iteN (by rw [rwl];omega) ⟨_,SqL.of hw,.str r.word,at1,kvs,KDP,Sum.inr r.word,rfl,?_⟩⟩
 rw [hpa]
 refine iteN (by simp) (hR _ _ ?_)
 clear hR R
 have pll := r.pl_len
 have nsl : r.ns.length ≤ 3 := by cases r <;> simp [Row.ns]
 refine zf fun R hR => ?_
 refine ⟨_,rfl,wa,_,1,_,rfl,rfl,SqL.of hw,at1,aPLACES,kvs,Sum.inr r.word,.ref pa,.ref pa,rfl,KDP,rfl,hpa,rfl,pa,rfl,⟨_,hq _⟩,fun D hD => ?_⟩
 refine jeM (K := K) (a := pa) (xs := r.pl.map V.str) (fun i H2 => Same H H2 ∧ H2 D = some (.lst (((r.pl.take i).map mstN).map fun n => V.int (n : Nat)))) ⟨jbg hD,jj⟩ (fun i H2 _ h => hq _) ?_ ?_
 ·rintro i x H2 hx ⟨S2,d2⟩
  rw [List.getElem?_map] at hx
  cases ep : r.pl[i]? with
  | none => rw [ep] at hx;cases hx
  | some p =>
   rw [ep] at hx
   cases hx
   have il := (List.getElem?_eq_some_iff.mp ep).1
   walk_at "rd"
   have fin : ∀ z : Nat,mstN p = z → ∃ acc,H2 D = some (HO.lst acc) ∧ acc.length < sizeLine ∧ Same H (upd H2 D (.lst (acc ++ [V.int (z : Nat)]))) ∧ upd H2 D (.lst (acc ++ [V.int (z : Nat)])) D = some (.lst (((r.pl.take (i + 1)).map mstN).map fun n => V.int (n : Nat))) := fun z hz =>
    ⟨_,d2,by rw [List.length_map,List.length_map,List.length_take];omega,fun y o hy => by rw [jB (jt hy hD)];exact S2 _ _ hy,by rw [jj,List.take_add_one,ep,List.map_append,List.map_append,← hz];rfl⟩
   refine iteP trivial ⟨rfl,?_⟩
   by_cases c : p = Str.ofString "made"
   ·exact iteP c (fin 4 (if_pos c))
   ·exact iteN c (fin 5 (if_neg c))
 rintro H2 ⟨S2,d2⟩
 rw [List.length_map,List.take_length] at d2
 refine hR _ _ ?_
 clear hR R
 dsimp only [List.set_cons_succ,List.set_cons_zero]
 have hw2 := S2 _ _ hw
 refine zf fun R hR => ?_
 walk_at "rd"
 have ct : cutV (rowW r) (some 2) none = r.ns.map fun x => V.str (numT x.toNat) := jhj
 have ti := Row.t_in ok
 have nn := Row.ns_nn ok
 refine ⟨_,SqL.of hw2,_,at0,by omega,fun p3 H3 f3 S3 e3 => ⟨_,SqL.of (S3 _ _ hw2),fun p4 H4 f4 S4 e4 => ⟨_,S4 _ _ e3,_,e4,?_,fun p5 H5 f5 S5 e5 => ⟨by omega,fun p6 H6 f6 S6 e6 => ⟨_,e6,_,S6 _ _ (S5 _ _ (S4 _ _ (S3 _ _ d2))),?_,fun p7 H7 f7 S7 e7 => ?_⟩⟩⟩⟩⟩
 ·rw [ct,List.length_map];show 1 + _ ≤ _;omega
 ·rw [List.length_map,List.length_map];show 1 + _ ≤ _;omega
 rw [ct] at e5
 have h5 : H7 p5 = some (.lst ((r.t.toNat :: r.ns.map Int.toNat).map fun n => V.str (numT n))) := by
  rw [S7 _ _ (S6 _ _ e5),List.map_cons,List.map_map];rfl
 have h7 : H7 p7 = some (.lst ((4 :: r.pl.map mstN).map fun n => V.int (n : Nat))) := by
  rw [e7,List.map_cons];rfl
 refine ⟨p5,p7,r.t.toNat :: r.ns.map Int.toNat,4 :: r.pl.map mstN,rfl,h5,h7,⟨by simp only [List.length_cons,List.length_map];omega,?_⟩,by simp only [List.length_cons,List.length_map];omega,fun t H8 S8 e8 => hR _ _ ?_⟩
 ·rintro (_ | k) n m h1 h2
  ·cases h1;cases h2
   have := ti.2
   exact ⟨by show _ < 10 ^ 4;omega,by decide,by decide⟩
  ·rw [List.getElem?_cons_succ,List.getElem?_map] at h1 h2
   cases ek : r.ns[k]? with
   | none => rw [ek] at h1;cases h1
   | some x =>
    cases el : r.pl[k]? with
    | none => rw [el] at h2;cases h2
    | some p =>
     rw [ek] at h1
     rw [el] at h2
     cases h1;cases h2
     have ft := Row.fit ok k p x el ek
     have hx := nn x (List.mem_of_getElem? ek)
     unfold mstN
     by_cases c : p = "made"
     ·rw [if_pos c]
      rcases ft with ⟨z,_⟩ | ⟨_,h1,h2⟩ | ⟨z,_⟩
      ·rw [c] at z;exact absurd z (by decide +kernel)
      ·exact ⟨by show _ < 10 ^ 4;omega,by decide,by decide⟩
      ·rw [c] at z;rcases z with z | z <;> exact absurd z (by decide +kernel)
     ·rw [if_neg c]
      exact ⟨by show _ < 10 ^ 5;omega,by decide,by decide⟩
 clear hR R
 have S28 := S3.trans (S4.trans (S5.trans (S6.trans (S7.trans S8))))
 have hw8 := S28 _ _ hw2
 walk_at "rd"
 have e8 : H8 t = some (.tup (.int r.t :: r.ns.map V.int)) := by
  rw [e8,List.map_cons,List.map_map,show ((r.t.toNat : Nat) : Int) = r.t from Int.toNat_of_nonneg ti.1]
  congr 3
  exact List.map_congr_left fun x hx => by
   show V.int ((x.toNat : Nat) : Int) = V.int x
   rw [Int.toNat_of_nonneg (nn x hx).1]
 refine iteN (by intro z;cases z) ⟨_,SqT.of e8,_,at0,_,SqL.of hw8,_,at1,by omega,fun p9 H9 f9 S9 e9 => ⟨_,SqT.of (S9 _ _ e8),fun z => ?_,fun p10 H10 f10 S10 e10 => ⟨_,.inl (S10 _ _ e9),_,.inl e10,?_,fun p11 H11 S11 t11 => q p11 H11 (S2.trans (S28.trans (S9.trans (S10.trans S11)))) ?_⟩⟩⟩
 ·have := z.1
  rw [show (1 : Int) = ((1 : Nat) : Int) from rfl,HT.sIx_nat] at this
  simp only [List.length_cons] at this
  omega
 ·rw [show (1 : Int) = ((1 : Nat) : Int) from rfl,jh1,List.length_drop]
  simp only [List.length_cons,List.length_nil,List.length_map]
  omega
 ·rw [show (1 : Int) = ((1 : Nat) : Int) from rfl,jh1] at t11
  rw [r.vs_eq]
  exact t11
end
end K3
end
section
namespace K3
open PySem L2
abbrev PM := List (Int × Nat)
def badL (wd : Nat) (b : List Int) : Prop := b = [] ∨ wd < b.length ∨ ¬ b.Pairwise (· ≤ ·)
instance (wd : Nat) (b : List Int) : Decidable (badL wd b) := by unfold badL;infer_instance
structure PmOk (n : Nat) (pm : PM) : Prop where
 nd : (pm.map (·.1)).Nodup
 lt : ∀ r ∈ pm.map (·.1),0 ≤ r ∧ r < (n : Int)
theorem jkm {n : Nat} {l : List Int} (nd : l.Nodup) (h : ∀ x ∈ l,0 ≤ x ∧ x < (n : Int)) : l.length ≤ n := by
 have nd2 : (l.map Int.toNat).Nodup := by
  rw [List.nodup_iff_pairwise_ne] at nd ⊢
  rw [List.pairwise_map]
  exact nd.imp_of_mem fun {a b} ha hb hne e => hne (by have := h a ha;have := h b hb;omega)
 have := jdj (n := n) nd2 (fun x hx => by
  obtain ⟨y,hy,rfl⟩ := List.mem_map.mp hx
  have := h y hy
  omega)
 rw [List.length_map] at this
 exact this
theorem PmOk.len {n : Nat} {pm : PM} (o : PmOk n pm) : pm.length ≤ n := by
 have := jkm o.nd o.lt
 rw [List.length_map] at this
 exact this
end K3
end
section
namespace K3
open PySem L2
def Hms (l : List Addr) (H : Hp) : Hp := fun b => if b ∈ l then none else H b
section
variable {l l' : List Addr} {H H' : Hp} {b x d : Addr} {o : HO}
theorem jjL (h : b ∉ l) : Hms l H b = H b := by unfold Hms;rw [if_neg h]
theorem jfI : Same (Hms l H) H := fun b o h => by
 unfold Hms at h
 split at h
 ·cases h
 ·exact h
theorem jmq (h : Hms l H b = some o) : b ∉ l := fun z => by
 unfold Hms at h
 rw [if_pos z] at h
 cases h
theorem jhq (h : x ∈ l) : Hms l (upd H x o) = Hms l H := by
 funext b
 unfold Hms
 by_cases c : b ∈ l
 ·rw [if_pos c,if_pos c]
 ·rw [if_neg c,if_neg c,jB (fun z => c (by rw [z];exact h))]
theorem jh7 (S : Same H H') : Same (Hms l H) (Hms l H') := fun b o h => by
 rw [jjL (jmq h)]
 exact S _ _ (jfI _ _ h)
end
end K3
end
section
namespace L2
open PySem
def tTru (K : PySem.W.Frag) (ta : TE) : TT := fun σ H Q => ta σ H fun x H' => ∃ k,TruV K x H' k ∧ Q k H'
theorem jcc {X : Cx} {a : Expr} {ta : TE} (ha : QE X a ta) (he : ∀ whole,isTrue a X.env whole = (do let v ← whole;standAt a.pos;holding [v] (truthy v))) : QT X a (tTru X.K ta) := ⟨jj1 ha.h he⟩
end L2
end
section
namespace K3
open PySem L2
local macro_rules | `(tactic| walk_at "rd") => `(tactic| simp only [vZ,jev,jei,jeh,jeo,iEnum,uC,rPop,ja6,rInD,rMax,rEqD,rNeD,jdz,rIxS,gF,tM1,jcY,jbC,tFv,tFs,tJc,tJn,iStr,rAny,gg,tTru,tDispN,tTupN,tLstN,jc2,gG,gH,jdw,jbB,jdx,jc0,jcZ,tVar,tC,tOp,tUn,rI,rI0,rU,rEq,rNe,tTest,tChain,tIf,tAnd,tOr,tNot,tAndV,tOrV,tNotV,tB,tSeq,tNext,tDrop,tRet,jdo,tIfS,tAsg,gName,gSub,gTup,gCons,gNil,jc1,rIxL,rIxT,tCB,tCallC,sDPut,tDGet,jdr,vX,tKGet,yY,jdn,jdy,tKIdx,jab,jdq,jaa,tDIn,vY,tAug,ipI,jdR,jaq,tCE,tCEs,tCL,tRevT,tDUpd,v8,jdv,iZipT,iEnumT,jad,jac,cx_P,cx_w,jd7,jd6,tSl,tPart,tNoPart,rSlT,rIn,rCat,rRep,tBM,tBM0,vL,jag,jaf,tFld,sFld,v7,rSub,rAdd,jdp,g9,tPar,tCons,tNil,tTup,tLst,L2.start,tYes,wipe,cx_K,jd8,
 List.map_cons,List.map_nil,List.length_cons,List.length_nil,List.cons_append,List.nil_append,Nat.zero_add,Nat.reduceAdd,Nat.reduceSub,List.replicate_succ,List.replicate_zero,List.getElem?_cons_zero,List.getElem?_cons_succ,List.set_cons_zero,List.set_cons_succ,
 Option.some.injEq,exists_eq_left',exists_eq_left,exists_and_left,V.int.injEq,V.ref.injEq,V.bl.injEq,V.str.injEq,V.ty.injEq,List.cons.injEq,and_true,true_and,decide_eq_true_eq])
section
variable {P : Program} {w : World} {K : PySem.W.Frag} {mg : Str → Option Value} {base : Heap} {f : Addr} {fd : FuncData}
abbrev uM : Stmt := top 39
theorem jgR : FnScope ["told", "place", "held"] ["told", "place", "held"] (defScope uM) := ⟨rfl,rfl,rfl,by decide +kernel,rfl,by decide +kernel,by decide +kernel⟩
theorem jcJ : (defScope uM).names.lookup ("told" : Str) = some .local := by decide +kernel
theorem jf5 : (defScope uM).names.lookup ("held" : Str) = some .local := by decide +kernel
abbrev yw : Stmt := top 38
theorem jgS : FnScope ["words", "place", "pieces"] ["words", "place", "pieces"] (defScope yw) := ⟨rfl,rfl,rfl,by decide +kernel,rfl,by decide +kernel,by decide +kernel⟩
theorem ux : (defScope yw).names.lookup ("words" : Str) = some .local := by decide +kernel
theorem jcK : (defScope yw).names.lookup ("place" : Str) = some .local := by decide +kernel
theorem yU : (defScope yw).names.lookup ("pieces" : Str) = some .local := by decide +kernel
theorem ug : (defScope yw).names.lookup ("add_told" : Str) = some .globalImplicit := by decide +kernel
theorem jdb : (defScope yw).names.lookup ("go_of" : Str) = some .globalImplicit := by decide +kernel
theorem jct : (defScope yw).names.lookup ("row_of" : Str) = some .globalImplicit := by decide +kernel
def jiM (K : PySem.W.Frag) : Sp := fun vs H Q _ => ∃ (t h : Addr) (i : Int) (xs : List V),vs = [.ref t,.int i,.ref h] ∧ H h = some (.lst xs) ∧ xs.length ≤ 100000 ∧ Q .non (upd H h (.lst (xs ++ [.ref t])))
theorem jk6 (F : Fun K "add_told" "add_told" uM f fd) (T : TT mg) : FnOk P w K mg base CX0 2 f fd ["told", "place", "held"] (jiM K) := by
 refine F.ok jgR (fun vs H Q E h => ?_) (fun cdv A outer s H vs Q E hr h => ?_)
 ·obtain ⟨t,h,i,xs,rfl,_⟩ := h
  rfl
 obtain ⟨t,h,i,xs,rfl,hh,xl,q⟩ := h
 refine ⟨_,(QSs.h (je (jF (jv jcF (jb (i := 0) rfl (Or.inl jcJ) jhY jh2) zD (jP _))
 (jf yT)
 jw)
 (jf (zQ (jaM PySem.F.plainAttrs_list PySem.F.slot_list_append PySem.F.type_list_append uY (jb (i := 2) rfl (Or.inl jf5) jkt jkw) (ja (jb (i := 0) rfl (Or.inl jcJ) jhY jh2) jc (by rfl)) (by rfl) (by rfl) (by rfl) (by decide)) (by rfl))))),?_⟩
 have sz : (10000000 : Nat) < sizeLine := by rw [sizeLine_eq];decide
 walk_at "rd"
 exact iteN (by intro z;cases z) ⟨.inl ⟨rfl,_,SqL.of hh⟩,_,hh,by omega,q⟩
theorem ji5 {H H1 : Hp} (S : Same H H1) {D : Addr} (h : H1 D = none) : H D = none := by
 cases e : H D with
 | none => rfl
 | some o => rw [S _ _ e] at h;cases h
inductive Ln where
 | pc
 | row (r : Row)
 | go (g : Int × Int)
def jl5 : Ln → List V
 | .pc => [.str "piece"]
 | .row r => rowW r
 | .go g => goW g
def Ln.ok : Ln → Prop
 | .pc => True
 | .row r => r.ok
 | .go g => In2 g.1 ∧ -1 ≤ g.2 ∧ g.2 < 999
abbrev PB := List (List Row × List (Int × Int))
def jaW (B : PB) : Ln → Option PB
 | .pc => some (B ++ [([],[])])
 | .row r => match B.getLast? with
  | some (rs,[]) => some (B.dropLast ++ [(rs ++ [r],[])])
  | _ => none
 | .go g => match B.getLast? with
  | some (rs,gs) => some (B.dropLast ++ [(rs,gs ++ [g])])
  | none => none
def PcAt (K : PySem.W.Frag) (H : Hp) (pc : List Row × List (Int × Int)) (v : V) : Prop := ∃ p rl gl rvs gvs,v = .ref p ∧ H p = some (.tup [.ref rl,.ref gl]) ∧ H rl = some (.lst rvs) ∧ H gl = some (.lst gvs) ∧ AllAt (RowAt K H) pc.1 rvs ∧ AllAt (GoAt K H) pc.2 gvs
theorem PcAt.same {K : PySem.W.Frag} {H H' : Hp} {pc : List Row × List (Int × Int)} {v : V} (h : PcAt K H pc v) (S : Same H H') : PcAt K H' pc v :=
 let ⟨p,rl,gl,rvs,gvs,e,h1,h2,h3,h4,h5⟩ := h
 ⟨p,rl,gl,rvs,gvs,e,S _ _ h1,S _ _ h2,S _ _ h3,h4.imp fun _ _ z => z.mono (TupKeep.same S),h5.imp fun _ _ z => z.mono (TupKeep.same S)⟩
structure Last (K : PySem.W.Frag) (H0 H : Hp) (pl p rl gl : Addr) (B' : PB) (rs : List Row) (gs : List (Int × Int)) (pvs rvs gvs : List V) : Prop where
 hp : H p = some (.tup [.ref rl,.ref gl])
 hr : H rl = some (.lst rvs)
 hg : H gl = some (.lst gvs)
 n1 : rl ≠ gl
 n2 : rl ≠ pl
 n3 : gl ≠ pl
 r0 : H0 rl = none
 g0 : H0 gl = none
 ar : AllAt (RowAt K H) rs rvs
 ag : AllAt (GoAt K H) gs gvs
 bs : AllAt (PcAt K (Hms [pl,rl,gl] H)) B' pvs
structure BAt (K : PySem.W.Frag) (H0 H : Hp) (pl : Addr) (B : PB) : Prop where
 S : Same H0 H
 p0 : H0 pl = none
 h : (B = [] ∧ H pl = some (.lst [])) ∨ ∃ B' rs gs pvs p rl gl rvs gvs,B = B' ++ [(rs,gs)] ∧ H pl = some (.lst (pvs ++ [.ref p])) ∧ Last K H0 H pl p rl gl B' rs gs pvs rvs gvs
theorem Last.same {K : PySem.W.Frag} {H0 H H' : Hp} {pl p rl gl : Addr} {B' : PB} {rs : List Row} {gs : List (Int × Int)} {pvs rvs gvs : List V} (L : Last K H0 H pl p rl gl B' rs gs pvs rvs gvs) (S : Same H H') : Last K H0 H' pl p rl gl B' rs gs pvs rvs gvs :=
 ⟨S _ _ L.hp,S _ _ L.hr,S _ _ L.hg,L.n1,L.n2,L.n3,L.r0,L.g0,L.ar.imp fun _ _ z => z.mono (TupKeep.same S),L.ag.imp fun _ _ z => z.mono (TupKeep.same S),L.bs.imp fun _ _ z => z.same (jh7 S)⟩
theorem BAt.same {K : PySem.W.Frag} {H0 H H' : Hp} {pl : Addr} {B : PB} (h : BAt K H0 H pl B) (S : Same H H') : BAt K H0 H' pl B :=
 ⟨h.S.trans S,h.p0,h.h.imp (fun ⟨e,z⟩ => ⟨e,S _ _ z⟩) fun ⟨B',rs,gs,pvs,p,rl,gl,rvs,gvs,e,z,L⟩ => ⟨B',rs,gs,pvs,p,rl,gl,rvs,gvs,e,S _ _ z,L.same S⟩⟩
def spAl (K : PySem.W.Frag) : Sp := fun vs H Q _ => ∃ (wa pl : Addr) (i : Int) (H0 : Hp) (B B2 : PB) (t : Ln),vs = [.ref wa,.int i,.ref pl] ∧ H0 wa = some (.lst (jl5 t)) ∧ t.ok ∧ BAt K H0 H pl B ∧ jaW B t = some B2 ∧ B.length ≤ 1000 ∧ (∀ b ∈ B,b.1.length ≤ 2000 ∧ b.2.length ≤ 10) ∧ ∀ H',BAt K H0 H' pl B2 → Q .non H'
def yQ : Ln → List Str
 | .pc => ["piece"]
 | .row r => numT r.t.toNat :: r.word :: r.ns.map fun x => numT x.toNat
 | .go g => ["go",numT g.1.toNat,if g.2 = -1 then "end" else numT g.2.toNat]
theorem jhP (t : Ln) : jl5 t = (yQ t).map V.str := by
 cases t with
 | pc => rfl
 | row r => show V.str _ :: V.str _ :: _ = V.str _ :: V.str _ :: _;rw [List.map_map];rfl
 | go g => rfl
theorem je8 (n : Nat) : PyData.strOk (numT n) = true := by
 unfold PyData.strOk
 rw [← Array.all_toList,List.all_eq_true]
 intro c hc
 have := jbG hc
 exact decide_eq_true (by omega)
theorem jhO (t : Ln) : ∀ z ∈ yQ t,PyData.strOk z = true := by
 cases t with
 | pc => intro z hz;rw [List.mem_singleton.mp hz];decide +kernel
 | row r =>
  intro z hz
  rcases List.mem_cons.mp hz with rfl | hz
  ·exact je8 _
  rcases List.mem_cons.mp hz with rfl | hz
  ·cases r with
   | op o t r a b => simp only [Row.word];cases o <;> (simp only [Op2.str];decide +kernel)
   | num _ _ _ => simp only [Row.word];decide +kernel
   | copy _ _ _ => simp only [Row.word];decide +kernel
   | not _ _ _ => simp only [Row.word];decide +kernel
   | get _ _ _ => simp only [Row.word];decide +kernel
   | put _ _ _ => simp only [Row.word];decide +kernel
   | say _ _ => simp only [Row.word];decide +kernel
   | stop _ _ => simp only [Row.word];decide +kernel
   | test _ _ _ _ => simp only [Row.word];decide +kernel
  ·obtain ⟨x,_,rfl⟩ := List.mem_map.mp hz
   exact je8 _
 | go g =>
  intro z hz
  simp only [yQ,List.mem_cons,List.not_mem_nil,or_false] at hz
  rcases hz with rfl | rfl | rfl
  ·decide +kernel
  ·exact je8 _
  ·split
   ·decide +kernel
   ·exact je8 _
theorem jhR : ∀ ss : List Str,(∀ z ∈ ss,PyData.strOk z = true) → PyData.canLayAll0 (ss.map PyData.str) = true
 | [],_ => rfl
 | a :: r,h => by
  have := jhR r fun z hz => h z (List.mem_cons_of_mem _ hz)
  have h1 := h a (by simp)
  simp [PyData.canLayAll0,PyData.canLay0,this,h1]
theorem jhW : ∀ ss : List Str,PyData.depthAll (ss.map PyData.str) ≤ 1
 | [] => by simp [PyData.depthAll]
 | _ :: r => by have := jhW r;simp only [List.map_cons,PyData.depthAll,PyData.depth];omega
theorem jdt (ss : List Str) (h : ∀ z ∈ ss,PyData.strOk z = true) : SeqAt.shaped (.list (ss.map PyData.str)) = true := by
 have d := jhW ss
 have l := jhR ss h
 simp [SeqAt.shaped,PyData.canLay0,l,PyData.depth]
 omega
theorem jeO {H : Hp} : ∀ ss : List Str,DpAll K H (ss.map V.str) (ss.map PyData.str)
 | [] => .nil
 | x :: r => .cons (.str x) (jeO r)
theorem jjr {a b c : PyData} {l : List PyData} : PyData.eqv (.list (a :: b :: l)) (.list [c]) = false := by
 show (_ && PyData.eqvAll (_ :: _) []) = false
 rw [show ∀ (a : PyData) (l : List PyData),PyData.eqvAll (a :: l) [] = false from fun _ _ => rfl,Bool.and_false]
def Ln.isPc : Ln → Bool
 | .pc => true
 | _ => false
theorem jmf (t : Ln) : PyData.eqv (.list ((yQ t).map PyData.str)) (.list [.str "piece"]) = t.isPc := by
 cases t with
 | pc => rfl
 | row r => exact jjr
 | go g => exact jjr
theorem jmN (F : Fun K "add_line" "add_line" yw f fd) (T : TT mg) (c_add_told : Cal P w K mg base CX0 "add_told" 2 ["told", "place", "held"] (jiM K)) (c_go_of : Cal P w K mg base CX0 "go_of" 4 ["words"] spGw) (c_row_of : Cal P w K mg base CX0 "row_of" 4 ["words"] (spRw K)) : FnOk P w K mg base CX0 5 f fd ["words", "place", "pieces"] (spAl K) := by
 refine F.ok jgS (fun vs H Q E h => ?_) (fun cdv A outer s H vs Q E hr h => ?_)
 ·obtain ⟨wa,pl,i,H0,B,B2,t,rfl,_⟩ := h
  rfl
 obtain ⟨wa,pl,i,H0,B,B2,t,rfl,hw0,ok,hB,st,bl,bb,q⟩ := h
 have hu := jkh hr
 refine ⟨_,(QSs.h (jf (jF (jv (jlP hr.units) (jb (i := 0) rfl (Or.inl ux) zk zl) (zc (ja ju jc (by rfl))) (jP _))
 (jf (zQ (jaM PySem.F.plainAttrs_list PySem.F.slot_list_append PySem.F.type_list_append uY (jb (i := 2) rfl (Or.inl yU) zn zo) (ja (jW (ja (zc jc) (ja (zc jc) jc (by rfl)) (by rfl))) jc (by rfl)) (by rfl) (by rfl) (by rfl) (by decide)) (by rfl)))
 (jf (jF (yD (jbD (jcc (jb (i := 2) rfl (Or.inl yU) zn zo) (fun _ => rfl)) (jah (jv vM (jC ix_list (jb (i := 0) rfl (Or.inl ux) zk zl) jd (fun _ _ => rfl)) ju (jP _)))))
 (jf (zQ (jg c_add_told hr (by omega) j5 (ja (jg c_go_of hr (by omega) j5 (ja (jb (i := 0) rfl (Or.inl ux) zk zl) jc (by rfl)) jdb jjy (by rfl)) (ja (jb (i := 1) rfl (Or.inl jcK) ui ul) (ja (jC ix_tup (jC ix_list (jb (i := 2) rfl (Or.inl yU) zn zo) (uD ja5 jd) (fun _ _ => rfl)) jd (fun _ _ => rfl)) jc (by rfl)) (by rfl)) (by rfl)) ug jcQ (by rfl)) (by rfl)))
 (jf (jF (yD (jbD (jcc (jb (i := 2) rfl (Or.inl yU) zn zo) (fun _ => rfl)) (jah (zr (jcc (jC ix_tup (jC ix_list (jb (i := 2) rfl (Or.inl yU) zn zo) (uD ja5 jd) (fun _ _ => rfl)) jd (fun _ _ => rfl)) (fun _ => rfl))))))
 (jf (zQ (jg c_add_told hr (by omega) j5 (ja (jg c_row_of hr (by omega) j5 (ja (jb (i := 0) rfl (Or.inl ux) zk zl) jc (by rfl)) jct jim (by rfl)) (ja (jb (i := 1) rfl (Or.inl jcK) ui ul) (ja (jC ix_tup (jC ix_list (jb (i := 2) rfl (Or.inl yU) zn zo) (uD ja5 jd) (fun _ _ => rfl)) jd (fun _ _ => rfl)) jc (by rfl)) (by rfl)) (by rfl)) ug jcQ (by rfl)) (by rfl)))
 (jf yT)))))))),?_⟩
 have sz : (10000000 : Nat) < sizeLine := by rw [sizeLine_eq];decide
 have hw := hB.S _ _ hw0
 walk_at "rd"
 have hw' := hw
 rw [jhP] at hw'
 refine ⟨by omega,fun p2 H2 f2 S2 e2 => ⟨_,.lst (SqL.of (S2 _ _ hw')) (jeO _),.list [.str "piece"],.lst (SqL.of e2) (.cons (.str _) .nil),jdt _ (jhO t),jdt ["piece"] (jhO .pc),?_⟩⟩
 rw [jmf]
 have B0 : BAt K H0 H2 pl B := hB.same S2
 have wh2 := S2 _ _ hw
 clear hB e2 f2 hw hw'
 cases t with
 | pc =>
  cases st
  obtain ⟨S0,p0,hh⟩ := B0
  obtain ⟨pvs,hpl,pvl,old⟩ : ∃ pvs,H2 pl = some (.lst pvs) ∧ pvs.length = B.length ∧ ∀ G : Hp,(∀ b o,H2 b = some o → b ≠ pl → G b = some o) → AllAt (PcAt K G) B pvs := by
   rcases hh with ⟨rfl,e⟩ | ⟨B',rs,gs,pvs,p,rl,gl,rvs,gvs,rfl,e,L⟩
   ·exact ⟨[],e,rfl,fun _ _ => rfl⟩
   ·have bsl := L.bs.len
    refine ⟨_,e,by rw [List.length_append,List.length_append,bsl];rfl,fun G k => ?_⟩
    have np : p ≠ pl := fun z => by have := L.hp;rw [z,e] at this;cases this
    have tk : TupKeep H2 G := fun b xs hb => k b _ hb (fun z => by rw [z,e] at hb;cases hb)
    refine (L.bs.imp fun _ _ z => z.same fun b o hb => ?_).app (AllAt.one ⟨p,rl,gl,rvs,gvs,rfl,k _ _ L.hp np,k _ _ L.hr L.n2,k _ _ L.hg L.n3,L.ar.imp fun _ _ z => z.mono tk,L.ag.imp fun _ _ z => z.mono tk⟩)
    unfold Hms at hb
    split at hb
    ·cases hb
    ·rename_i nb
     exact k b o hb (fun z => nb (by rw [z];simp))
  refine iteP rfl ⟨.inl ⟨rfl,_,SqL.of hpl⟩,by omega,fun rl H3 f3 S3 e3 => ⟨by omega,fun gl H4 f4 S4 e4 => ⟨by omega,fun p H5 f5 S5 e5 => ⟨_,S5 _ _ (S4 _ _ (S3 _ _ hpl)),by omega,q _ ?_⟩⟩⟩⟩
  have S25 := S3.trans (S4.trans S5)
  have n1 : rl ≠ gl := fun z => by rw [z] at e3;rw [e3] at f4;cases f4
  have n2 : rl ≠ pl := fun z => by rw [z,hpl] at f3;cases f3
  have n3 : gl ≠ pl := fun z => by have := S3 _ _ hpl;rw [← z,f4] at this;cases this
  have n4 : p ≠ pl := fun z => by have := S4 _ _ (S3 _ _ hpl);rw [← z,f5] at this;cases this
  have g3 : H2 gl = none := ji5 S3 f4
  refine ⟨fun b o hb => ?_,p0,.inr ⟨B,[],[],pvs,p,rl,gl,[],[],rfl,jj,⟨?_,?_,?_,n1,n2,n3,ji5 S0 f3,ji5 S0 g3,rfl,rfl,old _ fun b o hb nb => ?_⟩⟩⟩
  ·rw [jB (jt hb p0)];exact S25 _ _ (S0 _ _ hb)
  ·rw [jB n4];exact e5
  ·rw [jB n2];exact S5 _ _ (S4 _ _ e3)
  ·rw [jB n3];exact S5 _ _ e4
  ·rw [jjL (fun z => by
    simp only [List.mem_cons,List.not_mem_nil,or_false] at z
    rcases z with z | z | z
    ·exact nb z
    ·rw [z,f3] at hb;cases hb
    ·rw [z,g3] at hb;cases hb),jB nb]
   exact S25 _ _ hb
 | go g =>
  obtain ⟨S0,p0,hh⟩ := B0
  rcases hh with ⟨rfl,e⟩ | ⟨B',rs,gs,pvs,p,rl,gl,rvs,gvs,rfl,e,L⟩
  ·cases st
  have st' : B2 = B' ++ [(rs,gs ++ [g])] := by
   simp only [jaW,List.getLast?_append,List.getLast?_singleton,Option.some_or,List.dropLast_concat] at st
   exact (Option.some.inj st).symm
  have gb : gs.length ≤ 10 := (bb (rs,gs) (by simp)).2
  have gvl := L.ag.len
  refine iteN (by simp [Ln.isPc]) ⟨true,.inl ⟨_,SqL.of e,by simp⟩,iteP rfl ⟨_,SqL.of wh2,_,at0,rfl,iteP rfl ⟨wa,g,rfl,wh2,ok.1,ok.2.1,ok.2.2,fun t H3 S3 e3 => ⟨_,SqL.of (S3 _ _ e),_,jdk _ _,p,rfl,_,SqT.of (S3 _ _ L.hp),_,at1,t,gl,i,gvs,rfl,S3 _ _ L.hg,by omega,q _ ?_⟩⟩⟩⟩
  have L3 := L.same S3
  have e3' := S3 _ _ e
  have np : p ≠ gl := fun z => by have := L3.hp;rw [z,L3.hg] at this;cases this
  have nt : t ≠ gl := fun z => by rw [z,L3.hg] at e3;cases e3
  have tk : TupKeep H3 (upd H3 gl (.lst (gvs ++ [.ref t]))) := jbA L3.hg
  refine ⟨fun b o hb => ?_,p0,.inr ⟨B',rs,gs ++ [g],pvs,p,rl,gl,rvs,gvs ++ [.ref t],st',by rw [jB (Ne.symm L.n3)];exact e3',⟨?_,?_,jj,L.n1,L.n2,L.n3,L.r0,L.g0,?_,?_,?_⟩⟩⟩
  ·rw [jB (jt hb L.g0)];exact S3 _ _ (S0 _ _ hb)
  ·rw [jB np];exact L3.hp
  ·rw [jB L.n1];exact L3.hr
  ·exact L3.ar.imp fun _ _ z => z.mono tk
  ·refine (L3.ag.imp fun _ _ z => z.mono tk).app (AllAt.one ⟨t,rfl,.inl (tk _ _ e3)⟩)
  ·rw [jhq (by simp)];exact L3.bs
 | row r =>
  obtain ⟨S0,p0,hh⟩ := B0
  rcases hh with ⟨rfl,e⟩ | ⟨B',rs,gs,pvs,p,rl,gl,rvs,gvs,rfl,e,L⟩
  ·cases st
  obtain ⟨rfl,st'⟩ : gs = [] ∧ B2 = B' ++ [(rs ++ [r],[])] := by
   simp only [jaW,List.getLast?_append,List.getLast?_singleton,Option.some_or,List.dropLast_concat] at st
   cases gs with
   | nil => exact ⟨rfl,(Option.some.inj st).symm⟩
   | cons _ _ => cases st
  have gb : rs.length ≤ 2000 := (bb (rs,[]) (by simp)).1
  have rvl := L.ar.len
  have gv : gvs = [] := L.ag
  have w0 : (V.str (numT r.t.toNat) : V) ≠ .str "go" := fun z => by
   have z := V.str.inj z
   have : (103 : Nat) ∈ (numT r.t.toNat).cps.toList := by rw [z];decide +kernel
   have := jbG this
   omega
  refine iteN (by simp [Ln.isPc]) ⟨true,.inl ⟨_,SqL.of e,by simp⟩,iteP rfl ⟨_,SqL.of wh2,_,at0,rfl,iteN w0 ⟨true,.inl ⟨_,SqL.of e,by simp⟩,iteP rfl ⟨_,SqL.of e,_,jdk _ _,p,rfl,_,SqT.of L.hp,_,at1,false,.inl ⟨gvs,SqL.of L.hg,by rw [gv];rfl⟩,iteP rfl ?_⟩⟩⟩⟩
  refine ⟨wa,r,rfl,wh2,ok,fun t H3 S3 t3 => ⟨_,SqL.of (S3 _ _ e),_,jdk _ _,p,rfl,_,SqT.of (S3 _ _ L.hp),_,at0,t,rl,i,rvs,rfl,S3 _ _ L.hr,by omega,q _ ?_⟩⟩
  have L3 := L.same S3
  have e3' := S3 _ _ e
  have np : p ≠ rl := fun z => by have := L3.hp;rw [z,L3.hr] at this;cases this
  have tk : TupKeep H3 (upd H3 rl (.lst (rvs ++ [.ref t]))) := jbA L3.hr
  refine ⟨fun b o hb => ?_,p0,.inr ⟨B',rs ++ [r],[],pvs,p,rl,gl,rvs ++ [.ref t],gvs,st',by rw [jB (Ne.symm L.n2)];exact e3',⟨?_,jj,?_,L.n1,L.n2,L.n3,L.r0,L.g0,?_,L3.ag,?_⟩⟩⟩
  ·rw [jB (jt hb L.r0)];exact S3 _ _ (S0 _ _ hb)
  ·rw [jB np];exact L3.hp
  ·rw [jB (Ne.symm L.n1)];exact L3.hg
  ·exact (L3.ar.imp fun _ _ z => z.mono tk).app (AllAt.one ⟨t,rfl,t3.mono tk⟩)
  ·rw [jhq (by simp)];exact L3.bs
end
end K3
end
section
namespace K3
open PySem L2
section
variable {P : Program} {w : World} {K : PySem.W.Frag} {mg : Str → Option Value} {base : Heap} {f : Addr} {fd : FuncData}
section
open TL
def toks (ps : List Piece) : List Ln := ps.flatMap fun p => .pc :: (p.rows.map .row ++ p.goes.map .go)
def zG (ins nm : Nat) (ps : List Piece) : List (List Str) := ["tested",numT ins,numT nm] :: (toks ps).map yQ
def jcV (ins nm : Nat) (ps : List Piece) : Str := Txt.join "\n" ((zG ins nm ps).map (Txt.join " "))
def WdOk (z : Str) : Prop := (∀ c ∈ tl z,c ≠ 10 ∧ c ≠ 32) ∧ (tl z).length ≤ 7
theorem jca {n : Nat} (h : n < 10 ^ 5) : WdOk (numT n) := by
 refine ⟨fun c hc => ?_,?_⟩
 ·have := jbG (n := n) (c := c) hc
  omega
 ·rw [jlb]
  have := numL_len (k := 5) (by decide) h
  omega
theorem uJ {z : Str} (h : ((tl z).all fun c => decide (c ≠ 10 ∧ c ≠ 32)) = true) (h2 : (tl z).length ≤ 7) : WdOk z := by
 refine ⟨fun c hc => ?_,h2⟩
 rw [List.all_eq_true] at h
 exact of_decide_eq_true (h c hc)
theorem jeQ {t : Ln} (o : t.ok) : ∀ z ∈ yQ t,WdOk z := by
 cases t with
 | pc => intro z hz;rw [List.mem_singleton.mp hz];exact uJ (by decide +kernel) (by decide +kernel)
 | row r =>
  intro z hz
  have ti := Row.t_in o
  rcases List.mem_cons.mp hz with rfl | hz
  ·exact jca (by have := ti.2;omega)
  rcases List.mem_cons.mp hz with rfl | hz
  ·cases r with
   | op w t r a b => simp only [Row.word];cases w <;> (simp only [Op2.str];exact uJ (by decide +kernel) (by decide +kernel))
   | num _ _ _ => simp only [Row.word];exact uJ (by decide +kernel) (by decide +kernel)
   | copy _ _ _ => simp only [Row.word];exact uJ (by decide +kernel) (by decide +kernel)
   | not _ _ _ => simp only [Row.word];exact uJ (by decide +kernel) (by decide +kernel)
   | get _ _ _ => simp only [Row.word];exact uJ (by decide +kernel) (by decide +kernel)
   | put _ _ _ => simp only [Row.word];exact uJ (by decide +kernel) (by decide +kernel)
   | say _ _ => simp only [Row.word];exact uJ (by decide +kernel) (by decide +kernel)
   | stop _ _ => simp only [Row.word];exact uJ (by decide +kernel) (by decide +kernel)
   | test _ _ _ _ => simp only [Row.word];exact uJ (by decide +kernel) (by decide +kernel)
  ·obtain ⟨x,hx,rfl⟩ := List.mem_map.mp hz
   have := Row.ns_nn o x hx
   exact jca (by omega)
 | go g =>
  intro z hz
  have h1 := o.1.2
  have h2 := o.2.2
  simp only [yQ,List.mem_cons,List.not_mem_nil,or_false] at hz
  rcases hz with rfl | rfl | rfl
  ·exact uJ (by decide +kernel) (by decide +kernel)
  ·exact jca (by omega)
  ·split
   ·exact uJ (by decide +kernel) (by decide +kernel)
   ·exact jca (by omega)
theorem jdL (t : Ln) : 1 ≤ (yQ t).length ∧ (yQ t).length ≤ 5 := by
 cases t with
 | pc => decide
 | row r => cases r <;> simp [yQ,Row.ns]
 | go g => simp [yQ]
theorem jf6 {S : List Nat} {c : Nat} : ∀ {ps : List (List Nat)},c ∈ joinL S ps → c ∈ S ∨ ∃ p ∈ ps,c ∈ p
 | [],h => by cases h
 | [p],h => .inr ⟨p,by simp,h⟩
 | p :: q :: r,h => by
  rcases List.mem_append.mp h with h | h
  ·exact .inr ⟨p,by simp,h⟩
  rcases List.mem_append.mp h with h | h
  ·exact .inl h
  rcases jf6 h with h | ⟨z,hz,h⟩
  ·exact .inl h
  ·exact .inr ⟨z,List.mem_cons_of_mem _ hz,h⟩
theorem jdN {S : List Nat} {k : Nat} : ∀ {ps : List (List Nat)},(∀ p ∈ ps,p.length ≤ k) → (joinL S ps).length ≤ ps.length * (k + S.length)
 | [],_ => Nat.zero_le _
 | [p],h => by
  have := h p (by simp)
  show p.length ≤ 1 * _
  omega
 | p :: q :: r,h => by
  have h1 := h p (by simp)
  have h2 := jdN (S := S) (ps := q :: r) fun z hz => h z (List.mem_cons_of_mem _ hz)
  show (p ++ (S ++ joinL S (q :: r))).length ≤ _
  rw [List.length_append,List.length_append,List.length_cons,Nat.succ_mul]
  omega
theorem jic {ws : List Str} (ne : ws ≠ []) (h : ∀ z ∈ ws,WdOk z) : Txt.split (Txt.join " " ws) " " = ws :=
 jeB (y := " ") (s := 32) (S := []) (by decide +kernel) (by decide +kernel) ne fun p hp hc => ((h p hp).1 _ hc).2 rfl
theorem jg7 {ws : List Str} (h : ∀ z ∈ ws,WdOk z) (l : ws.length ≤ 5) : (10 ∉ tl (Txt.join " " ws)) ∧ (tl (Txt.join " " ws)).length ≤ 40 := by
 rw [join_eq,tl_join,show tl " " = [32] by decide +kernel]
 refine ⟨fun hc => ?_,?_⟩
 ·rcases jf6 hc with z | ⟨p,hp,z⟩
  ·exact absurd z (by decide)
  ·obtain ⟨w,hw,rfl⟩ := List.mem_map.mp hp
   exact ((h w hw).1 _ z).1 rfl
 ·have := jdN (S := [32]) (k := 7) (ps := ws.map tl) fun p hp => by
   obtain ⟨w,hw,rfl⟩ := List.mem_map.mp hp
   exact (h w hw).2
  rw [List.length_map] at this
  have m := Nat.mul_le_mul_right (7 + [32].length) l
  simp only [List.length_cons,List.length_nil] at *
  omega
theorem jdi {ins nm : Nat} {ps : List Piece} (hi : ins < 100) (hn : nm < 100) (ok : ∀ t ∈ toks ps,t.ok) : ∀ ws ∈ zG ins nm ps,(∀ z ∈ ws,WdOk z) ∧ 1 ≤ ws.length ∧ ws.length ≤ 5 := fun ws hw => by
 rcases List.mem_cons.mp hw with rfl | hw
 ·refine ⟨fun z hz => ?_,by simp,by simp⟩
  simp only [List.mem_cons,List.not_mem_nil,or_false] at hz
  rcases hz with rfl | rfl | rfl
  ·exact uJ (by decide +kernel) (by decide +kernel)
  ·exact jca (by omega)
  ·exact jca (by omega)
 ·obtain ⟨t,ht,rfl⟩ := List.mem_map.mp hw
  exact ⟨jeQ (ok t ht),jdL t⟩
theorem jib {ins nm : Nat} {ps : List Piece} (hi : ins < 100) (hn : nm < 100) (ok : ∀ t ∈ toks ps,t.ok) : Txt.split (jcV ins nm ps) "\n" = (zG ins nm ps).map (Txt.join " ") :=
 jeB (y := "\n") (s := 10) (S := []) (by decide +kernel) (by decide +kernel) (by simp [zG]) fun p hp => by
  obtain ⟨ws,hw,rfl⟩ := List.mem_map.mp hp
  obtain ⟨h1,_,h3⟩ := jdi hi hn ok ws hw
  exact (jg7 h1 h3).1
theorem jjR {ins nm : Nat} {ps : List Piece} (hi : ins < 100) (hn : nm < 100) (ok : ∀ t ∈ toks ps,t.ok) (l : (toks ps).length ≤ 10000) : (jcV ins nm ps).length ≤ 500000 := by
 show (tl (jcV ins nm ps)).length ≤ _
 unfold jcV
 rw [join_eq,tl_join,show tl "\n" = [10] by decide +kernel]
 have := jdN (S := [10]) (k := 40) (ps := ((zG ins nm ps).map (Txt.join " ")).map tl) fun p hp => by
  obtain ⟨z,hz,rfl⟩ := List.mem_map.mp hp
  obtain ⟨ws,hw,rfl⟩ := List.mem_map.mp hz
  obtain ⟨h1,_,h3⟩ := jdi hi hn ok ws hw
  exact (jg7 h1 h3).2
 rw [List.length_map,List.length_map] at this
 have e : (zG ins nm ps).length = (toks ps).length + 1 := by simp [zG]
 rw [e] at this
 have m := Nat.mul_le_mul_right (40 + [10].length) (show (toks ps).length + 1 ≤ 10001 by omega)
 simp only [List.length_cons,List.length_nil] at *
 omega
theorem jfj {ins nm : Nat} {ps : List Piece} (hi : ins < 100) (hn : nm < 100) (ok : ∀ t ∈ toks ps,t.ok) {ws : List Str} (hw : ws ∈ zG ins nm ps) : (Txt.join " " ws).length ≤ 40 := by
 obtain ⟨h1,_,h3⟩ := jdi hi hn ok ws hw
 exact (jg7 h1 h3).2
theorem jeT {ps : List Piece} (po : PsOk ps) : ∀ t ∈ toks ps,t.ok := fun t ht => by
 obtain ⟨p,hp,h⟩ := List.mem_flatMap.mp ht
 have o := po.ok p hp
 have pn := po.p9
 rcases List.mem_cons.mp h with rfl | h
 ·trivial
 rcases List.mem_append.mp h with h | h
 ·obtain ⟨r,hr,rfl⟩ := List.mem_map.mp h
  exact o.ro r hr
 ·obtain ⟨g,hg,rfl⟩ := List.mem_map.mp h
  have := o.go g hg
  exact ⟨this.1,this.2.1,by have := this.2.2;omega⟩
def runB (B : PB) : List Ln → Option PB
 | [] => some B
 | t :: ts => (jaW B t).bind fun B' => runB B' ts
theorem jhD {B : PB} {gs : List (Int × Int)} : ∀ {rows : List Row} {rs : List Row} {ts : List Ln},gs = [] → runB (B ++ [(rs,gs)]) (rows.map .row ++ ts) = runB (B ++ [(rs ++ rows,gs)]) ts
 | [],rs,ts,_ => by rw [List.append_nil];rfl
 | r :: rows,rs,ts,e => by
  subst e
  show (jaW (B ++ [(rs,[])]) (.row r)).bind _ = _
  have : jaW (B ++ [(rs,[])]) (.row r) = some (B ++ [(rs ++ [r],[])]) := by simp [jaW]
  rw [this]
  show runB (B ++ [(rs ++ [r],[])]) (rows.map .row ++ ts) = _
  rw [jhD rfl,List.append_assoc];rfl
theorem jhF {B : PB} {rs : List Row} : ∀ {gs g0 : List (Int × Int)} {ts : List Ln},runB (B ++ [(rs,g0)]) (gs.map .go ++ ts) = runB (B ++ [(rs,g0 ++ gs)]) ts
 | [],g0,ts => by rw [List.append_nil];rfl
 | g :: gs,g0,ts => by
  show (jaW (B ++ [(rs,g0)]) (.go g)).bind _ = _
  have : jaW (B ++ [(rs,g0)]) (.go g) = some (B ++ [(rs,g0 ++ [g])]) := by simp [jaW]
  rw [this]
  show runB (B ++ [(rs,g0 ++ [g])]) (gs.map .go ++ ts) = _
  rw [jhF,List.append_assoc];rfl
theorem jhC : ∀ {ps : List Piece} {B : PB},runB B (toks ps) = some (B ++ ps.map fun p => (p.rows,p.goes))
 | [],B => by simp [toks,runB]
 | p :: ps,B => by
  have e : toks (p :: ps) = .pc :: (p.rows.map .row ++ (p.goes.map .go ++ toks ps)) := by simp [toks]
  rw [e]
  show runB (B ++ [([],[])]) _ = _
  rw [jhD rfl,jhF,jhC (ps := ps)]
  simp
theorem jiI {B B' : PB} {t : Ln} (h : jaW B t = some B') : B.length ≤ B'.length ∧ ∀ b ∈ B,∃ f ∈ B',b.1.length ≤ f.1.length ∧ b.2.length ≤ f.2.length := by
 cases t with
 | pc =>
  cases h
  exact ⟨by rw [List.length_append];omega,fun b hb => ⟨b,List.mem_append_left _ hb,Nat.le_refl _,Nat.le_refl _⟩⟩
 | row r =>
  rcases List.eq_nil_or_concat B with rfl | ⟨C,x,rfl⟩
  ·cases h
  ·obtain ⟨rs,gs⟩ := x
   rw [List.concat_eq_append] at h ⊢
   cases gs with
   | cons _ _ => simp [jaW] at h
   | nil =>
    simp only [jaW,List.getLast?_append,List.getLast?_singleton,Option.some_or,List.dropLast_concat] at h
    cases h
    refine ⟨by simp,fun b hb => ?_⟩
    rcases List.mem_append.mp hb with z | z
    ·exact ⟨b,List.mem_append_left _ z,Nat.le_refl _,Nat.le_refl _⟩
    ·rw [List.mem_singleton.mp z]
     exact ⟨(rs ++ [r],[]),List.mem_append_right _ (List.mem_singleton.mpr rfl),by simp,Nat.le_refl _⟩
 | go g =>
  rcases List.eq_nil_or_concat B with rfl | ⟨C,x,rfl⟩
  ·cases h
  ·obtain ⟨rs,gs⟩ := x
   rw [List.concat_eq_append] at h ⊢
   simp only [jaW,List.getLast?_append,List.getLast?_singleton,Option.some_or,List.dropLast_concat] at h
   cases h
   refine ⟨by simp,fun b hb => ?_⟩
   rcases List.mem_append.mp hb with z | z
   ·exact ⟨b,List.mem_append_left _ z,Nat.le_refl _,Nat.le_refl _⟩
   ·rw [List.mem_singleton.mp z]
    exact ⟨(rs,gs ++ [g]),List.mem_append_right _ (List.mem_singleton.mpr rfl),Nat.le_refl _,by simp⟩
theorem jhE : ∀ {ts : List Ln} {B F : PB},runB B ts = some F → B.length ≤ F.length ∧ ∀ b ∈ B,∃ f ∈ F,b.1.length ≤ f.1.length ∧ b.2.length ≤ f.2.length
 | [],B,F,h => by cases h;exact ⟨Nat.le_refl _,fun b hb => ⟨b,hb,Nat.le_refl _,Nat.le_refl _⟩⟩
 | t :: ts,B,F,h => by
  cases e : jaW B t with
  | none => rw [runB,e] at h;cases h
  | some B' =>
   rw [runB,e] at h
   obtain ⟨h1,h2⟩ := jhE (ts := ts) h
   obtain ⟨h3,h4⟩ := jiI e
   refine ⟨Nat.le_trans h3 h1,fun b hb => ?_⟩
   obtain ⟨f,hf,a1,a2⟩ := h4 b hb
   obtain ⟨g,hg,b1,b2⟩ := h2 f hf
   exact ⟨g,hg,Nat.le_trans a1 b1,Nat.le_trans a2 b2⟩
end
end
end K3
end
section
namespace K3
open PySem L2
section
variable {P : Program} {w : World} {K : PySem.W.Frag} {mg : Str → Option Value} {base : Heap} {f : Addr} {fd : FuncData}
abbrev jY : Stmt := top 20
theorem sc_check_piece : FnScope ["at", "piece", "pieces", "rows", "goes", "place", "row"] ["at", "piece", "pieces"] (defScope jY) := ⟨rfl,rfl,rfl,by decide +kernel,rfl,by decide +kernel,by decide +kernel⟩
theorem vd : (defScope jY).names.lookup ("piece" : Str) = some .local := by decide +kernel
theorem jdK : (defScope jY).names.lookup ("pieces" : Str) = some .local := by decide +kernel
theorem uc : (defScope jY).names.lookup ("rows" : Str) = some .local := by decide +kernel
theorem jao : (defScope jY).names.lookup ("goes" : Str) = some .local := by decide +kernel
theorem jdJ : (defScope jY).names.lookup ("place" : Str) = some .local := by decide +kernel
theorem jan : (defScope jY).names.lookup ("row" : Str) = some .local := by decide +kernel
theorem gC : (defScope jY).names.lookup ("MOST_ROWS" : Str) = some .globalImplicit := by decide +kernel
theorem gB : (defScope jY).names.lookup ("enumerate" : Str) = some .globalImplicit := by decide +kernel
theorem u9 : (defScope jY).names.lookup ("len" : Str) = some .globalImplicit := by decide +kernel
theorem g7 : (defScope jY).names.lookup ("are_goes" : Str) = some .globalImplicit := by decide +kernel
theorem yV : (defScope jY).names.lookup ("isinstance" : Str) = some .globalImplicit := by decide +kernel
theorem uf : (defScope jY).names.lookup ("tuple" : Str) = some .globalImplicit := by decide +kernel
theorem ja3 : (defScope jY).names.lookup ("is_row" : Str) = some .globalImplicit := by decide +kernel
abbrev zj : Stmt := top 19
theorem sc_is_framed : FnScope ["tested", "ins", "names", "pieces"] ["tested"] (defScope zj) := ⟨rfl,rfl,rfl,by decide +kernel,rfl,by decide +kernel,by decide +kernel⟩
theorem gu : (defScope zj).names.lookup ("tested" : Str) = some .local := by decide +kernel
theorem gr : (defScope zj).names.lookup ("ins" : Str) = some .local := by decide +kernel
theorem jbM : (defScope zj).names.lookup ("names" : Str) = some .local := by decide +kernel
theorem gq : (defScope zj).names.lookup ("pieces" : Str) = some .local := by decide +kernel
theorem vh : (defScope zj).names.lookup ("isinstance" : Str) = some .globalImplicit := by decide +kernel
theorem u0 : (defScope zj).names.lookup ("tuple" : Str) = some .globalImplicit := by decide +kernel
theorem gA : (defScope zj).names.lookup ("MOST_PIECES" : Str) = some .globalImplicit := by decide +kernel
theorem jaD : (defScope zj).names.lookup ("len" : Str) = some .globalImplicit := by decide +kernel
theorem vE : (defScope zj).names.lookup ("is_within" : Str) = some .globalImplicit := by decide +kernel
theorem ja1 : (defScope zj).names.lookup ("MOST_INS" : Str) = some .globalImplicit := by decide +kernel
theorem g6 : (defScope zj).names.lookup ("MOST_NAMES" : Str) = some .globalImplicit := by decide +kernel
abbrev zb : Stmt := top 18
theorem sc_check_tested : FnScope ["tested", "pieces", "at", "piece"] ["tested"] (defScope zb) := ⟨rfl,rfl,rfl,by decide +kernel,rfl,by decide +kernel,by decide +kernel⟩
theorem gT : (defScope zb).names.lookup ("tested" : Str) = some .local := by decide +kernel
theorem vO : (defScope zb).names.lookup ("pieces" : Str) = some .local := by decide +kernel
theorem gS : (defScope zb).names.lookup ("at" : Str) = some .local := by decide +kernel
theorem gR : (defScope zb).names.lookup ("piece" : Str) = some .local := by decide +kernel
theorem u7 : (defScope zb).names.lookup ("enumerate" : Str) = some .globalImplicit := by decide +kernel
theorem u5 : (defScope zb).names.lookup ("is_framed" : Str) = some .globalImplicit := by decide +kernel
theorem uq : (defScope zb).names.lookup ("check_piece" : Str) = some .globalImplicit := by decide +kernel
theorem jbW : (defScope zb).names.lookup ("len" : Str) = some .globalImplicit := by decide +kernel
def jkT (K : PySem.W.Frag) : Sp := fun vs H Q _ => ∃ (i n : Nat) (p : Piece) (v : V),vs = [.int i,v,.int n] ∧ PieceAt K H p v ∧ p.ok n ∧ ∀ H',Same H H' → Q .non H'
theorem jlY (F : Fun K "check_piece" "check_piece" jY f fd) (T : TT mg) (c_is_row : Cal P w K mg base CX0 "is_row" 5 ["row"] (jkQ K)) (c_are_goes : Cal P w K mg base CX0 "are_goes" 5 ["goes", "pieces"] (jiN K)) : FnOk P w K mg base CX0 6 f fd ["at", "piece", "pieces"] (jkT K) := by
 refine F.ok sc_check_piece (fun vs H Q E h => ?_) (fun cdv A outer s H vs Q E hr h => ?_)
 ·obtain ⟨i,n,p,v,rfl,_⟩ := h
  rfl
 obtain ⟨i,n,p,v,rfl,⟨a,ra,ga,rvs,gvs,rfl,h1,h2,h3,h4,h5⟩,ok,q⟩ := h
 obtain ⟨tg,h_MOST_ROWS⟩ := T.MOST_ROWS
 refine ⟨_,(QSs.h (je (jF (yD (vb (zr (j7 (jh jO yV T.isinstance jo (ja (jb (i := 1) rfl (Or.inl vd) vF vH) (ja (jL (v := .ty "tuple") (u := .type "tuple") uf T.tuple zN rfl zM zy) jc (by rfl)) (by rfl)) jn jk (by rfl)))) (vb (jv jcd (jh jQ u9 T.len PySem.boot_len (ja (jb (i := 1) rfl (Or.inl vd) vF vH) jc (by rfl)) yE zJ (by rfl)) jd (jP _)) (va (zr (j7 (jh jO yV T.isinstance jo (ja (jC ix_tup (jb (i := 1) rfl (Or.inl vd) vF vH) jd (fun _ _ => rfl)) (ja (jL (v := .ty "tuple") (u := .type "tuple") uf T.tuple zN rfl zM zy) jc (by rfl)) (by rfl)) jn jk (by rfl))))))))
 (jf yT)
 jw)
 (je (vv (jb (i := 1) rfl (Or.inl vd) vF vH) (zL (by rfl) (jD (jp (i := 3) sc_check_piece.nd rfl (Or.inl uc) (by first | exact .inl rfl | exact .inr rfl | assumption)) (jD (jp (i := 4) sc_check_piece.nd rfl (Or.inl jao) (by first | exact .inl rfl | exact .inr rfl | assumption)) zx)) (by rfl) (by rfl)) (by rfl) (by rfl) (by rfl))
 (je (jF (jv jf0 (jh jQ u9 T.len PySem.boot_len (ja (jb (i := 3) rfl (Or.inl uc) jfv jfF) jc (by rfl)) yE zJ (by rfl)) (zd (v := .int 1500) gC h_MOST_ROWS ⟨_,rfl⟩ jfC) (jP _))
 (jf yT)
 jw)
 (je (yi PassesOwn.never rfl (jdA gB T.enumerate (ja (jb (i := 3) rfl (Or.inl uc) jfv jfF) jc (by rfl)) (by rfl)) (zL (by rfl) (jD (jp (i := 5) sc_check_piece.nd rfl (Or.inl jdJ) (by first | exact .inl rfl | exact .inr rfl | assumption)) (jD (jp (i := 6) sc_check_piece.nd rfl (Or.inl jan) (by first | exact .inl rfl | exact .inr rfl | assumption)) zx)) (by rfl) (by rfl))
 (jf (jF (zr (j7 (jg c_is_row hr (by omega) j5 (ja (jb (i := 6) rfl (Or.inl jan) uh uk) jc (by rfl)) ja3 jin (by rfl))))
 (jf yT)
 jw)))
 (jf (jF (zr (j7 (jg c_are_goes hr (by omega) j5 (ja (jb (i := 4) rfl (Or.inl jao) jaS jaV) (ja (jb (i := 2) rfl (Or.inl jdK) zn zo) jc (by rfl)) (by rfl)) g7 jgs (by rfl))))
 (jf yT)
 jw))))))),?_⟩
 walk_at "rd"
 have l3 := h3.len
 have hrl := ok.rl
 refine ⟨_,_,⟨rfl,rfl⟩,_,h1.ty,_,zu,iteN (by decide) ⟨_,.inr h1.sq,rfl,iteN (by show ¬ false = true;exact nof) ⟨_,h1.sq,_,at0,_,_,⟨rfl,rfl⟩,_,h2.ty,_,zu,iteN (by decide) ⟨_,h1.sq,rfl,_,_,rfl,_,_,rfl,rfl,ra,rfl,_,.inr h2.sq,iteN (by omega) ?_⟩⟩⟩⟩
 refine ⟨_,rfl,ra,rvs,rfl,h2.sq,jgj (K := K) (a := ra) (xs := rvs) (fun j σ H2 => ∃ v1 v2 : Option V,σ = [some (.int i),some (.ref a),some (.int n),some (.ref ra),some (.ref ga),v1,v2] ∧ Same H H2) ⟨none,none,rfl,Same.refl _⟩ (fun j σ H2 _ ⟨_,_,_,k⟩ => (h2.mono (TupKeep.same k)).sq) ?_ ?_⟩
 ·rintro j x σ H2 T' hx ⟨v1,v2,rfl,k2⟩ hT
  obtain ⟨r,er,hra⟩ := h3.get hx
  have k3 := k2.trans (jbg (o := .tup [.int (j : Nat),x]) hT)
  walk_at "rd"
  exact ⟨_,SqT.of jj,rfl,_,_,rfl,_,_,rfl,rfl,r,x,rfl,hra.mono (TupKeep.same k3),ok.ro r (List.mem_of_getElem? er),fun H3 k4 => ⟨true,rfl,iteN (by decide) ⟨_,_,⟨rfl,rfl⟩,k3.trans k4⟩⟩⟩
 ·rintro σ H2 ⟨v1,v2,rfl,k2⟩
  have tk := TupKeep.same k2
  walk_at "rd"
  exact ⟨n,ga,gvs,p.goes,rfl,h4.mono tk,h5.imp fun _ _ h => h.mono tk,ok.g1,ok.g8,ok.go,ok.last,true,rfl,iteN (by decide) (q H2 k2)⟩
def spFr (K : PySem.W.Frag) : Sp := fun vs H Q _ => ∃ (ins nm : Int) (ps : List Piece) (v : V),vs = [v] ∧ TestedAt K H ins nm ps v ∧ (0 ≤ ins ∧ ins ≤ 3) ∧ (ins ≤ nm ∧ nm ≤ 99) ∧ 1 ≤ ps.length ∧ ps.length ≤ 999 ∧ Q (.bl true) H
theorem jmL (F : Fun K "is_framed" "is_framed" zj f fd) (T : TT mg) (c_is_within : Cal P w K mg base CX0 "is_within" 2 ["value", "least", "most"] spIn) : FnOk P w K mg base CX0 3 f fd ["tested"] (spFr K) := by
 refine F.ok sc_is_framed (fun vs H Q E h => ?_) (fun cdv A outer s H vs Q E hr h => ?_)
 ·obtain ⟨ins,nm,ps,v,rfl,_⟩ := h
  rfl
 obtain ⟨ins,nm,ps,v,rfl,⟨a,pa,pvs,rfl,h1,h2,h3⟩,hi,hn,p1,p9,q⟩ := h
 obtain ⟨tg1,h_MOST_INS⟩ := T.MOST_INS
 obtain ⟨tg2,h_MOST_NAMES⟩ := T.MOST_NAMES
 obtain ⟨tg3,h_MOST_PIECES⟩ := T.MOST_PIECES
 refine ⟨_,(QSs.h (je (jF (yD (vb (zr (j7 (jh jO vh T.isinstance jo (ja (jb (i := 0) rfl (Or.inl gu) yA yB) (ja (jL (v := .ty "tuple") (u := .type "tuple") u0 T.tuple zN rfl zM zy) jc (by rfl)) (by rfl)) jn jk (by rfl)))) (va (jv jcd (jh jQ jaD T.len PySem.boot_len (ja (jb (i := 0) rfl (Or.inl gu) yA yB) jc (by rfl)) yE zJ (by rfl)) jd (jP _)))))
 (jf (jm yL))
 jw)
 (je (vv (jb (i := 0) rfl (Or.inl gu) yA yB) (zL (by rfl) (jD (jp (i := 1) sc_is_framed.nd rfl (Or.inl gr) (by first | exact .inl rfl | exact .inr rfl | assumption)) (jD (jp (i := 2) sc_is_framed.nd rfl (Or.inl jbM) (by first | exact .inl rfl | exact .inr rfl | assumption)) (jD (jp (i := 3) sc_is_framed.nd rfl (Or.inl gq) (by first | exact .inl rfl | exact .inr rfl | assumption)) zx))) (by rfl) (by rfl)) (by rfl) (by rfl) (by rfl))
 (je (jF (yD (vb (zr (j7 (jg c_is_within hr (by omega) j5 (ja (jb (i := 1) rfl (Or.inl gr) jhg jhk) (ja jd (ja (zd (v := .int 3) ja1 h_MOST_INS ⟨_,rfl⟩ jgv) jc (by rfl)) (by rfl)) (by rfl)) vE ya (by rfl)))) (va (zr (j7 (jg c_is_within hr (by omega) j5 (ja (jb (i := 2) rfl (Or.inl jbM) jgl jgx) (ja (jb (i := 1) rfl (Or.inl gr) jhg jhk) (ja (zd (v := .int 99) g6 h_MOST_NAMES ⟨_,rfl⟩ jex) jc (by rfl)) (by rfl)) (by rfl)) vE ya (by rfl)))))))
 (jf (jm yL))
 jw)
 (jf (jm (yj (jh jO vh T.isinstance jo (ja (jb (i := 3) rfl (Or.inl gq) zn zo) (ja (jL (v := .ty "tuple") (u := .type "tuple") u0 T.tuple zN rfl zM zy) jc (by rfl)) (by rfl)) jn jk (by rfl)) (yx (jeF je5 je5 jd (jh jQ jaD T.len PySem.boot_len (ja (jb (i := 3) rfl (Or.inl gq) zn zo) jc (by rfl)) yE zJ (by rfl)) (zd (v := .int 999) gA h_MOST_PIECES ⟨_,rfl⟩ jd5)))))))))),?_⟩
 walk_at "rd"
 have l3 := h3.len
 refine ⟨_,_,⟨rfl,rfl⟩,_,h1.ty,_,zu,iteN (by decide) ⟨_,.inr h1.sq,rfl,iteN (by show ¬ false = true;exact nof) ⟨_,h1.sq,rfl,_,_,rfl,_,_,rfl,_,_,rfl,rfl,ins,0,3,rfl,_,rfl,iteN (by rw [decide_eq_true hi];decide) ⟨nm,ins,99,rfl,_,rfl,iteN (by rw [decide_eq_true hn];decide) ⟨_,_,⟨rfl,rfl⟩,_,h2.ty,_,zu,?_⟩⟩⟩⟩⟩
 refine iteP rfl ⟨pa,rfl,_,.inr h2.sq,iteP (by omega) ?_⟩
 rw [decide_eq_true (show (pvs.length : Int) ≤ 999 by omega)]
 exact q
def spCT (K : PySem.W.Frag) : Sp := fun vs H Q _ => ∃ (ins nm : Int) (ps : List Piece) (v : V),vs = [v] ∧ TestedAt K H ins nm ps v ∧ (0 ≤ ins ∧ ins ≤ 3) ∧ (ins ≤ nm ∧ nm ≤ 99) ∧ PsOk ps ∧ ∀ H',Same H H' → Q .non H'
theorem jmM (F : Fun K "check_tested" "check_tested" zb f fd) (T : TT mg) (c_is_framed : Cal P w K mg base CX0 "is_framed" 3 ["tested"] (spFr K)) (c_check_piece : Cal P w K mg base CX0 "check_piece" 6 ["at", "piece", "pieces"] (jkT K)) : FnOk P w K mg base CX0 7 f fd ["tested"] (spCT K) := by
 refine F.ok sc_check_tested (fun vs H Q E h => ?_) (fun cdv A outer s H vs Q E hr h => ?_)
 ·obtain ⟨ins,nm,ps,v,rfl,_⟩ := h
  rfl
 obtain ⟨ins,nm,ps,v,rfl,ta,hi,hn,po,q⟩ := h
 refine ⟨_,(QSs.h (je (jF (zr (j7 (jg c_is_framed hr (by omega) j5 (ja (jb (i := 0) rfl (Or.inl gT) yA yB) jc (by rfl)) u5 jfz (by rfl))))
 (jf yT)
 jw)
 (je (jV (i := 1) sc_check_tested.nd rfl (Or.inl vO) (jC ix_tup (jb (i := 0) rfl (Or.inl gT) yA yB) jd (fun _ _ => rfl)) (by rfl) (by first | exact .inl rfl | exact .inr rfl | assumption))
 (jf (yi PassesOwn.never rfl (jdA u7 T.enumerate (ja (jb (i := 1) rfl (Or.inl vO) zn zo) jc (by rfl)) (by rfl)) (zL (by rfl) (jD (jp (i := 2) sc_check_tested.nd rfl (Or.inl gS) (by first | exact .inl rfl | exact .inr rfl | assumption)) (jD (jp (i := 3) sc_check_tested.nd rfl (Or.inl gR) (by first | exact .inl rfl | exact .inr rfl | assumption)) zx)) (by rfl) (by rfl))
 (jf (zQ (jg c_check_piece hr (by omega) j5 (ja (jb (i := 2) rfl (Or.inl gS) jmj jml) (ja (jb (i := 3) rfl (Or.inl gR) vF vH) (ja (jh jQ jbW T.len PySem.boot_len (ja (jb (i := 1) rfl (Or.inl vO) zn zo) jc (by rfl)) yE zJ (by rfl)) jc (by rfl)) (by rfl)) (by rfl)) uq jd4 (by rfl)) (by rfl)))))))),?_⟩
 walk_at "rd"
 refine ⟨ins,nm,ps,v,rfl,ta,hi,hn,po.p1,po.p9,true,rfl,iteN (by decide) ?_⟩
 obtain ⟨a,pa,pvs,rfl,h1,h2,h3⟩ := ta
 have l3 := h3.len
 refine ⟨a,rfl,_,h1.sq,_,jby (j := 2) rfl rfl,?_⟩
 refine ⟨_,rfl,pa,pvs,rfl,h2.sq,jgj (K := K) (a := pa) (xs := pvs) (fun j σ H2 => ∃ v1 v2 : Option V,σ = [some (.ref a),some (.ref pa),v1,v2] ∧ Same H H2) ⟨none,none,rfl,Same.refl _⟩ (fun j σ H2 _ ⟨_,_,_,k⟩ => (h2.mono (TupKeep.same k)).sq) ?_ ?_⟩
 ·rintro j x σ H2 T' hx ⟨v1,v2,rfl,k2⟩ hT
  obtain ⟨p,ep,hpa⟩ := h3.get hx
  have k3 := k2.trans (jbg (o := .tup [.int (j : Nat),x]) hT)
  walk_at "rd"
  refine ⟨_,SqT.of jj,rfl,_,_,rfl,_,_,rfl,rfl,_,.inr (h2.mono (TupKeep.same k3)).sq,j,ps.length,p,x,by rw [l3],hpa.mono (TupKeep.same k3),po.ok p (List.mem_of_getElem? ep),fun H3 k4 => ⟨_,_,⟨rfl,rfl⟩,k3.trans k4⟩⟩
 ·rintro σ H2 ⟨v1,v2,rfl,k2⟩
  exact q H2 k2
end
end K3
end
section
namespace K3
open PySem L2
local macro_rules | `(tactic| walk_at "rd") => `(tactic| simp only [vZ,jev,jei,jeh,jeo,iEnum,uC,rPop,ja6,rInD,rMax,rEqD,rNeD,jjS,jdz,rIxS,gF,tM1,jcY,jbC,tFv,tFs,tJc,tJn,iStr,rAny,gg,tTru,tDispN,tTupN,tLstN,jc2,gG,gH,jdw,jbB,jdx,jc0,jcZ,tVar,tC,tOp,tUn,rI,rI0,rU,rEq,rNe,tTest,tChain,tIf,tAnd,tOr,tNot,tAndV,tOrV,tNotV,tB,tSeq,tNext,tDrop,tRet,jdo,tIfS,tAsg,gName,gSub,gTup,gCons,gNil,jc1,rIxL,rIxT,tCB,tCallC,sDPut,tDGet,jdr,vX,tKGet,yY,jdn,jdy,tKIdx,jab,jdq,jaa,tDIn,vY,tAug,ipI,jdR,jaq,tCE,tCEs,tCL,tRevT,tDUpd,v8,jdv,iZipT,iEnumT,jad,jac,cx_P,cx_w,jd7,jd6,tSl,tPart,tNoPart,rSlT,rIn,rCat,rRep,tBM,tBM0,vL,jag,jaf,tFld,sFld,v7,rSub,rAdd,jdp,g9,tPar,tCons,tNil,tTup,tLst,L2.start,tYes,wipe,cx_K,jd8,
 List.map_cons,List.map_nil,List.length_cons,List.length_nil,List.cons_append,List.nil_append,Nat.zero_add,Nat.reduceAdd,Nat.reduceSub,List.replicate_succ,List.replicate_zero,List.getElem?_cons_zero,List.getElem?_cons_succ,List.set_cons_zero,List.set_cons_succ,
 Option.some.injEq,exists_eq_left',exists_eq_left,exists_and_left,V.int.injEq,V.ref.injEq,V.bl.injEq,V.str.injEq,V.ty.injEq,List.cons.injEq,and_true,true_and,decide_eq_true_eq])
section
variable {P : Program} {w : World} {K : PySem.W.Frag} {mg : Str → Option Value} {base : Heap} {f : Addr} {fd : FuncData}
abbrev j6 : Stmt := top 35
theorem sc_read_rows : FnScope ["text", "lines", "line", "head", "pieces", "place", "words", "tested", "rows", "goes"] ["text"] (defScope j6) := ⟨rfl,rfl,rfl,by decide +kernel,rfl,by decide +kernel,by decide +kernel⟩
theorem jfb : (defScope j6).names.lookup ("text" : Str) = some .local := by decide +kernel
theorem gm : (defScope j6).names.lookup ("lines" : Str) = some .local := by decide +kernel
theorem vS : (defScope j6).names.lookup ("head" : Str) = some .local := by decide +kernel
theorem gk : (defScope j6).names.lookup ("pieces" : Str) = some .local := by decide +kernel
theorem gj : (defScope j6).names.lookup ("place" : Str) = some .local := by decide +kernel
theorem jbI : (defScope j6).names.lookup ("words" : Str) = some .local := by decide +kernel
theorem gi : (defScope j6).names.lookup ("tested" : Str) = some .local := by decide +kernel
theorem jbm : (defScope j6).names.lookup ("head_of" : Str) = some .globalImplicit := by decide +kernel
theorem jat : (defScope j6).names.lookup ("enumerate" : Str) = some .globalImplicit := by decide +kernel
theorem uZ : (defScope j6).names.lookup ("check_tested" : Str) = some .globalImplicit := by decide +kernel
theorem jco : (defScope j6).names.lookup ("tuple" : Str) = some .globalImplicit := by decide +kernel
theorem jaX : (defScope j6).names.lookup ("add_line" : Str) = some .globalImplicit := by decide +kernel
def WAt (H : Hp) (ws : List Str) (v : V) : Prop := ∃ a,v = .ref a ∧ H a = some (.lst (ws.map V.str))
theorem WAt.same {H H' : Hp} {ws : List Str} {v : V} (h : WAt H ws v) (S : Same H H') : WAt H' ws v := let ⟨a,e,z⟩ := h;⟨a,e,S _ _ z⟩
theorem BAt.all {K : PySem.W.Frag} {H0 H2 : Hp} {pl : Addr} {B : PB} (h : BAt K H0 H2 pl B) : ∃ pvs,H2 pl = some (.lst pvs) ∧ AllAt (PcAt K H2) B pvs := by
 rcases h.h with ⟨rfl,e⟩ | ⟨B',rs,gs,pvs,p,rl,gl,rvs,gvs,rfl,e,L⟩
 ·exact ⟨[],e,rfl⟩
 ·exact ⟨_,e,(L.bs.imp fun _ _ z => z.same jfI).app (AllAt.one ⟨p,rl,gl,rvs,gvs,rfl,L.hp,L.hr,L.hg,L.ar,L.ag⟩)⟩
def spRd (K : PySem.W.Frag) : Sp := fun vs H Q _ => ∃ (ins nm : Nat) (ps : List Piece),vs = [.str (jcV ins nm ps)] ∧ ins ≤ 3 ∧ ins ≤ nm ∧ nm ≤ 99 ∧ PsOk ps ∧ (toks ps).length ≤ 10000 ∧ ∀ v H',Same H H' → TestedAt K H' ins nm ps v → Q v H'
theorem jmD (F : Fun K "read_rows" "read_rows" j6 f fd) (T : TT mg) (c_head_of : Cal P w K mg base CX0 "head_of" 4 ["words"] spHd) (c_add_line : Cal P w K mg base CX0 "add_line" 5 ["words", "place", "pieces"] (spAl K)) (c_check_tested : Cal P w K mg base CX0 "check_tested" 7 ["tested"] (spCT K)) : FnOk P w K mg base CX0 8 f fd ["text"] (spRd K) := by
 refine F.ok sc_read_rows (fun vs H Q E h => ?_) (fun cdv A outer s H vs Q E hr h => ?_)
 ·obtain ⟨ins,nm,ps,rfl,_⟩ := h
  rfl
 obtain ⟨ins,nm,ps,rfl,i3,n0,n9,po,tl,q⟩ := h
 have hu := jkh hr
 refine ⟨_,(QSs.h (je (js (uN (i := 1) (own := [("line",2)]) (g := (gName 2)) rfl sc_read_rows.nd rfl gm (jds rfl rfl rfl (by decide +kernel)) (jbE (jeD (jb (i := 0) rfl (Or.inl jfb) jks jkv) ju (by rfl) (by rfl) (by rfl))) (yC (own := [("line",2)]) (N := ["text", "lines", "line", "head", "pieces", "place", "words", "tested", "rows", "goes"]) (sc := defScope j6) (by decide +kernel)) (fun _ _ _ _ _ => (jp (i := 2) sc_read_rows.nd rfl (Or.inl rfl) (by first | exact .inl rfl | exact .inr rfl | assumption))) (fun _ _ _ _ _ => zP) (fun _ _ _ _ _ => (jeD (q_pv 2 (by rfl) (by first | exact Or.inl rfl | exact Or.inr (Or.inl rfl) | exact Or.inr (Or.inr rfl)) (by decide) (by decide)) ju (by rfl) (by rfl) (by rfl)))))
 (je (js (jV (i := 3) sc_read_rows.nd rfl (Or.inl vS) (jg c_head_of hr (by omega) j5 (ja (jC ix_list (jb (i := 1) rfl (Or.inl gm) jb1 jb6) jd (fun _ _ => rfl)) jc (by rfl)) jbm jhh (by rfl)) (by rfl) (by first | exact .inl rfl | exact .inr rfl | assumption)))
 (je (js (jF (jv jcF (jb (i := 3) rfl (Or.inl vS) jfA jfG) zD (jP _))
 (jf yT)
 jw))
 (je (js (jV (i := 4) sc_read_rows.nd rfl (Or.inl gk) (zc jc) (by rfl) (by first | exact .inl rfl | exact .inr rfl | assumption)))
 (je (js (yi PassesOwn.never rfl (jig jat T.enumerate (ja (jb (i := 1) rfl (Or.inl gm) jb1 jb6) jc (by rfl)) (by rfl)) (zL (by rfl) (jD (jp (i := 5) sc_read_rows.nd rfl (Or.inl gj) (by first | exact .inl rfl | exact .inr rfl | assumption)) (jD (jp (i := 6) sc_read_rows.nd rfl (Or.inl jbI) (by first | exact .inl rfl | exact .inr rfl | assumption)) zx)) (by rfl) (by rfl))
 (jf (jF (jv jf0 (jb (i := 5) rfl (Or.inl gj) ui ul) jd (jP _))
 (jf (zQ (jg c_add_line hr (by omega) j5 (ja (jb (i := 6) rfl (Or.inl jbI) zk zl) (ja (jb (i := 5) rfl (Or.inl gj) ui ul) (ja (jb (i := 4) rfl (Or.inl gk) zn zo) jc (by rfl)) (by rfl)) (by rfl)) jaX jgt (by rfl)) (by rfl)))
 jw))))
 (je (js (jV (i := 7) sc_read_rows.nd rfl (Or.inl gi) (jW (ja (jC ix_tup (jb (i := 3) rfl (Or.inl vS) jfA jfG) jd (fun _ _ => rfl)) (ja (jC ix_tup (jb (i := 3) rfl (Or.inl vS) jfA jfG) jd (fun _ _ => rfl)) (ja (jX uo jco T.tuple zN (ja (jak (own := [("rows",8),("goes",9)]) (g := (gTup K 2 (gCons (gName 8) (gCons (gName 9) gNil)))) rfl sc_read_rows.nd (jbE (jb (i := 4) rfl (Or.inl gk) zn zo)) (yC (own := [("rows",8),("goes",9)]) (N := ["text", "lines", "line", "head", "pieces", "place", "words", "tested", "rows", "goes"]) (sc := defScope j6) (by decide +kernel)) (fun _ _ _ _ _ => (zL (by rfl) (jD (jp (i := 8) sc_read_rows.nd rfl (Or.inl rfl) (by first | exact .inl rfl | exact .inr rfl | assumption)) (jD (jp (i := 9) sc_read_rows.nd rfl (Or.inl rfl) (by first | exact .inl rfl | exact .inr rfl | assumption)) zx)) (by rfl) (by rfl))) (fun _ _ _ _ _ => zP) (fun _ _ _ _ _ => (jW (ja (jX (show CallR _ _ (jbB K) from uo) rfl T.tuple zN (ja (q_pv 8 (by rfl) (by first | exact Or.inl rfl | exact Or.inr (Or.inl rfl) | exact Or.inr (Or.inr rfl)) (by decide) (by decide)) jc (by rfl)) zM zy (by rfl)) (ja (jX (show CallR _ _ (jbB K) from uo) rfl T.tuple zN (ja (q_pv 9 (by rfl) (by first | exact Or.inl rfl | exact Or.inr (Or.inl rfl) | exact Or.inr (Or.inr rfl)) (by decide) (by decide)) jc (by rfl)) zM zy (by rfl)) jc (by rfl)) (by rfl))))) jc (by rfl)) zM zy (by rfl)) jc (by rfl)) (by rfl)) (by rfl))) (by rfl) (by first | exact .inl rfl | exact .inr rfl | assumption)))
 (je (js (zQ (jg c_check_tested hr (by omega) j5 (ja (jb (i := 7) rfl (Or.inl gi) yA yB) jc (by rfl)) uZ gY (by rfl)) (by rfl)))
 (jf (jm (jb (i := 7) rfl (Or.inl gi) yA yB))))))))))),?_⟩
 have sz : (10000000 : Nat) < sizeLine := by rw [sizeLine_eq];decide
 have tok := jeT po
 have hi : ins < 100 := by omega
 have hn : nm < 100 := by omega
 refine zf fun R hR => ?_
 have lok := jdi hi hn tok
 have lns : (zG ins nm ps).length ≤ 10001 := by simp only [zG,List.length_cons,List.length_map];omega
 have txl := jjR hi hn tok tl
 walk_at "rd"
 refine ⟨_,rfl,⟨_,rfl⟩,_,_,rfl,rfl,by decide +kernel,by omega,fun p2 H2 f2 S2 e2 => ?_⟩
 rw [jib hi hn tok] at e2
 refine ⟨p2,rfl,⟨_,SqL.of e2⟩,fun D hD => ?_⟩
 refine jg8 (K := K) (a := p2) (xs := ((zG ins nm ps).map (Txt.join " ")).map V.str) (fun i H4 => Same H2 H4 ∧ ∃ vs,H4 D = some (.lst vs) ∧ AllAt (WAt (Hms [D] H4)) ((zG ins nm ps).take i) vs) ⟨jbg hD,[],jj,rfl⟩ (fun i H4 _ h => SqL.of (h.1 _ _ e2)) ?_ ?_
 ·rintro i x H4 hx ⟨S4,vs,d4,ab⟩
  rw [List.getElem?_map,List.getElem?_map] at hx
  cases ew : (zG ins nm ps)[i]? with
  | none => rw [ew] at hx;cases hx
  | some ws =>
   rw [ew] at hx
   cases hx
   have wm := List.mem_of_getElem? ew
   have vl := ab.len
   rw [List.length_take] at vl
   obtain ⟨w1,w2,w3⟩ := lok ws wm
   have ll := jfj hi hn tok wm
   walk_at "rd"
   refine iteP trivial ⟨⟨_,rfl⟩,by decide +kernel,by omega,fun p5 H5 f5 S5 e5 => ⟨vs,S5 _ _ d4,by omega,fun y o hy => ?_,vs ++ [.ref p5],jj,?_⟩⟩
   ·rw [jB (jt hy hD)];exact S5 _ _ (S4 _ _ hy)
   ·have n1 : p5 ≠ D := fun z => by rw [z,d4] at f5;cases f5
    rw [jic (fun z => by rw [z] at w2;exact absurd w2 (by decide)) w1] at e5
    rw [jhq (by simp),List.take_add_one,ew]
    refine (ab.imp fun _ _ g => g.same (jh7 S5)).app (AllAt.one ⟨p5,rfl,?_⟩)
    rw [jjL (fun z => n1 (List.mem_singleton.mp z))]
    exact e5
 rintro H4 ⟨S4,vs,d4,ab⟩
 rw [List.length_map,List.length_map,List.take_length] at ab
 refine hR _ _ ?_
 clear hR R
 dsimp only [List.set_cons_succ,List.set_cons_zero]
 replace ab : AllAt (WAt H4) (zG ins nm ps) vs := ab.imp fun _ _ g => g.same jfI
 have S04 : Same H H4 := S2.trans S4
 clear S4 S2 e2 f2 hD
 have vl := ab.len
 obtain ⟨v0,ev0,ha0,rfl,hh0⟩ := ab.of (show (zG ins nm ps)[0]? = some [("tested" : Str),numT ins,numT nm] from rfl)
 refine zf fun R hR => ?_
 walk_at "rd"
 refine ⟨_,SqL.of d4,_,jhm (j := 0) ev0,ha0,ins,nm,rfl,hh0,hi,hn,fun hd H5 S5 e5 => hR _ _ ?_⟩
 clear hR R
 refine zf fun R hR => ?_
 walk_at "rd"
 refine iteN (by intro z;cases z) (hR _ _ ?_)
 clear hR R
 refine zf fun R hR => ?_
 walk_at "rd"
 refine ⟨by omega,fun pl H6 f6 S6 e6 => hR _ _ ?_⟩
 clear hR R
 have hd6 := S6 _ _ e5
 have d6 := S6 _ _ (S5 _ _ d4)
 have ab6 : AllAt (WAt H5) (zG ins nm ps) vs := ab.imp fun _ _ g => g.same S5
 have S05 := S04.trans S5
 have d5 := S5 _ _ d4
 clear ab hh0 S04 d4
 refine ut (fun σ H7 => ∃ x5 x6,σ = [some (.str (jcV ins nm ps)),some (.ref D),none,some (.ref hd),some (.ref pl),x5,x6,none,none,none] ∧ BAt K H5 H7 pl (ps.map fun p => (p.rows,p.goes))) ?_ ?_
 ·have S56 : Same H5 H6 := S6
  refine ⟨_,rfl,D,vs,rfl,SqL.of d6,jjp (K := K) (a := D) (xs := vs) (fun i σ H7 => ∃ x5 x6 B,σ = [some (.str (jcV ins nm ps)),some (.ref D),none,some (.ref hd),some (.ref pl),x5,x6,none,none,none] ∧ BAt K H5 H7 pl B ∧ (i = 0 → B = []) ∧ runB B ((toks ps).drop (i - 1)) = some (ps.map fun p => (p.rows,p.goes))) ⟨_,_,[],rfl,⟨S6,f6,.inl ⟨rfl,e6⟩⟩,fun _ => rfl,by rw [Nat.zero_sub,List.drop_zero,jhC];rfl⟩ (fun i σ H7 _ ⟨_,_,_,_,h,_⟩ => SqL.of (h.S _ _ d5)) ?_ ?_⟩
  ·rintro i x σ H7 T' hx ⟨x5,x6,B,rfl,hB,b0,rn⟩ hT
   obtain ⟨ws,ew,wa,rfl,hwa⟩ := ab6.get hx
   have S8 := zi (o := .tup [.int (i : Nat),.ref wa]) hT
   have t8 : (upd H7 T' (.tup [.int (i : Nat),.ref wa])) T' = some (.tup [.int (i : Nat),.ref wa]) := jj
   revert S8 t8
   generalize upd H7 T' (.tup [.int (i : Nat),.ref wa]) = H8
   intro S8 t8
   have hB8 := hB.same S8
   refine ⟨T',_,rfl,SqT.of t8,rfl,_,_,rfl,_,_,rfl,rfl,?_⟩
   walk_at "rd"
   cases i with
   | zero => exact iteN (by decide) ⟨_,_,⟨rfl,rfl⟩,B,hB8,(fun h => absurd h (by decide)),rn⟩
   | succ k =>
    have ew : ((toks ps).map yQ)[k]? = some ws := ew
    rw [List.getElem?_map] at ew
    cases et : (toks ps)[k]? with
    | none => rw [et] at ew;cases ew
    | some t =>
     rw [et] at ew
     cases ew
     have kl := (List.getElem?_eq_some_iff.mp et).1
     have dr : (toks ps).drop k = t :: (toks ps).drop (k + 1) := by rw [List.drop_eq_getElem_cons kl];congr 1;exact (List.getElem?_eq_some_iff.mp et).2
     rw [Nat.add_sub_cancel,dr] at rn
     obtain ⟨m1,m2⟩ := jhE rn
     rw [List.length_map] at m1
     cases es : jaW B t with
     | none => rw [runB,es] at rn;cases rn
     | some B2 =>
      rw [runB,es] at rn
      have p9 := po.p9
      refine iteP (by omega) ⟨wa,pl,_,H5,B,B2,t,rfl,by rw [jhP];exact hwa,tok t (List.mem_of_getElem? et),hB8,es,by omega,fun b hb => ?_,fun H9 h9 => ⟨_,_,⟨rfl,rfl⟩,B2,h9,(fun h => absurd h (by omega)),rn⟩⟩
      obtain ⟨f,hf,a1,a2⟩ := m2 b hb
      obtain ⟨p,hp,rfl⟩ := List.mem_map.mp hf
      have := po.ok p hp
      have r1 := this.rl
      have g1 := this.g8
      simp only at a1 a2
      exact ⟨by omega,by omega⟩
  ·rintro σ H7 ⟨x5,x6,B,rfl,hB,_,rn⟩
   have vl2 : vs.length = (toks ps).length + 1 := by rw [vl];simp [zG]
   rw [vl2,Nat.add_sub_cancel,List.drop_length] at rn
   cases rn
   exact ⟨_,_,rfl,hB⟩
 clear ab6 d6 e6 f6 S6 hd6 H6
 rintro σ H7 ⟨x5,x6,rfl,hB⟩
 obtain ⟨pvs,hpl,apc⟩ := hB.all
 have hd7 := hB.S _ _ e5
 have S57 := hB.S
 refine zf fun R hR => ?_
 walk_at "rd"
 have p9 := po.p9
 have pvl := apc.len
 rw [List.length_map] at pvl
 refine ⟨_,SqT.of hd7,_,at0,_,SqT.of hd7,_,at1,?_⟩
 refine ⟨_,rfl,pl,rfl,⟨_,SqL.of hpl⟩,fun D2 hD2 => ?_⟩
 refine jg8 (K := K) (a := pl) (xs := pvs) (fun i H9 => Same H7 H9 ∧ ∃ ws,H9 D2 = some (.lst ws) ∧ AllAt (PieceAt K H9) (ps.take i) ws) ⟨jbg hD2,[],jj,rfl⟩ (fun i H9 _ h => SqL.of (h.1 _ _ hpl)) ?_ ?_
 ·rintro i x H9 hx ⟨S9,ws,d9,aw⟩
  obtain ⟨pc,epc,p,rl,gl,rvs,gvs,rfl,g1,g2,g3,g4,g5⟩ := apc.get hx
  rw [List.getElem?_map] at epc
  cases ep : ps[i]? with
  | none => rw [ep] at epc;cases epc
  | some pp =>
   rw [ep] at epc
   cases epc
   have wl := aw.len
   rw [List.length_take] at wl
   refine ⟨p,_,rfl,SqT.of (S9 _ _ g1),rfl,_,_,rfl,_,_,rfl,rfl,rfl,?_⟩
   walk_at "rd"
   refine iteP trivial ⟨_,SqL.of (S9 _ _ g2),fun l1 H10 f10 S10 e10 => ⟨_,SqL.of (S10 _ _ (S9 _ _ g3)),fun l2 H11 f11 S11 e11 => ⟨by omega,fun p12 H12 f12 S12 e12 => ⟨ws,S12 _ _ (S11 _ _ (S10 _ _ d9)),by omega,fun y o hy => ?_,ws ++ [.ref p12],jj,?_⟩⟩⟩⟩
   ·rw [jB (jt hy hD2)];exact S12 _ _ (S11 _ _ (S10 _ _ (S9 _ _ hy)))
   ·have d12 := S12 _ _ (S11 _ _ (S10 _ _ d9))
    have S712 := S9.trans (S10.trans (S11.trans S12))
    have tk : TupKeep H12 (upd H12 D2 (.lst (ws ++ [.ref p12]))) := jbA d12
    have tk9 : TupKeep H9 (upd H12 D2 (.lst (ws ++ [.ref p12]))) := (TupKeep.same (S10.trans (S11.trans S12))).trans tk
    have tk7 : TupKeep H7 (upd H12 D2 (.lst (ws ++ [.ref p12]))) := (TupKeep.same S712).trans tk
    rw [List.take_add_one,ep]
    exact (aw.imp fun _ _ z => z.mono tk9).app (AllAt.one ⟨p12,l1,l2,rvs,gvs,rfl,.inl (tk _ _ e12),.inl (tk _ _ (S12 _ _ (S11 _ _ e10))),g4.imp fun _ _ z => z.mono tk7,.inl (tk _ _ (S12 _ _ e11)),g5.imp fun _ _ z => z.mono tk7⟩)
 rintro H9 ⟨S9,ws,d9,aw⟩
 rw [pvl,List.take_length] at aw
 refine ⟨D2,rfl,_,SqL.of d9,fun l H10 f10 S10 e10 => ⟨by omega,fun p11 H11 f11 S11 e11 => hR _ _ ?_⟩⟩
 clear hR R
 have ta : TestedAt K H11 ins nm ps (.ref p11) := ⟨p11,l,ws,rfl,.inl e11,.inl (S11 _ _ e10),aw.imp fun _ _ z => z.mono (TupKeep.same (S10.trans S11))⟩
 have S11' : Same H H11 := S05.trans (S57.trans (S9.trans (S10.trans S11)))
 refine zf fun R hR => ?_
 walk_at "rd"
 refine ⟨ins,nm,ps,_,rfl,ta,⟨by omega,by omega⟩,⟨by omega,by omega⟩,po,fun H12 S12 => hR _ _ ?_⟩
 clear hR R
 walk_at "rd"
 exact q _ H12 (S11'.trans S12) (ta.mono (TupKeep.same S12))
end
end K3
end
section
namespace HT
open PySem in
theorem noFill_tuple_mul : fillsNumberSlot (.type "tuple") "mul" = pure false := fillsNumberSlot_seq F.slot_tuple_mul.lookup (by rfl) F.slot_tuple_rmul.lookup (by rfl)
open PySem in
theorem repeat_tuple : seqRepeat? (.type "tuple") = pure (some (.builtin "tuple.__mul__")) := by
 unfold seqRepeat?
 rw [show seqSlot? (.type "tuple") (Str.ofString "__mul__") = _ from seqSlot_of F.slot_tuple_mul.lookup (by rfl),show seqSlot? (.type "tuple") (Str.ofString "__rmul__") = _ from seqSlot_of F.slot_tuple_rmul.lookup (by rfl)]
 rfl
open PySem PyProof.Rows
open PySem.SeqAt
open PySem.AutoSeq1 (wpAny_loadPart')
open PySem.MeetsSeq PySem.MeetsSeq2 PySem.MeetsSeq3
theorem int_rmul_tuple (a : Int) (t : Tok) (l : Addr) (dd : Option Addr) (items : Array Value) (n : Nat) (sl : Array (Option Value)) : Meets (Builtin.«int.__rmul__» ⟨[.int a t,.ref l],[]⟩)
  (fun _ R s => s.heap.get? l = some { cls := .type "tuple",dict := dd,data := .seq items n,slots := sl } ∧ R (.ok (.ret .notImplemented)) s) :=
 .of_wp fun prog w A R s h => by
  obtain ⟨hp,g,d,tk,os⟩ := s;obtain ⟨hl,h⟩ := h
  wp_walk using wpAny_loadPart' hl
  exact ⟨_,rfl,h⟩
theorem tuple_mul (l : Addr) (dd : Option Addr) (items : Array Value) (n : Nat) (sl : Array (Option Value)) (x : Int) (u : Tok) (h2 : items.size * x.toNat ≤ 1000000) (hx : 2 ≤ x) (hx2 : x ≤ 1000000) (hn : 1 ≤ items.size) : Meets (Builtin.«tuple.__mul__» ⟨[.ref l,.int x u],[]⟩)
  (fun _ R s => s.heap.get? l = some { cls := .type "tuple",dict := dd,data := .seq items n,slots := sl } ∧ R (.ok (.ret (.ref s.heap.objs.size))) { s with heap := s.heap.push { cls := .type "tuple",data := .seq (List.foldl (fun x1 x2 => x1 ++ x2) #[] (List.replicate x.toNat items)) } }) :=
 .of_wp fun prog w A R s h => by
  obtain ⟨hp,g,d,tk,os⟩ := s;obtain ⟨hl,h⟩ := h
  have ne : items.isEmpty = false := by
   cases e : items.isEmpty with
   | false => rfl
   | true => rw [Array.isEmpty_iff] at e;subst e;exact absurd hn (by decide)
  have m : (items.size : Int) * x = ((items.size * x.toNat : Nat) : Int) := by
   rw [Int.natCast_mul,Int.toNat_of_nonneg (by omega)]
  have sl6 : sizeLine = 16777216 := sizeLine_eq
  wp_walk using wpAny_loadPart' hl
  refine wpAny_ite_false (by rw [decide_eq_false (show ¬ x < -2 ^ 63 by omega),decide_eq_false (show ¬ x ≥ 2 ^ 63 by omega)];rfl) ?_
  wp_walk using wpAny_loadPart' hl
  refine wpAny_ite_false (by rw [ne,show (x == 1) = false by simp;omega];rfl) ?_
  wp_walk using wpAny_loadPart' hl
  refine wpAny_ite_false (by rw [ne,decide_eq_false (show ¬ x ≤ 0 by omega)];rfl) ?_
  wp_walk using wpAny_loadPart' hl
  refine wpAny_ite_false (by rw [m];revert h2;generalize items.size * x.toNat = N;intro h2;exact decide_eq_false (by omega)) ?_
  wp_walk using wpAny_loadPart' hl
  refine wpAny_ite_false (by unfold Builtin.Tuple.tupleTooMany;rw [m,sl6];revert h2;generalize items.size * x.toNat = N;intro h2;rw [decide_eq_false (show ¬ ((N : Nat) : Int) > ((16777216 : Nat) : Int) by omega)];rfl) ?_
  wp_walk using wpAny_loadPart' hl
  have f0 : List.foldl (fun x1 x2 => x1 ++ x2) #[] (List.replicate x.toNat items) = (List.replicate x.toNat items.toList).flatten.toArray := by
   have := L2.foldl_rep items.toList x.toNat []
   rw [List.nil_append] at this
   exact this
  have sz : (List.foldl (fun x1 x2 => x1 ++ x2) #[] (List.replicate x.toNat items)).size ≤ 1000000 := by
   rw [f0,List.size_toArray,L2.len_rep,Array.length_toList,Nat.mul_comm];exact h2
  refine wpAny_ite_false (by rw [decide_eq_false (by omega)]) ?_
  wp_walk using wpAny_loadPart' hl
  exact ⟨_,rfl,h⟩
end HT
namespace L2
open PySem PySem.Spec PyProof.Rows
section
variable {X : Cx}
def jkV (K : PySem.W.Frag) : R2 := fun x y H Q => ∃ a k xs,x = .ref a ∧ y = .int k ∧ SqT K H a xs ∧ 2 ≤ k ∧ k ≤ 1000000 ∧ 1 ≤ xs.length ∧ xs.length * k.toNat ≤ 1000000 ∧ ∀ p H',H p = none → Same H H' → H' p = some (.tup (List.replicate k.toNat xs).flatten) → Q (.ref p) H'
theorem jk5 : OpR X (binaryOp .Mult) (jkV X.K) := by
 intro pins s σ H x y v u Q I rx ry h
 obtain ⟨a,k,xs,rfl,rfl,ha,h1,h2,h3,h4,q⟩ := h
 cases rx
 obtain ⟨t,rfl⟩ := ry
 obtain ⟨its,r,p1,_⟩ := I.tuple ha
 obtain ⟨⟨cls,dd,data,sl⟩,ho,hc,n,hd⟩ := id p1
 simp only at hc hd
 subst hc hd
 have hlen : its.toArray.size = xs.length := by rw [List.size_toArray];exact r.length.symm
 refine wpAny_binaryOp_repeat_ref (T := "tuple") (U := "int") (by decide) ⟨_,ho,rfl⟩ (fun s' => typeIs_int s' k t) HT.noFill_tuple_mul F.fills_int_mul F.slot_int_rmul HT.repeat_tuple F.slot_int_index.lookup
  (call_meets F.slot_int_rmul (typeIs_int s k t) F.entry_int_rmul (F.args_int_rmul_2 _ _) (HT.int_rmul_tuple k t a dd its.toArray n sl)
   ⟨ho,rfl,⟨_,ho,rfl⟩,call_meets F.slot_tuple_mul ⟨_,ho,rfl⟩ F.entry_tuple_mul (F.args_tuple_mul_2 _ _) (HT.tuple_mul a dd its.toArray n sl k t (by rw [hlen];exact h4) h1 h2 (by rw [hlen];exact h3)) ⟨ho,?_⟩⟩)
 have f0 : List.foldl (fun x1 x2 => x1 ++ x2) #[] (List.replicate k.toNat its.toArray) = (List.replicate k.toNat its).flatten.toArray := by
  have := foldl_rep its k.toNat []
  rw [List.nil_append] at this
  exact this
 rw [f0]
 have hp : H s.heap.objs.size = none := I.hok.fresh (Nat.le_refl _)
 refine ⟨.ref s.heap.objs.size,_,I.laid (t' := s.toks) (o := .tup (List.replicate k.toNat xs).flatten) (fun b ob q => Heap.get?_push_of_some _ q) (Nat.le_refl _) ?_,rfl,q _ _ hp (zi hp) jj⟩
 refine ⟨?_,_,r.rep k.toNat,IsTup.new _ _⟩
 rw [len_rep,sizeLine_eq,Nat.mul_comm]
 omega
def jgT : List V → Hp → VK → Prop := fun xs H Q => (∃ i : Int,xs = [.int i] ∧ i.natAbs.log2 < 1920 ∧ Q (.str (toString i)) H) ∨ ∃ z : Str,xs = [.str z] ∧ Q (.str z) H
theorem jgC : CallR X (.type "str") jgT := by
 intro pins s σ H xs us Q I r h
 rcases h with ⟨i,rfl,hz,q⟩ | ⟨z,rfl,q⟩
 ·exact vJ pins s σ H _ us Q I r ⟨i,rfl,hz,q⟩
 ·obtain ⟨u,rfl,t,rfl⟩ := jgO r
  exact PySem.P.str_of_str ⟨.str _,H,I,⟨_,rfl⟩,q⟩
end
end L2
end
section
namespace K3
open PySem L2
local macro_rules | `(tactic| walk_at "rd") => `(tactic| simp only [vZ,jev,jei,jeh,jeo,iEnum,uC,rPop,ja6,rInD,rMax,rEqD,rNeD,jjS,jdz,rIxS,gF,tM1,jcY,jbC,tFv,tFs,tJc,tJn,iStr,rAny,gg,tTru,jgT,tDispN,tTupN,tLstN,jc2,gG,gH,jdw,jbB,jdx,jc0,jcZ,tVar,tC,tOp,tUn,rI,rI0,rU,rEq,rNe,tTest,tChain,tIf,tAnd,tOr,tNot,tAndV,tOrV,tNotV,tB,tSeq,tNext,tDrop,tRet,jdo,tIfS,tAsg,gName,gSub,gTup,gCons,gNil,jc1,rIxL,rIxT,tCB,tCallC,sDPut,tDGet,jdr,vX,tKGet,yY,jdn,jdy,tKIdx,jab,jdq,jaa,tDIn,vY,tAug,ipI,jdR,jaq,tCE,tCEs,tCL,tRevT,tDUpd,v8,jdv,iZipT,iEnumT,jad,jac,cx_P,cx_w,jd7,jd6,tSl,tPart,tNoPart,rSlT,rIn,rCat,rRep,tBM,tBM0,vL,jag,jaf,tFld,sFld,v7,rSub,rAdd,jdp,g9,tPar,tCons,tNil,tTup,tLst,L2.start,tYes,wipe,cx_K,jd8,
 List.map_cons,List.map_nil,List.length_cons,List.length_nil,List.cons_append,List.nil_append,Nat.zero_add,Nat.reduceAdd,Nat.reduceSub,List.replicate_succ,List.replicate_zero,List.getElem?_cons_zero,List.getElem?_cons_succ,List.set_cons_zero,List.set_cons_succ,
 Option.some.injEq,exists_eq_left',exists_eq_left,exists_and_left,V.int.injEq,V.ref.injEq,V.bl.injEq,V.str.injEq,V.ty.injEq,List.cons.injEq,and_true,true_and,decide_eq_true_eq])
section
variable {P : Program} {w : World} {K : PySem.W.Frag} {mg : Str → Option Value} {base : Heap} {f : Addr} {fd : FuncData}
abbrev vB : Stmt := top 34
theorem je1 : FnScope ["test", "piece"] ["test", "piece"] (defScope vB) := ⟨rfl,rfl,rfl,by decide +kernel,rfl,by decide +kernel,by decide +kernel⟩
theorem jbc : (defScope vB).names.lookup ("test" : Str) = some .local := by decide +kernel
theorem jbb : (defScope vB).names.lookup ("piece" : Str) = some .local := by decide +kernel
section
open TL
theorem jfO {a b : Str} (h : tl a = tl b) : a = b := by
 have := jck (l := [a]) (m := [b]) (by rw [List.map_cons,List.map_cons,h])
 exact (List.cons.inj this).1
theorem vR (n : Nat) : (Str.ofString (toString ((n : Nat) : Int))) = numT n := rfl
theorem jmc (t : Nat) : ((Str.empty ++ ("go " : Str)) ++ numT t) ++ (" end" : Str) = Txt.join " " [("go" : Str),numT t, "end"] := by
 refine jfO ?_
 rw [join_eq,tl_join]
 simp only [tl_append,List.map_cons,List.map_nil,joinL,List.append_assoc]
 rw [show tl Str.empty = [] by rfl,show tl ("go " : Str) = tl ("go" : Str) ++ tl (" " : Str) by decide +kernel,show tl (" end" : Str) = tl (" " : Str) ++ tl ("end" : Str) by decide +kernel]
 simp
theorem jkH (t n : Nat) : (((Str.empty ++ ("go " : Str)) ++ numT t) ++ (" " : Str)) ++ numT n = Txt.join " " [("go" : Str),numT t,numT n] := by
 refine jfO ?_
 rw [join_eq,tl_join]
 simp only [tl_append,List.map_cons,List.map_nil,joinL,List.append_assoc]
 rw [show tl Str.empty = [] by rfl,show tl ("go " : Str) = tl ("go" : Str) ++ tl (" " : Str) by decide +kernel]
 simp
theorem jhU (t n : Nat) : (((Str.empty ++ ("tested " : Str)) ++ numT t) ++ (" " : Str)) ++ numT n = Txt.join " " [("tested" : Str),numT t,numT n] := by
 refine jfO ?_
 rw [join_eq,tl_join]
 simp only [tl_append,List.map_cons,List.map_nil,joinL,List.append_assoc]
 rw [show tl Str.empty = [] by rfl,show tl ("tested " : Str) = tl ("tested" : Str) ++ tl (" " : Str) by decide +kernel]
 simp
end
def spLg : Sp := fun vs H Q _ => ∃ g : Int × Int,vs = [.int g.1,.int g.2] ∧ In2 g.1 ∧ -1 ≤ g.2 ∧ g.2 < 999 ∧ Q (.str (Txt.join " " (yQ (.go g)))) H
theorem yo {i : Int} (h0 : 0 ≤ i) (h1 : i ≤ 100000) : i.natAbs.log2 < 1920 := by
 have : i.natAbs < 2 ^ 1920 := Nat.lt_of_le_of_lt (m := 100000) (by omega) (by decide +kernel)
 by_cases z : i.natAbs = 0
 ·rw [z];decide
 ·exact (Nat.log2_lt z).mpr this
theorem jap {n : Nat} (h : n ≤ 100000) : (numT n).length ≤ 6 := by
 rw [jdh]
 exact TL.numL_len (k := 6) (by decide) (by omega)
theorem yp (a b : Str) : (a ++ b).length = a.length + b.length := by
 have : TL.tl (a ++ b) = TL.tl a ++ TL.tl b := TL.tl_append a b
 have h : (TL.tl (a ++ b)).length = (TL.tl a ++ TL.tl b).length := by rw [this]
 rw [List.length_append] at h
 exact h
theorem jmG (F : Fun K "line_of_go" "line_of_go" vB f fd) (T : TT mg) : FnOk P w K mg base CX0 1 f fd ["test", "piece"] spLg := by
 refine F.ok je1 (fun vs H Q E h => ?_) (fun cdv A outer s H vs Q E hr h => ?_)
 ·obtain ⟨g,rfl,_⟩ := h
  rfl
 obtain ⟨⟨a,b⟩,rfl,h1,h2,h3,q⟩ := h
 refine ⟨_,(QSs.h (je (jF (jv vM (jb (i := 1) rfl (Or.inl jbb) vF vH) (uD ja5 jd) (jP _))
 (jf (jm (jgU (yk ju (yk (jdB (jb (i := 0) rfl (Or.inl jbc) jbY jb4)) (yk ju je2))))))
 jw)
 (jf (jm (jgU (yk ju (yk (jdB (jb (i := 0) rfl (Or.inl jbc) jbY jb4)) (yk ju (yk (jdB (jb (i := 1) rfl (Or.inl jbb) vF vH)) je2))))))))),?_⟩
 have sz : (10000000 : Nat) < sizeLine := by rw [sizeLine_eq];decide
 simp only [In2] at h1
 simp only at h2 h3 q
 obtain ⟨t,rfl⟩ : ∃ t : Nat,a = t := ⟨a.toNat,by omega⟩
 walk_at "rd"
 have lt := jap (n := t) (by omega)
 have e0 : Str.empty.length = 0 := rfl
 have e1 : (Str.ofString "go ").length = 3 := by decide +kernel
 have e2 : (Str.ofString " end").length = 4 := by decide +kernel
 have e3 : (Str.ofString " ").length = 1 := by decide +kernel
 have l1 : (Str.empty ++ Str.ofString "go ").length ≤ sizeLine := by simp only [yp,e0,e1];omega
 have l2 : (Str.empty ++ Str.ofString "go " ++ numT t).length ≤ sizeLine := by simp only [yp,e0,e1];omega
 by_cases c : b = -1
 ·have l3 : (Str.empty ++ Str.ofString "go " ++ numT t ++ Str.ofString " end").length ≤ sizeLine := by simp only [yp,e0,e1,e2];omega
  refine ⟨rfl,iteP c ⟨l1,.inl ⟨yo (by omega) (by omega),l2,l3,l3,?_⟩⟩⟩
  have e := jmc t
  rw [show yQ (.go ((t : Int),b)) = [("go" : Str),numT t, "end"] by simp only [yQ];rw [if_pos c];rfl,← e] at q
  exact q
 ·obtain ⟨n,rfl⟩ : ∃ n : Nat,b = n := ⟨b.toNat,by omega⟩
  have ln := jap (n := n) (by omega)
  have l3 : (Str.empty ++ Str.ofString "go " ++ numT t ++ Str.ofString " ").length ≤ sizeLine := by simp only [yp,e0,e1,e3];omega
  have l4 : (Str.empty ++ Str.ofString "go " ++ numT t ++ Str.ofString " " ++ numT n).length ≤ sizeLine := by simp only [yp,e0,e1,e3];omega
  refine ⟨rfl,iteN c ⟨l1,.inl ⟨yo (by omega) (by omega),l2,l3,.inl ⟨yo (by omega) (by omega),l4,l4,?_⟩⟩⟩⟩
  have e := jkH t n
  rw [show yQ (.go ((t : Int),(n : Int))) = [("go" : Str),numT t,numT n] by simp only [yQ];rw [if_neg c];rfl,← e] at q
  exact q
end
end K3
end
section
namespace K3
open PySem L2
local macro_rules | `(tactic| walk_at "rd") => `(tactic| simp only [vZ,jev,jei,jeh,jeo,iEnum,uC,rPop,ja6,rInD,rMax,rEqD,rNeD,jjS,jdz,rIxS,gF,tM1,jcY,jbC,tFv,tFs,tJc,tJn,iStr,rAny,gg,tTru,jgT,ipL,tDispN,tTupN,tLstN,jc2,gG,gH,jdw,jbB,jdx,jc0,jcZ,tVar,tC,tOp,tUn,rI,rI0,rU,rEq,rNe,tTest,tChain,tIf,tAnd,tOr,tNot,tAndV,tOrV,tNotV,tB,tSeq,tNext,tDrop,tRet,jdo,tIfS,tAsg,gName,gSub,gTup,gCons,gNil,jc1,rIxL,rIxT,tCB,tCallC,sDPut,tDGet,jdr,vX,tKGet,yY,jdn,jdy,tKIdx,jab,jdq,jaa,tDIn,vY,tAug,ipI,jdR,jaq,tCE,tCEs,tCL,tRevT,tDUpd,v8,jdv,iZipT,iEnumT,jad,jac,cx_P,cx_w,jd7,jd6,tSl,tPart,tNoPart,rSlT,rIn,rCat,rRep,tBM,tBM0,vL,jag,jaf,tFld,sFld,v7,rSub,rAdd,jdp,g9,tPar,tCons,tNil,tTup,tLst,L2.start,tYes,wipe,cx_K,jd8,
 List.map_cons,List.map_nil,List.length_cons,List.length_nil,List.cons_append,List.nil_append,Nat.zero_add,Nat.reduceAdd,Nat.reduceSub,List.replicate_succ,List.replicate_zero,List.getElem?_cons_zero,List.getElem?_cons_succ,List.set_cons_zero,List.set_cons_succ,
 Option.some.injEq,exists_eq_left',exists_eq_left,exists_and_left,V.int.injEq,V.ref.injEq,V.bl.injEq,V.str.injEq,V.ty.injEq,List.cons.injEq,and_true,true_and,decide_eq_true_eq])
section
variable {P : Program} {w : World} {K : PySem.W.Frag} {mg : Str → Option Value} {base : Heap} {f : Addr} {fd : FuncData}
abbrev j0 : Stmt := top 33
theorem sc_written_rows : FnScope ["tested", "ins", "names", "pieces", "lines", "rows", "goes", "row", "test", "piece", "told"] ["tested"] (defScope j0) := ⟨rfl,rfl,rfl,by decide +kernel,rfl,by decide +kernel,by decide +kernel⟩
theorem gP : (defScope j0).names.lookup ("tested" : Str) = some .local := by decide +kernel
theorem gN : (defScope j0).names.lookup ("ins" : Str) = some .local := by decide +kernel
theorem gM : (defScope j0).names.lookup ("names" : Str) = some .local := by decide +kernel
theorem gL : (defScope j0).names.lookup ("pieces" : Str) = some .local := by decide +kernel
theorem yc : (defScope j0).names.lookup ("lines" : Str) = some .local := by decide +kernel
theorem gK : (defScope j0).names.lookup ("rows" : Str) = some .local := by decide +kernel
theorem gJ : (defScope j0).names.lookup ("goes" : Str) = some .local := by decide +kernel
theorem ud : (defScope j0).names.lookup ("check_tested" : Str) = some .globalImplicit := by decide +kernel
theorem jfP {α : Type} {f : α → Nat} {k : Nat} : ∀ {l : List α},(∀ z ∈ l,f z ≤ k) → (l.map f).sum ≤ l.length * k
 | [],_ => Nat.zero_le _
 | z :: l,h => by
  have h1 := h z (by simp)
  have h2 := jfP (l := l) fun y hy => h y (List.mem_cons_of_mem _ hy)
  rw [List.map_cons,List.sum_cons,List.length_cons,Nat.succ_mul]
  omega
def vP (t : Ln) : Str := Txt.join " " (yQ t)
theorem jiD {r : Row} (o : r.ok) {m : Nat} {v : V} (h : r.vs[m]? = some v) : ∃ z,(yQ (.row r))[m]? = some z ∧ ((∃ i : Nat,v = .int i ∧ i ≤ 10006 ∧ z = numT i) ∨ v = .str z) := by
 have ti := Row.t_in o
 rw [r.vs_eq] at h
 match m,h with
 | 0,h => cases h;exact ⟨_,rfl,.inl ⟨r.t.toNat,by rw [Int.toNat_of_nonneg ti.1],by have := ti.2;omega,rfl⟩⟩
 | 1,h => cases h;exact ⟨_,rfl,.inr rfl⟩
 | m + 2,h =>
  have h : (r.ns.map V.int)[m]? = some v := h
  rw [List.getElem?_map] at h
  cases e : r.ns[m]? with
  | none => rw [e] at h;cases h
  | some x =>
   rw [e] at h
   cases h
   have nn := Row.ns_nn o x (List.mem_of_getElem? e)
   refine ⟨numT x.toNat,?_,.inl ⟨x.toNat,by rw [Int.toNat_of_nonneg nn.1],by omega,rfl⟩⟩
   show (r.ns.map fun x => numT x.toNat)[m]? = _
   rw [List.getElem?_map,e];rfl
theorem jkA (r : Row) : r.vs.length = (yQ (.row r)).length := by rw [r.vs_eq];simp [yQ]
def spWr (K : PySem.W.Frag) : Sp := fun vs H Q _ => ∃ (ins nm : Nat) (ps : List Piece) (v : V),vs = [v] ∧ TestedAt K H ins nm ps v ∧ ins ≤ 3 ∧ ins ≤ nm ∧ nm ≤ 99 ∧ PsOk ps ∧ (toks ps).length ≤ 10000 ∧ ∀ H',Same H H' → Q (.str (jcV ins nm ps)) H'
def WrI (K : PySem.W.Frag) (H : Hp) (a pa la : Addr) (ins nm : Nat) (ps : List Piece) (i : Nat) (σ : St) (H2 : Hp) : Prop := ∃ x5 x6 x7 x8 x9 x10,σ = [some (.ref a),some (.int ins),some (.int nm),some (.ref pa),some (.ref la),x5,x6,x7,x8,x9,x10] ∧ Same H H2 ∧ H la = none ∧ H2 la = some (.lst (((Txt.join " " [("tested" : Str),numT ins,numT nm]) :: (toks (ps.take i)).map vP).map V.str))
theorem jlR (F : Fun K "written_rows" "written_rows" j0 f fd) (T : TT mg) (c_check_tested : Cal P w K mg base CX0 "check_tested" 7 ["tested"] (spCT K)) (c_line_of_go : Cal P w K mg base CX0 "line_of_go" 1 ["test", "piece"] spLg) : FnOk P w K mg base CX0 8 f fd ["tested"] (spWr K) := by
 refine F.ok sc_written_rows (fun vs H Q E h => ?_) (fun cdv A outer s H vs Q E hr h => ?_)
 ·obtain ⟨ins,nm,ps,v,rfl,_⟩ := h
  rfl
 obtain ⟨ins,nm,ps,v,rfl,ta,i3,n0,n9,po,tl,q⟩ := h
 refine ⟨_,(QSs.h (je (js (zQ (jg c_check_tested hr (by omega) j5 (ja (jb (i := 0) rfl (Or.inl gP) yA yB) jc (by rfl)) ud gY (by rfl)) (by rfl)))
 (je (js (vv (jb (i := 0) rfl (Or.inl gP) yA yB) (zL (by rfl) (jD (jp (i := 1) sc_written_rows.nd rfl (Or.inl gN) (by first | exact .inl rfl | exact .inr rfl | assumption)) (jD (jp (i := 2) sc_written_rows.nd rfl (Or.inl gM) (by first | exact .inl rfl | exact .inr rfl | assumption)) (jD (jp (i := 3) sc_written_rows.nd rfl (Or.inl gL) (by first | exact .inl rfl | exact .inr rfl | assumption)) zx))) (by rfl) (by rfl)) (by rfl) (by rfl) (by rfl)))
 (je (js (jV (i := 4) sc_written_rows.nd rfl (Or.inl yc) (zc (ja (jgU (yk ju (yk (jdB (jb (i := 1) rfl (Or.inl gN) jhg jhk)) (yk ju (yk (jdB (jb (i := 2) rfl (Or.inl gM) jgl jgx)) je2))))) jc (by rfl))) (by rfl) (by first | exact .inl rfl | exact .inr rfl | assumption)))
 (je (js (yi PassesOwn.never rfl (vx (jb (i := 3) rfl (Or.inl gL) zn zo)) (zL (by rfl) (jD (jp (i := 5) sc_written_rows.nd rfl (Or.inl gK) (by first | exact .inl rfl | exact .inr rfl | assumption)) (jD (jp (i := 6) sc_written_rows.nd rfl (Or.inl gJ) (by first | exact .inl rfl | exact .inr rfl | assumption)) zx)) (by rfl) (by rfl))
 (je (js (zQ (jaM PySem.F.plainAttrs_list PySem.F.slot_list_append PySem.F.type_list_append uY (jb (i := 4) rfl (Or.inl yc) jb1 jb6) (ja ju jc (by rfl)) (by rfl) (by rfl) (by rfl) (by decide)) (by rfl)))
 (je (js (jhH (i := 4) sc_written_rows.nd rfl (Or.inl yc) (by exact (jak (own := [("row",7)]) (g := (gName 7)) rfl sc_written_rows.nd (vx (jb (i := 5) rfl (Or.inl gK) jfv jfF)) (yC (own := [("row",7)]) (N := ["tested", "ins", "names", "pieces", "lines", "rows", "goes", "row", "test", "piece", "told"]) (sc := defScope j0) (by decide +kernel)) (fun _ _ _ _ _ => (jp (i := 7) sc_written_rows.nd rfl (by first | exact Or.inl rfl | exact Or.inr rfl) (by first | exact .inl rfl | exact .inr rfl | assumption))) (fun _ _ _ _ _ => zP) (fun _ _ _ _ _ => (show QE _ _ (tM1 (jbC K) _ _) from (jbF ju (jak (own := [("told",10)]) (g := (gName 10)) rfl sc_written_rows.nd (show QI _ _ _ (iTup K _) from (vx (q_pv 7 (by rfl) (by first | exact Or.inl rfl | exact Or.inr (Or.inl rfl) | exact Or.inr (Or.inr rfl)) (by decide) (by decide)))) (yC (own := [("told",10)]) (N := ["tested", "ins", "names", "pieces", "lines", "rows", "goes", "row", "test", "piece", "told"]) (sc := relS _ (defScope j0)) (by decide +kernel)) (fun _ _ _ _ _ => (jp (i := 10) sc_written_rows.nd rfl (by first | exact Or.inl rfl | exact Or.inr rfl) (by first | exact .inl rfl | exact .inr rfl | assumption))) (fun _ _ _ _ _ => zP) (fun _ _ _ _ _ => (jX (show CallR _ _ jgT from jgC) rfl T.str gf (ja (q_pv 10 (by rfl) (by first | exact Or.inl rfl | exact Or.inr (Or.inl rfl) | exact Or.inr (Or.inr rfl)) (by decide) (by decide)) jc (by rfl)) uQ vt (by rfl)))) (by rfl) (by rfl) (by rfl)))))) jkG (by first | exact .inl rfl | exact .inr rfl | assumption)))
 (jf (js (jhH (i := 4) sc_written_rows.nd rfl (Or.inl yc) (by exact (jak (own := [("test",8),("piece",9)]) (g := (gTup K 2 (gCons (gName 8) (gCons (gName 9) gNil)))) rfl sc_written_rows.nd (vx (jb (i := 6) rfl (Or.inl gJ) jaS jaV)) (yC (own := [("test",8),("piece",9)]) (N := ["tested", "ins", "names", "pieces", "lines", "rows", "goes", "row", "test", "piece", "told"]) (sc := defScope j0) (by decide +kernel)) (fun _ _ _ _ _ => (zL (by rfl) (jD (jp (i := 8) sc_written_rows.nd rfl (Or.inl rfl) (by first | exact .inl rfl | exact .inr rfl | assumption)) (jD (jp (i := 9) sc_written_rows.nd rfl (Or.inl rfl) (by first | exact .inl rfl | exact .inr rfl | assumption)) zx)) (by rfl) (by rfl))) (fun _ _ _ _ _ => zP) (fun _ _ _ _ _ => (jg c_line_of_go hr (by omega) j5 (ja (q_pv 8 (by rfl) (by first | exact Or.inl rfl | exact Or.inr (Or.inl rfl) | exact Or.inr (Or.inr rfl)) (by decide) (by decide)) (ja (q_pv 9 (by rfl) (by first | exact Or.inl rfl | exact Or.inr (Or.inl rfl) | exact Or.inr (Or.inr rfl)) (by decide) (by decide)) jc (by rfl)) (by rfl)) rfl jew (by rfl))))) jkG (by first | exact .inl rfl | exact .inr rfl | assumption))))))))
 (jf (jm (jbF ju (jb (i := 4) rfl (Or.inl yc) jb1 jb6) (by rfl) (by rfl) (by rfl))))))))),?_⟩
 have sz : (10000000 : Nat) < sizeLine := by rw [sizeLine_eq];decide
 have tok := jeT po
 refine zf fun R hR => ?_
 walk_at "rd"
 refine ⟨ins,nm,ps,v,rfl,ta,⟨by omega,by omega⟩,⟨by omega,by omega⟩,po,fun H1 S1 => hR _ _ ?_⟩
 clear hR R
 obtain ⟨a,pa,pvs,rfl,h1,h2,h3⟩ := id ta
 refine zf fun R hR => ?_
 walk_at "rd"
 refine ⟨_,(h1.mono (TupKeep.same S1)).sq,rfl,_,_,rfl,_,_,rfl,_,_,rfl,rfl,hR _ _ ?_⟩
 clear hR R
 have e0 : Str.empty.length = 0 := rfl
 have e1 : (Str.ofString "tested ").length = 7 := by decide +kernel
 have e3 : (Str.ofString " ").length = 1 := by decide +kernel
 have li := jap (n := ins) (by omega)
 have ln := jap (n := nm) (by omega)
 have l1 : (Str.empty ++ Str.ofString "tested ").length ≤ sizeLine := by simp only [yp,e0,e1];omega
 have l2 : (Str.empty ++ Str.ofString "tested " ++ numT ins).length ≤ sizeLine := by simp only [yp,e0,e1];omega
 have l3 : (Str.empty ++ Str.ofString "tested " ++ numT ins ++ Str.ofString " ").length ≤ sizeLine := by simp only [yp,e0,e1,e3];omega
 have l4 : (Str.empty ++ Str.ofString "tested " ++ numT ins ++ Str.ofString " " ++ numT nm).length ≤ sizeLine := by simp only [yp,e0,e1,e3];omega
 refine zf fun R hR => ?_
 walk_at "rd"
 refine ⟨l1,.inl ⟨yo (by omega) (by omega),l2,l3,.inl ⟨yo (by omega) (by omega),l4,l4,by omega,fun la H2 f2 S2 e2 => hR _ _ ?_⟩⟩⟩
 clear hR R
 have eh := jhU ins nm
 have e2 : H2 la = some (.lst [.str (Txt.join " " [("tested" : Str),numT ins,numT nm])]) := by rw [← eh];exact e2
 refine ut (fun σ H3 => ∃ x5 x6 x7 x8 x9 x10,σ = [some (.ref a),some (.int ins),some (.int nm),some (.ref pa),some (.ref la),x5,x6,x7,x8,x9,x10] ∧ Same H H3 ∧ H3 la = some (.lst (((zG ins nm ps).map (Txt.join " ")).map V.str))) ?_ ?_
 ·refine ⟨_,rfl,pa,rfl,⟨_,(h2.mono (TupKeep.same (S1.trans S2))).sq⟩,jfu (K := K) (a := pa) (xs := pvs) (WrI K H a pa la ins nm ps) ⟨_,_,_,_,_,_,rfl,S1.trans S2,ji5 S1 f2,e2⟩ (fun i σ H3 _ ⟨_,_,_,_,_,_,_,S,_⟩ => (h2.mono (TupKeep.same S)).sq) ?_ ?_⟩
  ·rintro i x σ H3 hx ⟨x5,x6,x7,x8,x9,x10,rfl,S3,la0,e3⟩
   obtain ⟨p,ep,pc,ra,ga,rvs,gvs,rfl,g1,g2,g3,g4,g5⟩ := h3.get hx
   have pm := List.mem_of_getElem? ep
   have po' := po.ok p pm
   have tk3 := TupKeep.same S3
   refine ⟨pc,_,rfl,(g1.mono tk3).sq,rfl,_,_,rfl,_,_,rfl,rfl,?_⟩
   refine zf fun R hR => ?_
   walk_at "rd"
   have tl0 : (toks (ps.take i)).length ≤ 10000 := by
    have : toks ps = toks (ps.take i) ++ toks (ps.drop i) := by unfold toks;rw [← List.flatMap_append,List.take_append_drop]
    rw [this,List.length_append] at tl
    omega
   have tn : toks (ps.take (i + 1)) = toks (ps.take i) ++ (.pc :: (p.rows.map .row ++ p.goes.map .go)) := by unfold toks;rw [List.take_add_one,ep,List.flatMap_append];simp
   obtain ⟨xs,ex,xl⟩ : ∃ xs : List Str,(Txt.join " " [("tested" : Str),numT ins,numT nm]) :: (toks (ps.take i)).map vP = xs ∧ xs.length ≤ 10001 := ⟨_,rfl,by rw [List.length_cons,List.length_map];omega⟩
   rw [ex] at e3
   refine ⟨.inl ⟨rfl,_,SqL.of e3⟩,_,e3,by rw [List.length_map];omega,hR _ _ ?_⟩
   clear hR R
   have S4 : Same H (upd H3 la (.lst (xs.map V.str ++ [.str "piece"]))) := fun b o hb => by rw [jB (jt hb la0)];exact S3 _ _ hb
   have e4 : (upd H3 la (.lst (xs.map V.str ++ [.str "piece"]))) la = some (.lst ((xs ++ [vP .pc]).map V.str)) := by rw [jj,List.map_append];rfl
   have S4' := S4
   revert S4 e4
   generalize (upd H3 la (.lst (xs.map V.str ++ [.str "piece"]))) = H4
   intro S4 e4
   clear S4' e3 tk3 S3 H3
   refine zf fun R hR => ?_
   walk_at "rd"
   have g3' : Tp K H4 ra rvs := g2.mono (TupKeep.same S4)
   have g4' : AllAt (RowAt K H4) p.rows rvs := g3.imp fun _ _ z => z.mono (TupKeep.same S4)
   have rl := po'.rl
   have rvl := g4'.len
   refine ⟨_,rfl,ra,rfl,⟨_,g3'.sq⟩,fun D hD => ?_⟩
   refine jeM (K := K) (a := ra) (xs := rvs) (fun j H5 => Same H4 H5 ∧ H5 D = some (.lst (((p.rows.take j).map fun r => vP (.row r)).map V.str))) ⟨jbg hD,jj⟩ (fun j H5 _ h => (g3'.mono (TupKeep.same h.1)).sq) ?_ ?_
   ·rintro j x H5 hx ⟨S5,d5⟩
    obtain ⟨r,er,rp,rfl,grp⟩ := g4'.get hx
    have ro := po'.ro r (List.mem_of_getElem? er)
    have jl := (List.getElem?_eq_some_iff.mp er).1
    have grp5 := grp.mono (TupKeep.same S5)
    walk_at "rd"
    have rol : (Ln.row r).ok := ro
    have lw := jeQ rol
    have ln5 := (jdL (.row r)).2
    have vl := jkA r
    refine iteP trivial ⟨⟨_,rfl⟩,?_⟩
    refine ⟨_,rfl,rp,rfl,⟨_,grp5.sq⟩,fun D2 hD2 => ?_⟩
    refine jeM (K := K) (a := rp) (xs := r.vs) (fun m H6 => Same H5 H6 ∧ H6 D2 = some (.lst (((yQ (.row r)).take m).map V.str))) ⟨jbg hD2,jj⟩ (fun m H6 _ h => (grp5.mono (TupKeep.same h.1)).sq) ?_ ?_
    ·rintro m v H6 hv ⟨S6,d6⟩
     obtain ⟨z,ez,hz⟩ := jiD ro hv
     have fin : ∃ acc,H6 D2 = some (HO.lst acc) ∧ acc.length < sizeLine ∧ Same H5 (upd H6 D2 (.lst (acc ++ [V.str z]))) ∧ upd H6 D2 (.lst (acc ++ [V.str z])) D2 = some (.lst (((yQ (.row r)).take (m + 1)).map V.str)) :=
      ⟨_,d6,by rw [List.length_map,List.length_take];omega,fun y o hy => by rw [jB (jt hy hD2)];exact S6 _ _ hy,by rw [jj,List.take_add_one,ez,List.map_append];rfl⟩
     walk_at "rd"
     refine iteP trivial ?_
     rcases hz with ⟨i,rfl,il,rfl⟩ | rfl
     ·exact .inl ⟨i,rfl,yo (by omega) (by omega),fin⟩
     ·exact .inr ⟨z,rfl,fin⟩
    rintro H6 ⟨S6,d6⟩
    rw [vl,List.take_length] at d6
    refine ⟨D2,rfl,yQ (.row r),.inl (SqL.of d6),?_,_,S6 _ _ d5,?_,fun y o hy => ?_,?_⟩
    ·have b := jfP (f := fun z : Str => z.length) (k := 7) (l := yQ (.row r)) fun z hz => (lw z hz).2
     rw [show (Str.ofString " ").length = 1 by decide +kernel]
     have := Nat.mul_le_mul_right 7 ln5
     omega
    ·rw [List.length_map,List.length_map,List.length_take];omega
    ·rw [jB (jt hy hD)];exact S6 _ _ (S5 _ _ hy)
    ·rw [jj,List.take_add_one,er,List.map_append,List.map_append];rfl
   rintro H5 ⟨S5,d5⟩
   rw [rvl,List.take_length] at d5
   have nDl : D ≠ la := fun z => by rw [z,e4] at hD;cases hD
   have e5 := S5 _ _ e4
   refine ⟨D,rfl,_,e5,_,d5,by simp only [List.length_map,List.length_append,List.length_cons,List.length_nil];omega,hR _ _ ?_⟩
   clear hR R
   have S6 : Same H (upd H5 la (.lst ((xs ++ [vP .pc]).map V.str ++ ((p.rows.map fun r => vP (.row r)).map V.str)))) := fun b o hb => by rw [jB (jt hb la0)];exact S5 _ _ (S4 _ _ hb)
   have e6 : (upd H5 la (.lst ((xs ++ [vP .pc]).map V.str ++ ((p.rows.map fun r => vP (.row r)).map V.str)))) la = some (.lst ((xs ++ [vP .pc] ++ p.rows.map fun r => vP (.row r)).map V.str)) := by rw [jj];simp only [List.map_append]
   revert S6 e6
   generalize (upd H5 la (.lst ((xs ++ [vP .pc]).map V.str ++ ((p.rows.map fun r => vP (.row r)).map V.str)))) = H6
   intro S6 e6
   clear d5 S5 e5 hD nDl e4 g3' g4' S4
   have g5' : Tp K H6 ga gvs := g4.mono (TupKeep.same S6)
   have g6' : AllAt (GoAt K H6) p.goes gvs := g5.imp fun _ _ z => z.mono (TupKeep.same S6)
   have gl := po'.g8
   have gvl := g6'.len
   refine jeK fun R hR => ?_
   walk_at "rd"
   refine ⟨_,rfl,ga,rfl,⟨_,g5'.sq⟩,fun D hD => ?_⟩
   refine jeM (K := K) (a := ga) (xs := gvs) (fun j H7 => Same H6 H7 ∧ H7 D = some (.lst (((p.goes.take j).map fun g => vP (.go g)).map V.str))) ⟨jbg hD,jj⟩ (fun j H7 _ h => (g5'.mono (TupKeep.same h.1)).sq) ?_ ?_
   ·rintro j x H7 hx ⟨S7,d7⟩
    obtain ⟨g,eg,gp,rfl,ggp⟩ := g6'.get hx
    have go := po'.go g (List.mem_of_getElem? eg)
    have p9 := po.p9
    have g2' := go.2.2
    refine ⟨gp,_,rfl,(ggp.mono (TupKeep.same S7)).sq,rfl,_,_,rfl,_,_,rfl,rfl,rfl,?_⟩
    walk_at "rd"
    refine iteP trivial ⟨g,rfl,go.1,go.2.1,by omega,_,d7,by rw [List.length_map,List.length_map,List.length_take];omega,fun y o hy => ?_,?_⟩
    ·rw [jB (jt hy hD)];exact S7 _ _ hy
    ·rw [jj,List.take_add_one,eg,List.map_append,List.map_append];rfl
   rintro H7 ⟨S7,d7⟩
   rw [gvl,List.take_length] at d7
   have e7 := S7 _ _ e6
   refine ⟨D,rfl,_,e7,_,d7,by simp only [List.length_map,List.length_append,List.length_cons,List.length_nil];omega,hR _ _ ?_⟩
   clear hR R
   refine ⟨_,_,_,_,_,_,rfl,fun b o hb => ?_,la0,?_⟩
   ·rw [jB (jt hb la0)];exact S7 _ _ (S6 _ _ hb)
   ·rw [jj,tn,← List.map_append,List.map_append (l₁ := toks (ps.take i)),← List.cons_append,ex]
    congr 3
    simp only [List.map_cons,List.map_append,List.map_map,List.append_assoc,List.singleton_append]
    rfl
  ·rintro σ H3 ⟨x5,x6,x7,x8,x9,x10,rfl,S3,la0,e3⟩
   have pl := h3.len
   rw [pl,List.take_length] at e3
   refine ⟨_,_,_,_,_,_,rfl,S3,?_⟩
   rw [e3]
   simp only [zG,List.map_cons,List.map_map]
   rfl
 rintro σ H3 ⟨x5,x6,x7,x8,x9,x10,rfl,S3,e3⟩
 walk_at "rd"
 refine ⟨⟨_,rfl⟩,_,.inl (SqL.of e3),?_,q H3 S3⟩
 have b := jfP (f := fun z : Str => z.length) (k := 40) (l := (zG ins nm ps).map (Txt.join " ")) fun z hz => by
  obtain ⟨ws,hw,rfl⟩ := List.mem_map.mp hz
  exact jfj (by omega) (by omega) tok hw
 have e : ((zG ins nm ps).map (Txt.join " ")).length ≤ 10001 := by simp only [zG,List.length_cons,List.length_map];omega
 have m := Nat.mul_le_mul_right 40 e
 rw [show (Str.ofString "\n").length = 1 by decide +kernel]
 omega
end
end K3
end
section
namespace K3
open PySem L2
local macro_rules | `(tactic| walk_at "rd") => `(tactic| simp only [vZ,jev,jei,jeh,jeo,iEnum,uC,rPop,ja6,rInD,rMax,rEqD,rNeD,jdz,rIxS,gF,tM1,jcY,jbC,tFv,tFs,tJc,tJn,iStr,rAny,gg,tTru,jgT,ipL,tDispN,tTupN,tLstN,jc2,gG,gH,jdw,jbB,jdx,jc0,jcZ,tVar,tC,tOp,tUn,rI,rI0,rU,rEq,rNe,tTest,tChain,tIf,tAnd,tOr,tNot,tAndV,tOrV,tNotV,tB,tSeq,tNext,tDrop,tRet,jdo,tIfS,tAsg,gName,gSub,gTup,gCons,gNil,jc1,rIxL,rIxT,tCB,tCallC,sDPut,tDGet,jdr,vX,tKGet,yY,jdn,jdy,tKIdx,jab,jdq,jaa,tDIn,vY,tAug,ipI,jdR,jaq,tCE,tCEs,tCL,tRevT,tDUpd,v8,jdv,iZipT,iEnumT,jad,jac,cx_P,cx_w,jd7,jd6,tSl,tPart,tNoPart,rSlT,rIn,rCat,rRep,tBM,tBM0,vL,jag,jaf,tFld,sFld,v7,rSub,rAdd,jdp,g9,tPar,tCons,tNil,tTup,tLst,L2.start,tYes,wipe,cx_K,jd8,
 List.map_cons,List.map_nil,List.length_cons,List.length_nil,List.cons_append,List.nil_append,Nat.zero_add,Nat.reduceAdd,Nat.reduceSub,List.replicate_succ,List.replicate_zero,List.getElem?_cons_zero,List.getElem?_cons_succ,List.set_cons_zero,List.set_cons_succ,
 Option.some.injEq,exists_eq_left',exists_eq_left,exists_and_left,V.int.injEq,V.ref.injEq,V.bl.injEq,V.str.injEq,V.ty.injEq,List.cons.injEq,and_true,true_and,decide_eq_true_eq])
section
variable {P : Program} {w : World} {K : PySem.W.Frag} {mg : Str → Option Value} {base : Heap} {f : Addr} {fd : FuncData}
abbrev j1 : Stmt := top 50
theorem sc_law_rows_text : FnScope ["_law_tested", "_law_found", "_law_rows", "_law_goes", "_law_test", "_law_goal", "_law_row", "_law_part"] ["_law_tested"] (defScope j1) := ⟨rfl,rfl,rfl,by decide +kernel,rfl,by decide +kernel,by decide +kernel⟩
theorem vo : (defScope j1).names.lookup ("_law_tested" : Str) = some .local := by decide +kernel
theorem zU : (defScope j1).names.lookup ("_law_found" : Str) = some .local := by decide +kernel
theorem uX : (defScope j1).names.lookup ("_law_rows" : Str) = some .local := by decide +kernel
theorem uW : (defScope j1).names.lookup ("_law_goes" : Str) = some .local := by decide +kernel
theorem uV : (defScope j1).names.lookup ("_law_test" : Str) = some .local := by decide +kernel
theorem vn : (defScope j1).names.lookup ("_law_goal" : Str) = some .local := by decide +kernel
theorem z9 : (defScope j1).names.lookup ("str" : Str) = some .globalImplicit := by decide +kernel
theorem jgk (a : Str) : Str.empty ++ a = a := jfO (by rw [TL.tl_append];rfl)
theorem jjm (t n : Nat) : (("tested " : Str) ++ numT t ++ (" " : Str)) ++ numT n = Txt.join " " [("tested" : Str),numT t,numT n] := by rw [← jhU,jgk]
theorem jlp (t : Nat) : ("go " : Str) ++ numT t ++ (" " : Str) ++ ("end" : Str) = Txt.join " " [("go" : Str),numT t, "end"] := by
 refine jfO ?_
 rw [TL.join_eq,TL.tl_join]
 simp only [TL.tl_append,List.map_cons,List.map_nil,TL.joinL,List.append_assoc]
 rw [show TL.tl ("go " : Str) = TL.tl ("go" : Str) ++ TL.tl (" " : Str) by decide +kernel]
 simp
theorem jlo (t n : Nat) : ("go " : Str) ++ numT t ++ (" " : Str) ++ numT n = Txt.join " " [("go" : Str),numT t,numT n] := by rw [← jkH,jgk]
def RtI (H : Hp) (a pa : Addr) (ins nm : Nat) (ps : List Piece) (i : Nat) (σ : St) (H2 : Hp) : Prop := ∃ la x2 x3 x4 x5 x6 x7,σ = [some (.ref a),some (.ref la),x2,x3,x4,x5,x6,x7] ∧ Same H H2 ∧ H la = none ∧ H2 la = some (.lst (((Txt.join " " [("tested" : Str),numT ins,numT nm]) :: (toks (ps.take i)).map vP).map V.str))
def spRt (K : PySem.W.Frag) : Sp := fun vs H Q _ => ∃ (ins nm : Nat) (ps : List Piece) (v : V),vs = [v] ∧ TestedAt K H ins nm ps v ∧ ins ≤ 3 ∧ nm ≤ 99 ∧ PsOk ps ∧ (toks ps).length ≤ 10000 ∧ ∀ l H',Same H H' → H' l = some (.lst (((zG ins nm ps).map (Txt.join " ")).map V.str)) → Q (.ref l) H'
theorem jmC (F : Fun K "_law_rows_text" "_law_rows_text" j1 f fd) (T : TT mg) : FnOk P w K mg base CX0 3 f fd ["_law_tested"] (spRt K) := by
 refine F.ok sc_law_rows_text (fun vs H Q E h => ?_) (fun cdv A outer s H vs Q E hr h => ?_)
 ·obtain ⟨ins,nm,ps,v,rfl,_⟩ := h
  rfl
 obtain ⟨ins,nm,ps,v,rfl,ta,i3,n9,po,tl,q⟩ := h
 refine ⟨_,(QSs.h (je (js (jV (i := 1) sc_law_rows_text.nd rfl (Or.inl zU) (zc (ja (jz vV (jz vV (jz vV ju (jX vJ z9 T.str gf (ja (jC ix_tup (jb (i := 0) rfl (Or.inl vo) yg yh) jd (fun _ _ => rfl)) jc (by rfl)) uQ vt (by rfl))) ju) (jX vJ z9 T.str gf (ja (jC ix_tup (jb (i := 0) rfl (Or.inl vo) yg yh) jd (fun _ _ => rfl)) jc (by rfl)) uQ vt (by rfl))) jc (by rfl))) (by rfl) (by first | exact .inl rfl | exact .inr rfl | assumption)))
 (je (js (yi PassesOwn.never rfl (vx (jC ix_tup (jb (i := 0) rfl (Or.inl vo) yg yh) jd (fun _ _ => rfl))) (zL (by rfl) (jD (jp (i := 2) sc_law_rows_text.nd rfl (Or.inl uX) (by first | exact .inl rfl | exact .inr rfl | assumption)) (jD (jp (i := 3) sc_law_rows_text.nd rfl (Or.inl uW) (by first | exact .inl rfl | exact .inr rfl | assumption)) zx)) (by rfl) (by rfl))
 (je (js (jV (i := 1) sc_law_rows_text.nd rfl (Or.inl zU) (jz je6 (jz je6 (jb (i := 1) rfl (Or.inl zU) jq jr) (zc (ja ju jc (by rfl)))) (jak (own := [("_law_row",6)]) (g := (gName 6)) rfl sc_law_rows_text.nd (vx (jb (i := 2) rfl (Or.inl uX) jaH jaK)) (yC (own := [("_law_row",6)]) (N := ["_law_tested", "_law_found", "_law_rows", "_law_goes", "_law_test", "_law_goal", "_law_row", "_law_part"]) (sc := defScope j1) (by decide +kernel)) (fun _ _ _ _ _ => (jp (i := 6) sc_law_rows_text.nd rfl (by first | exact Or.inl rfl | exact Or.inr rfl) (by first | exact .inl rfl | exact .inr rfl | assumption))) (fun _ _ _ _ _ => zP) (fun _ _ _ _ _ => (show QE _ _ (tM1 (jbC K) _ _) from (jbF ju (jak (own := [("_law_part",7)]) (g := (gName 7)) rfl sc_law_rows_text.nd (show QI _ _ _ (iTup K _) from (vx (q_pv 6 (by rfl) (by first | exact Or.inl rfl | exact Or.inr (Or.inl rfl) | exact Or.inr (Or.inr rfl)) (by decide) (by decide)))) (yC (own := [("_law_part",7)]) (N := ["_law_tested", "_law_found", "_law_rows", "_law_goes", "_law_test", "_law_goal", "_law_row", "_law_part"]) (sc := relS _ (defScope j1)) (by decide +kernel)) (fun _ _ _ _ _ => (jp (i := 7) sc_law_rows_text.nd rfl (by first | exact Or.inl rfl | exact Or.inr rfl) (by first | exact .inl rfl | exact .inr rfl | assumption))) (fun _ _ _ _ _ => zP) (fun _ _ _ _ _ => (jX (show CallR _ _ jgT from jgC) rfl T.str gf (ja (q_pv 7 (by rfl) (by first | exact Or.inl rfl | exact Or.inr (Or.inl rfl) | exact Or.inr (Or.inr rfl)) (by decide) (by decide)) jc (by rfl)) uQ vt (by rfl)))) (by rfl) (by rfl) (by rfl)))))) (by rfl) (by first | exact .inl rfl | exact .inr rfl | assumption)))
 (jf (yi PassesOwn.never rfl (vx (jb (i := 3) rfl (Or.inl uW) jgp jgB)) (zL (by rfl) (jD (jp (i := 4) sc_law_rows_text.nd rfl (Or.inl uV) (by first | exact .inl rfl | exact .inr rfl | assumption)) (jD (jp (i := 5) sc_law_rows_text.nd rfl (Or.inl vn) (by first | exact .inl rfl | exact .inr rfl | assumption)) zx)) (by rfl) (by rfl))
 (jf (js (zQ (jaM PySem.F.plainAttrs_list PySem.F.slot_list_append PySem.F.type_list_append uY (jb (i := 1) rfl (Or.inl zU) jq jr) (ja (jz vV (jz vV (jz vV ju (jX vJ z9 T.str gf (ja (jb (i := 4) rfl (Or.inl uV) zp zq) jc (by rfl)) uQ vt (by rfl))) ju) (zR (jv vM (jb (i := 5) rfl (Or.inl vn) jcP jcU) (uD ja5 jd) (jP _)) ju (jX vJ z9 T.str gf (ja (jb (i := 5) rfl (Or.inl vn) jcP jcU) jc (by rfl)) uQ vt (by rfl)))) jc (by rfl)) (by rfl) (by rfl) (by rfl) (by decide)) (by rfl)))))))))
 (jf (jm (jb (i := 1) rfl (Or.inl zU) jq jr)))))),?_⟩
 have sz : (10000000 : Nat) < sizeLine := by rw [sizeLine_eq];decide
 have tok := jeT po
 obtain ⟨a,pa,pvs,rfl,h1,h2,h3⟩ := id ta
 refine zf fun R hR => ?_
 walk_at "rd"
 have e1 : (Str.ofString "tested ").length = 7 := by decide +kernel
 have e2 : (Str.ofString "go ").length = 3 := by decide +kernel
 have e3 : (Str.ofString " ").length = 1 := by decide +kernel
 have e4 : (Str.ofString "end").length = 3 := by decide +kernel
 have li := jap (n := ins) (by omega)
 have ln := jap (n := nm) (by omega)
 refine ⟨_,h1.sq,_,at0,ins,rfl,yo (by omega) (by omega),by rw [vR,e1];omega,by rw [vR,yp,e1,e3];omega,_,h1.sq,_,at1,nm,rfl,yo (by omega) (by omega),by rw [vR,vR,yp,yp,e1,e3];omega,by omega,fun la H2 f2 S2 d2 => hR _ _ ?_⟩
 clear hR R
 have eh := jjm ins nm
 have d2 : H2 la = some (.lst [.str (Txt.join " " [("tested" : Str),numT ins,numT nm])]) := by rw [← eh];exact d2
 refine ut (fun σ H3 => ∃ la x2 x3 x4 x5 x6 x7,σ = [some (.ref a),some (.ref la),x2,x3,x4,x5,x6,x7] ∧ Same H H3 ∧ H3 la = some (.lst (((zG ins nm ps).map (Txt.join " ")).map V.str))) ?_ ?_
 case refine_2 =>
  rintro σ H3 ⟨la,x2,x3,x4,x5,x6,x7,rfl,S3,d3⟩
  walk_at "rd"
  exact q la H3 S3 d3
 refine ⟨_,rfl,a,_,2,_,rfl,rfl,(h1.mono (TupKeep.same S2)).sq,jby (j := 2) rfl rfl,pa,rfl,⟨_,(h2.mono (TupKeep.same S2)).sq⟩,jfu (K := K) (a := pa) (xs := pvs) (RtI H a pa ins nm ps) ⟨la,_,_,_,_,_,_,rfl,S2,f2,d2⟩ (fun i σ H3 _ ⟨_,_,_,_,_,_,_,_,S,_⟩ => (h2.mono (TupKeep.same S)).sq) ?_ ?_⟩
 case refine_2 =>
  rintro σ H3 ⟨la,x2,x3,x4,x5,x6,x7,rfl,S3,la0,d3⟩
  have pl := h3.len
  rw [pl,List.take_length] at d3
  refine ⟨la,_,_,_,_,_,_,rfl,S3,?_⟩
  rw [d3]
  simp only [zG,List.map_cons,List.map_map]
  rfl
 rintro i x σ H3 hx ⟨la,x2,x3,x4,x5,x6,x7,rfl,S3,la0,d3⟩
 obtain ⟨p,ep,pc,ra,ga,rvs,gvs,rfl,g1,g2,g3,g4,g5⟩ := h3.get hx
 have pm := List.mem_of_getElem? ep
 have po' := po.ok p pm
 refine ⟨pc,_,rfl,(g1.mono (TupKeep.same S3)).sq,rfl,_,_,rfl,_,_,rfl,rfl,?_⟩
 refine zf fun R hR => ?_
 walk_at "rd"
 have tl0 : (toks (ps.take i)).length ≤ 10000 := by
  have : toks ps = toks (ps.take i) ++ toks (ps.drop i) := by unfold toks;rw [← List.flatMap_append,List.take_append_drop]
  rw [this,List.length_append] at tl
  omega
 have tn : toks (ps.take (i + 1)) = toks (ps.take i) ++ (.pc :: (p.rows.map .row ++ p.goes.map .go)) := by unfold toks;rw [List.take_add_one,ep,List.flatMap_append];simp
 obtain ⟨xs,ex,xl⟩ : ∃ xs : List Str,(Txt.join " " [("tested" : Str),numT ins,numT nm]) :: (toks (ps.take i)).map vP = xs ∧ xs.length ≤ 10001 := ⟨_,rfl,by rw [List.length_cons,List.length_map];omega⟩
 rw [ex] at d3
 refine ⟨by omega,fun pp Ha fa Sa ea => ⟨_,Sa _ _ d3,_,ea,by rw [List.length_map];show _ + 1 ≤ _;omega,fun pb H4 fb Sb eb => ?_⟩⟩
 have S4 : Same H H4 := S3.trans (Sa.trans Sb)
 have d4 : H4 pb = some (.lst ((xs ++ [vP .pc]).map V.str)) := by rw [eb,List.map_append];rfl
 clear Sa ea fa eb
 have g3' : Tp K H4 ra rvs := g2.mono (TupKeep.same S4)
 have g4' : AllAt (RowAt K H4) p.rows rvs := g3.imp fun _ _ z => z.mono (TupKeep.same S4)
 have rl := po'.rl
 have rvl := g4'.len
 refine ⟨_,rfl,ra,rfl,⟨_,g3'.sq⟩,fun D hD => ?_⟩
 refine jeM (K := K) (a := ra) (xs := rvs) (fun j H5 => Same H4 H5 ∧ H5 D = some (.lst (((p.rows.take j).map fun r => vP (.row r)).map V.str))) ⟨jbg hD,jj⟩ (fun j H5 _ h => (g3'.mono (TupKeep.same h.1)).sq) ?_ ?_
 ·rintro j x H5 hx ⟨S5,d5⟩
  obtain ⟨r,er,rp,rfl,grp⟩ := g4'.get hx
  have ro := po'.ro r (List.mem_of_getElem? er)
  have jl := (List.getElem?_eq_some_iff.mp er).1
  have grp5 := grp.mono (TupKeep.same S5)
  walk_at "rd"
  have rol : (Ln.row r).ok := ro
  have lw := jeQ rol
  have ln5 := (jdL (.row r)).2
  have vl := jkA r
  refine iteP trivial ⟨⟨_,rfl⟩,?_⟩
  refine ⟨_,rfl,rp,rfl,⟨_,grp5.sq⟩,fun D2 hD2 => ?_⟩
  refine jeM (K := K) (a := rp) (xs := r.vs) (fun m H6 => Same H5 H6 ∧ H6 D2 = some (.lst (((yQ (.row r)).take m).map V.str))) ⟨jbg hD2,jj⟩ (fun m H6 _ h => (grp5.mono (TupKeep.same h.1)).sq) ?_ ?_
  ·rintro m v H6 hv ⟨S6,d6⟩
   obtain ⟨z,ez,hz⟩ := jiD ro hv
   have fin : ∃ acc,H6 D2 = some (HO.lst acc) ∧ acc.length < sizeLine ∧ Same H5 (upd H6 D2 (.lst (acc ++ [V.str z]))) ∧ upd H6 D2 (.lst (acc ++ [V.str z])) D2 = some (.lst (((yQ (.row r)).take (m + 1)).map V.str)) :=
    ⟨_,d6,by rw [List.length_map,List.length_take];omega,fun y o hy => by rw [jB (jt hy hD2)];exact S6 _ _ hy,by rw [jj,List.take_add_one,ez,List.map_append];rfl⟩
   walk_at "rd"
   refine iteP trivial ?_
   rcases hz with ⟨i,rfl,il,rfl⟩ | rfl
   ·exact .inl ⟨i,rfl,yo (by omega) (by omega),fin⟩
   ·exact .inr ⟨z,rfl,fin⟩
  rintro H6 ⟨S6,d6⟩
  rw [vl,List.take_length] at d6
  refine ⟨D2,rfl,yQ (.row r),.inl (SqL.of d6),?_,_,S6 _ _ d5,?_,fun y o hy => ?_,?_⟩
  ·have b := jfP (f := fun z : Str => z.length) (k := 7) (l := yQ (.row r)) fun z hz => (lw z hz).2
   rw [show (Str.ofString " ").length = 1 by decide +kernel]
   have := Nat.mul_le_mul_right 7 ln5
   omega
  ·rw [List.length_map,List.length_map,List.length_take];omega
  ·rw [jB (jt hy hD)];exact S6 _ _ (S5 _ _ hy)
  ·rw [jj,List.take_add_one,er,List.map_append,List.map_append];rfl
 rintro H5 ⟨S5,d5⟩
 rw [rvl,List.take_length] at d5
 refine ⟨D,rfl,_,S5 _ _ d4,_,d5,by simp only [List.length_map,List.length_append,List.length_cons,List.length_nil];omega,fun lb H6 f6 S6 e6 => hR _ _ ?_⟩
 clear hR R
 have S46 := S4.trans (S5.trans S6)
 have lb0 : H lb = none := ji5 (S4.trans S5) f6
 have e6 : H6 lb = some (.lst ((xs ++ [vP .pc] ++ p.rows.map fun r => vP (.row r)).map V.str)) := by rw [e6];simp only [List.map_append]
 clear d5 S5 hD g3' g4' S4 d4 S6 f6
 have g5' : Tp K H6 ga gvs := g4.mono (TupKeep.same S46)
 have g6' : AllAt (GoAt K H6) p.goes gvs := g5.imp fun _ _ z => z.mono (TupKeep.same S46)
 have gl := po'.g8
 have gvl := g6'.len
 obtain ⟨ys,ey,yl⟩ : ∃ ys : List Str,(xs ++ [vP .pc] ++ p.rows.map fun r => vP (.row r)) = ys ∧ ys.length ≤ 20000 := ⟨_,rfl,by simp only [List.length_append,List.length_map,List.length_cons,List.length_nil];omega⟩
 rw [ey] at e6
 refine ⟨_,rfl,ga,rfl,⟨_,g5'.sq⟩,jfu (K := K) (a := ga) (xs := gvs) (fun j σ H7 => ∃ x4 x5 x6 x7,σ = [some (.ref a),some (.ref lb),some (.ref ra),some (.ref ga),x4,x5,x6,x7] ∧ Same H H7 ∧ H7 lb = some (.lst ((ys ++ (p.goes.take j).map fun g => vP (.go g)).map V.str))) ⟨_,_,_,_,rfl,S46,by rw [List.take_zero,List.map_nil,List.append_nil];exact e6⟩ (fun j σ H7 _ ⟨_,_,_,_,_,S,_⟩ => (g4.mono (TupKeep.same S)).sq) ?_ ?_⟩
 case refine_2 =>
  rintro σ H7 ⟨x4,x5,x6,x7,rfl,S7,e7⟩
  rw [gvl,List.take_length] at e7
  refine ⟨lb,_,_,_,_,_,_,rfl,S7,lb0,?_⟩
  rw [e7,tn,← ey,List.map_append (l₁ := toks (ps.take i)),← List.cons_append,ex]
  congr 3
  simp only [List.map_cons,List.map_append,List.map_map,List.append_assoc,List.singleton_append]
  rfl
 rintro j x σ H7 hx ⟨x4,x5,x6,x7,rfl,S7,e7⟩
 obtain ⟨g,eg,gp,rfl,ggp⟩ := g5.get hx
 have go := po'.go g (List.mem_of_getElem? eg)
 have p9 := po.p9
 have g22 := go.2.2
 have g11 := go.1
 have g21 := go.2.1
 refine ⟨gp,_,rfl,(ggp.mono (TupKeep.same S7)).sq,rfl,_,_,rfl,_,_,rfl,rfl,?_⟩
 refine jeK fun R hR => ?_
 walk_at "rd"
 clear g1 ggp
 obtain ⟨ga1,gb1⟩ := g
 simp only [In2] at g11
 simp only at g21 g22
 obtain ⟨t,rfl⟩ : ∃ t : Nat,ga1 = t := ⟨ga1.toNat,by omega⟩
 have lt := jap (n := t) (by omega)
 have jl := (List.getElem?_eq_some_iff.mp eg).1
 have fin : ∀ z : Str,vP (.go ((t : Int),gb1)) = z → tyV K "list" (V.ref lb) H7 ∧ ∃ x,H7 lb = some (HO.lst x) ∧ x.length < sizeLine ∧ R [some (V.ref a),some (V.ref lb),some (V.ref ra),some (V.ref ga),some (V.int t),some (V.int gb1),x6,x7] (upd H7 lb (.lst (x ++ [V.str z]))) := fun z hz => by
  refine ⟨.inl ⟨rfl,_,SqL.of e7⟩,_,e7,?_,hR _ _ ⟨_,_,_,_,rfl,fun b o hb => ?_,?_⟩⟩
  ·simp only [List.length_map,List.length_append,List.length_take];omega
  ·rw [jB (jt hb lb0)];exact S7 _ _ hb
  ·rw [jj,List.take_add_one,eg,← hz]
   simp only [Option.toList_some,List.map_append,List.map_cons,List.map_nil,List.append_assoc]
 dsimp only
 refine ⟨.inl ⟨rfl,_,SqL.of e7⟩,yo (by omega) (by omega),by rw [vR,e2];omega,by rw [vR,yp,e2,e3];omega,rfl,?_⟩
 by_cases c : gb1 = -1
 ·have z := fin (Txt.join " " [("go" : Str),numT t, "end"]) (by unfold vP;simp only [yQ];rw [if_pos c];rfl)
  rw [← jlp] at z
  exact iteP c ⟨by rw [vR,yp,yp,e2,e3,e4];omega,z.2⟩
 ·obtain ⟨n,rfl⟩ : ∃ n : Nat,gb1 = n := ⟨gb1.toNat,by omega⟩
  have ln := jap (n := n) (by omega)
  have z := fin (Txt.join " " [("go" : Str),numT t,numT n]) (by unfold vP;simp only [yQ];rw [if_neg c];rfl)
  rw [← jlo] at z
  exact iteN c ⟨yo (by omega) (by omega),by rw [vR,vR,yp,yp,e2,e3];omega,z.2⟩
end
end K3
end
section
namespace K3
open PySem L2
section
variable {P : Program} {w : World} {K : PySem.W.Frag} {mg : Str → Option Value} {base : Heap} {f : Addr} {fd : FuncData}
abbrev yR : Stmt := top 44
theorem sc_law_next : FnScope ["_law_dice_here", "_law_many", "_law_found", "_law_cell"] ["_law_dice_here", "_law_many"] (defScope yR) := ⟨rfl,rfl,rfl,by decide +kernel,rfl,by decide +kernel,by decide +kernel⟩
theorem za : (defScope yR).names.lookup ("_law_dice_here" : Str) = some .local := by decide +kernel
theorem vC : (defScope yR).names.lookup ("_law_many" : Str) = some .local := by decide +kernel
theorem jcG : (defScope yR).names.lookup ("_law_found" : Str) = some .local := by decide +kernel
theorem uu : (defScope yR).names.lookup ("_law_cell" : Str) = some .local := by decide +kernel
theorem jep : (defScope yR).names.lookup ("len" : Str) = some .globalImplicit := by decide +kernel
def jcD (K : PySem.W.Frag) : Sp := fun vs H Q _ => ∃ (d a : Addr) (n : Int),vs = [.ref d,.int n] ∧ DiceAt K H d a ∧ 0 < n ∧ n < 1073741824 ∧ ∀ (r : Int) (H' : Hp),0 ≤ r → r < n → DiceAt K H' d a → Keep d H H' → Q (.int r) H'
theorem jk7 (F : Fun K "_law_next" "_law_next" yR f fd) (T : TT mg) : FnOk P w K mg base CX0 1 f fd ["_law_dice_here", "_law_many"] (jcD K) := by
 refine F.ok sc_law_next (fun vs H Q E h => ?_) (fun cdv A outer s H vs Q E hr h => ?_)
 ·obtain ⟨d,a,n,rfl,_⟩ := h
  rfl
 obtain ⟨d,a,n,rfl,⟨ns,k,m,c,hd,hs,hk,hm,hm2,hc⟩,hn,hn2,q⟩ := h
 refine ⟨_,(QSs.h (je (jF (jv jf0 (jC ix_list (jb (i := 0) rfl (Or.inl za) jG jH) jd (fun _ _ => rfl)) jd (jP _))
 (je (jV (i := 2) sc_law_next.nd rfl (Or.inl jcG) (jz jeG (jC ix_list (jb (i := 0) rfl (Or.inl za) jG jH) jd (fun _ _ => rfl)) (jb (i := 1) rfl (Or.inl vC) zH zI)) (by rfl) (by first | exact .inl rfl | exact .inr rfl | assumption))
 (je (vv (jz jgY (jC ix_list (jb (i := 0) rfl (Or.inl za) jG jH) jd (fun _ _ => rfl)) (jb (i := 1) rfl (Or.inl vC) zH zI)) (jdf (jb (i := 0) rfl (Or.inl za) jG jH) jd jde) (by rfl) (by rfl) (by rfl))
 (jf (jm (jb (i := 2) rfl (Or.inl jcG) jq jr)))))
 jw)
 (je (vv (jz yn (jC ix_list (jb (i := 0) rfl (Or.inl za) jG jH) jd (fun _ _ => rfl)) jd) (jdf (jb (i := 0) rfl (Or.inl za) jG jH) jd jde) (by rfl) (by rfl) (by rfl))
 (je (jF (jv je5 (jC ix_list (jb (i := 0) rfl (Or.inl za) jG jH) jd (fun _ _ => rfl)) (jh jQ jep T.len PySem.boot_len (ja (jC ix_list (jb (i := 0) rfl (Or.inl za) jG jH) jd (fun _ _ => rfl)) jc (by rfl)) yE zJ (by rfl)) (jP _))
 (je (jV (i := 3) sc_law_next.nd rfl (Or.inl uu) (jC ix_list (jC ix_list (jb (i := 0) rfl (Or.inl za) jG jH) jd (fun _ _ => rfl)) (jz ja7 (jC ix_list (jb (i := 0) rfl (Or.inl za) jG jH) jd (fun _ _ => rfl)) jd) (fun _ _ => rfl)) (by rfl) (by first | exact .inl rfl | exact .inr rfl | assumption))
 (je (vv (zR (jv jlO (jb (i := 3) rfl (Or.inl uu) uz uA) (jz jlN jd jd) (jP _)) (jz jgY (jb (i := 3) rfl (Or.inl uu) uz uA) (jb (i := 1) rfl (Or.inl vC) zH zI)) jd) (jdf (jb (i := 0) rfl (Or.inl za) jG jH) jd jde) (by rfl) (by rfl) (by rfl))
 (jf (jm (jz jeG (jb (i := 3) rfl (Or.inl uu) uz uA) (jb (i := 1) rfl (Or.inl vC) zH zI))))))
 jw)
 (je (vv (jz jeG (jz jcE (jC ix_list (jb (i := 0) rfl (Or.inl za) jG jH) jd (fun _ _ => rfl)) jd) jd) (jdf (jb (i := 0) rfl (Or.inl za) jG jH) jd jde) (by rfl) (by rfl) (by rfl))
 (jf (jm (jz jeG (jz jgY (jC ix_list (jb (i := 0) rfl (Or.inl za) jG jH) jd (fun _ _ => rfl)) jd) (jb (i := 1) rfl (Or.inl vC) zH zI))))))))),?_⟩
 walk_at "rd"
 have kp : ∀ o,Keep d H (upd H d o) := fun o b u nb hb => by rw [jB nb];exact hb
 have kp2 : ∀ o o',Keep d H (upd (upd H d o) d o') := fun o o' b u nb hb => by rw [jB nb,jB nb];exact hb
 refine ⟨_,SqL.of hd,_,rfl,_,rfl,?_⟩
 split
 ·rename_i c0
  refine ⟨_,SqL.of hd,_,rfl,_,rfl,hn,_,SqL.of hd,_,rfl,_,rfl,⟨hn,hn2⟩,_,hd,_,rfl,?_⟩
  refine q _ _ (Int.emod_nonneg _ (by omega)) (Int.emod_lt_of_pos _ hn) ⟨ns,k,m,c / n,jj,hs.lst hd,hk,hm,hm2,Int.ediv_nonneg hc (by omega)⟩ (kp _)
 ·refine ⟨_,SqL.of hd,_,rfl,_,rfl,_,hd,_,rfl,_,SqL.of jj,_,rfl,_,SqL.of jj,_,rfl,_,rfl,_,.inl (hs.lst hd).sq,_,rfl,?_⟩
  rw [List.length_map]
  split
  ·rename_i hle
   obtain ⟨z,hz⟩ := jll (ns := ns) (k := k + 1 - 1) (by omega) (by omega)
   have hz2 := hz
   walk_at "go"
   refine ⟨_,(hs.lst hd).sq,_,hz,?_⟩
   walk_at "go"
   refine ⟨⟨by decide,by decide,by decide⟩,_,rfl,?_⟩
   split
   ·rename_i hb
    have hz0 : 0 ≤ z := by
     have : (0 : Int) ≤ 10 ^ Int.toNat 18 := by decide
     omega
    refine ⟨_,rfl,⟨hn,hn2⟩,?_⟩
    walk_at "go"
    refine q _ _ (Int.emod_nonneg _ (by omega)) (Int.emod_lt_of_pos _ hn) ⟨ns,k + 1,m,z / n,jj,(hs.lst hd).lst jj,by omega,hm,hm2,Int.ediv_nonneg hz0 (by omega)⟩ (kp2 _ _)
   ·walk_at "go"
    refine q _ _ (Int.emod_nonneg _ (by omega)) (Int.emod_lt_of_pos _ hn) ⟨ns,k + 1,m,0,jj,(hs.lst hd).lst jj,by omega,hm,hm2,by omega⟩ (kp2 _ _)
  ·walk_at "go"
   refine ⟨.inr ⟨by decide,by decide⟩,by decide,?_⟩
   walk_at "go"
   refine ⟨⟨by decide,by decide⟩,hn,?_⟩
   refine q _ _ (Int.emod_nonneg _ (by omega)) (Int.emod_lt_of_pos _ hn) ⟨ns,k + 1,m * 48271 % 2147483647,c,jj,(hs.lst hd).lst jj,by omega,Int.emod_nonneg _ (by decide),Int.emod_lt_of_pos _ (by decide),hc⟩ (kp2 _ _)
theorem yX {d a : Addr} {n : Int} {H : Hp} {Q : VK} {E : XK} (D : DiceAt K H d a) (h : ∀ (r : Int) (H' : Hp),0 ≤ r → r < n → DiceAt K H' d a → Keep d H H' → Q (.int r) H') (h0 : 0 < n := by decide) (h1 : n < 1073741824 := by decide) : jcD K [.ref d,.int n] H Q E := ⟨d,a,n,rfl,D,h0,h1,h⟩
theorem jh6 {ns : List Int} {r : Int} (h0 : 0 ≤ r) (h1 : r < ns.length) : ∃ z ∈ ns,atI (ns.map V.int) r = some (.int z) := by
 have hk : r.toNat < ns.length := by omega
 exact ⟨ns[r.toNat],List.getElem_mem hk,jby (j := r.toNat) (by omega) (by rw [List.getElem?_map,List.getElem?_eq_getElem hk];rfl)⟩
end
end K3
end
section
namespace K3
open PySem L2
section
variable {P : Program} {w : World} {K : PySem.W.Frag} {mg : Str → Option Value} {base : Heap} {f : Addr} {fd : FuncData}
abbrev yS : Stmt := top 43
theorem sc_law_dice : FnScope ["_law_script", "_law_mixed", "_law_cell"] ["_law_script"] (defScope yS) := ⟨rfl,rfl,rfl,by decide +kernel,rfl,by decide +kernel,by decide +kernel⟩
theorem jam : (defScope yS).names.lookup ("_law_script" : Str) = some .local := by decide +kernel
theorem uv : (defScope yS).names.lookup ("_law_mixed" : Str) = some .local := by decide +kernel
theorem jcH : (defScope yS).names.lookup ("_law_cell" : Str) = some .local := by decide +kernel
theorem jes : (defScope yS).names.lookup ("int" : Str) = some .globalImplicit := by decide +kernel
theorem jer : (defScope yS).names.lookup ("len" : Str) = some .globalImplicit := by decide +kernel
def jiO (K : PySem.W.Frag) : Sp := fun vs H Q _ => ∃ (a : Addr) (ns : List Int),vs = [.ref a] ∧ Scr K H a ns ∧ ns.length ≤ 63 ∧ ∀ (d : Addr) (H' : Hp),H d = none → DiceAt K H' d a → Keep d H H' → Q (.ref d) H'
theorem jk9 (F : Fun K "_law_dice" "_law_dice" yS f fd) (T : TT mg) : FnOk P w K mg base CX0 1 f fd ["_law_script"] (jiO K) := by
 refine F.ok sc_law_dice (fun vs H Q E h => ?_) (fun cdv A outer s H vs Q E hr h => ?_)
 ·obtain ⟨a,ns,rfl,_⟩ := h
  rfl
 obtain ⟨a,ns,rfl,hs,hl,q⟩ := h
 refine ⟨_,(QSs.h (je (jV (i := 1) sc_law_dice.nd rfl (Or.inl uv) jd (by rfl) (by first | exact .inl rfl | exact .inr rfl | assumption))
 (je (yi PassesOwn.never rfl (jbE (jb (i := 0) rfl (Or.inl jam) vz vA)) (jp (i := 2) sc_law_dice.nd rfl (Or.inl jcH) (by first | exact .inl rfl | exact .inr rfl | assumption))
 (jf (jV (i := 1) sc_law_dice.nd rfl (Or.inl uv) (jz jeG (jz yn (jz yn (jz jcE (jb (i := 1) rfl (Or.inl uv) jb2 jb7) jd) (jz jcE (jz jeG (jb (i := 2) rfl (Or.inl jcH) uz uA) jd) jd)) jd) jd) (by rfl) (by first | exact .inl rfl | exact .inr rfl | assumption))))
 (jf (jm (jj0 (ja (jb (i := 0) rfl (Or.inl jam) vz vA) (ja jd (ja (jz jcE (jb (i := 1) rfl (Or.inl uv) jb2 jb7) (jX jb9 jes T.int jbe (ja (zt jf0 (jh jQ jer T.len PySem.boot_len (ja (jb (i := 0) rfl (Or.inl jam) vz vA) jc (by rfl)) yE zJ (by rfl)) jd (jP _)) jc (by rfl)) ja8 uI (by rfl))) (ja jd jc (by rfl)) (by rfl)) (by rfl)) (by rfl)))))))),?_⟩
 walk_at "rd"
 refine ⟨_,rfl,a,rfl,⟨_,hs.sq⟩,jkl (K := K) (a := a) (xs := ns.map V.int) (fun i σ H2 => ∃ (m : Int) (v : Option V),σ = [some (.ref a),some (.int m),v] ∧ H2 = H ∧ 0 ≤ m ∧ m < 2147483647) ⟨0,none,rfl,rfl,by decide,by decide⟩ (fun i σ H2 _ ⟨_,_,_,e,_⟩ => by rw [e];exact hs.sq) ?_ ?_⟩
 ·rintro i y σ H2 hi ⟨m,v,rfl,rfl,h0,h1⟩
  obtain ⟨z,rfl⟩ : ∃ z,y = V.int z := by
   rw [List.getElem?_map] at hi
   cases e : ns[i]? with
   | none => rw [e] at hi;cases hi
   | some z => rw [e] at hi;exact ⟨z,(Option.some.inj hi).symm⟩
  walk_at "rd"
  refine ⟨.inr ⟨by decide,by decide⟩,by decide,.inr ⟨by decide,by decide⟩,by decide,_,_,⟨rfl,rfl⟩,Int.emod_nonneg _ (by decide),Int.emod_lt_of_pos _ (by decide)⟩
 ·rintro σ H2 ⟨m,v,rfl,rfl,h0,h1⟩
  walk_at "rd"
  refine ⟨_,.inl hs.sq,.inr ⟨?_,by decide,fun p hp => ?_⟩⟩
  ·split
   ·exact .inr ⟨by decide,by decide⟩
   ·exact .inr ⟨by decide,by decide⟩
  ·refine q p _ hp ⟨ns,0,_,0,jj,hs.new hp,by decide,?_,?_,by decide⟩ fun b o nb hb => by rw [jB nb];exact hb
   ·split <;> omega
   ·split <;> omega
end
end K3
end
section
namespace K3
open PySem L2
section
variable {P : Program} {w : World} {K : PySem.W.Frag} {mg : Str → Option Value} {base : Heap} {f : Addr} {fd : FuncData}
end
end K3
end
section
namespace K3
open PySem L2
section
variable {P : Program} {w : World} {K : PySem.W.Frag} {mg : Str → Option Value} {base : Heap} {f : Addr} {fd : FuncData}
abbrev jI : Stmt := top 46
theorem sc_law_some_row : FnScope ["_law_d", "_law_w", "_law_way", "_law_place", "_law_k", "_law_one", "_law_made", "_law_test", "_law_pair", "_law_word"] ["_law_d", "_law_w"] (defScope jI) := ⟨rfl,rfl,rfl,by decide +kernel,rfl,by decide +kernel,by decide +kernel⟩
theorem ze : (defScope jI).names.lookup ("_law_way" : Str) = some .local := by decide +kernel
theorem jJ : (defScope jI).names.lookup ("_law_place" : Str) = some .local := by decide +kernel
theorem yH : (defScope jI).names.lookup ("_law_one" : Str) = some .local := by decide +kernel
theorem zF : (defScope jI).names.lookup ("_law_made" : Str) = some .local := by decide +kernel
theorem j3 : (defScope jI).names.lookup ("_law_test" : Str) = some .local := by decide +kernel
theorem vN : (defScope jI).names.lookup ("_law_pair" : Str) = some .local := by decide +kernel
theorem gQ : (defScope jI).names.lookup ("_law_word" : Str) = some .local := by decide +kernel
theorem jT : (defScope jI).names.lookup ("_law_d" : Str) = some .cell := by decide +kernel
theorem yd : (defScope jI).names.lookup ("_law_w" : Str) = some .cell := by decide +kernel
theorem jx : (defScope jI).names.lookup ("_law_next" : Str) = some .globalImplicit := by decide +kernel
theorem jbR : (defScope jI).names.lookup ("max" : Str) = some .globalImplicit := by decide +kernel
theorem jaZ : (defScope jI).names.lookup ("range" : Str) = some .globalImplicit := by decide +kernel
theorem jbS : (defScope jI).names.lookup ("int" : Str) = some .globalImplicit := by decide +kernel
def kvW (nm my md fr of_ : Int) : List (Key × V) := [(.inr "names",.int nm),(.inr "many",.int my),(.inr "made",.int md),(.inr "far",.int fr),(.inr "off",.int of_)]
structure WOk (nm my md fr of_ : Int) : Prop where
 n0 : 0 ≤ nm
 m1 : 1 ≤ my
 m9 : my ≤ 99
 d0 : 0 ≤ md
 d9 : md + of_ ≤ 1996
 f0 : 0 ≤ fr
 f9 : fr ≤ 1900
 o0 : 0 ≤ of_
 o9 : of_ ≤ 1900
section
variable {H : Hp} {w : Addr} {nm my md fr of_ : Int}
theorem jje (h : H w = some (.dK (kvW nm my md fr of_))) : DGet H w (.str "names") (some (.int nm)) := DGet.k (k := Sum.inr "names") h
theorem jkf (h : H w = some (.dK (kvW nm my md fr of_))) : DGet H w (.str "many") (some (.int my)) := DGet.k (k := Sum.inr "many") h
theorem jhS (h : H w = some (.dK (kvW nm my md fr of_))) : DGet H w (.str "made") (some (.int md)) := DGet.k (k := Sum.inr "made") h
theorem jlj (h : H w = some (.dK (kvW nm my md fr of_))) : DGet H w (.str "far") (some (.int fr)) := DGet.k (k := Sum.inr "far") h
theorem jfk (h : H w = some (.dK (kvW nm my md fr of_))) : DGet H w (.str "off") (some (.int of_)) := DGet.k (k := Sum.inr "off") h
theorem jli {z : Int} (h : H w = some (.dK (kvW nm my md fr of_))) : DPut H w (.str "made") (.int z) (upd H w (.dK (kvW nm my z fr of_))) := DPut.k (k := Sum.inr "made") h (by show 5 < sizeLine;rw [sizeLine_eq];decide)
end
theorem jhM {P : Int → Prop} {xs : List Int} {z : Int} (h : ∀ x ∈ xs,P x) (hz : P z) : ∀ x ∈ xs ++ [z],P x := fun x hx => by
 rcases List.mem_append.mp hx with h1 | h1
 ·exact h x h1
 ·rw [List.mem_singleton.mp h1];exact hz
theorem jhN {xs : List Int} {z : Int} {H : Hp} {p : Addr} : upd H p (.lst (xs.map V.int ++ [.int z])) p = some (.lst ((xs ++ [z]).map V.int)) := by rw [jj,List.map_append];rfl
def Keep2g (d e : Addr) (H H' : Hp) : Prop := ∀ b o,b ≠ d → b ≠ e → H b = some o → H' b = some o
structure RowG (of_ md md' : Int) (r : Row) : Prop where
 tb : r.t = 0 ∨ (of_ + 1 ≤ r.t ∧ r.t ≤ of_ + md)
 ms : (r.makes = [] ∧ md' = md) ∨ ∃ one : Int,1 ≤ one ∧ one ≤ md + 1 ∧ (md' = if one + 1 > md then one + 1 else md) ∧ ∀ x,x ∈ r.makes ↔ x = one + of_ ∨ x = one + 1 + of_
def spSR (K : PySem.W.Frag) : Sp := fun vs H Q _ => ∃ (d a w : Addr) (nm my md fr of_ : Int),vs = [.ref d,.ref w] ∧ DiceAt K H d a ∧ H w = some (.dK (kvW nm my md fr of_)) ∧ WOk nm my md fr of_ ∧ ∀ (t : Addr) (H' : Hp) (r : Row) (md' : Int),r.ok → RowG of_ md md' r → H' t = some (.tup r.vs) → md ≤ md' → md' ≤ md + 2 → H' w = some (.dK (kvW nm my md' fr of_)) → DiceAt K H' d a → Keep2g d w H H' → Q (.ref t) H'
theorem jmz (F : Fun K "_law_some_row" "_law_some_row" jI f fd) (T : TT mg) (c_law_next : Cal P w K mg base CX0 "_law_next" 1 ["_law_dice_here", "_law_many"] (jcD K)) : FnOk P w K mg base CX0 2 f fd ["_law_d", "_law_w"] (spSR K) := by
 refine F.ok sc_law_some_row (fun vs H Q E h => ?_) (fun cdv A outer s H vs Q E hr h => ?_)
 ·obtain ⟨d,a,w,nm,my,md,fr,of_,rfl,_⟩ := h
  rfl
 obtain ⟨d,a,w,nm,my,md,fr,of_,rfl,D,hw,W,q⟩ := h
 have hu := jkh hr
 refine ⟨_,(QSs.h (je (js (jV (i := 2) sc_law_some_row.nd rfl (Or.inl ze) (jg c_law_next hr (by omega) j5 (ja (jb (i := 0) rfl (Or.inr (Or.inl jT)) jM jN) (ja jd jc (by rfl)) (by rfl)) jx jy (by rfl)) (by rfl) (by first | exact .inl rfl | exact .inr rfl | assumption)))
 (je (js (uN (i := 3) (own := [("_law_k",4)]) (g := (gName 4)) rfl sc_law_some_row.nd rfl jJ (jds rfl rfl rfl (by decide +kernel)) (ym jaZ T.range (ja jd jc (by rfl)) (by rfl)) (yC (own := [("_law_k",4)]) (N := ["_law_d", "_law_w", "_law_way", "_law_place", "_law_k", "_law_one", "_law_made", "_law_test", "_law_pair", "_law_word"]) (sc := defScope jI) (by decide +kernel)) (fun _ _ _ _ _ => (jp (i := 4) sc_law_some_row.nd rfl (Or.inl rfl) (by first | exact .inl rfl | exact .inr rfl | assumption))) (fun _ _ _ _ _ => zP) (fun _ _ _ _ _ => (jg c_law_next hr (by omega) j5 (ja (q_pv 0 (by rfl) (by first | exact Or.inl rfl | exact Or.inr (Or.inl rfl) | exact Or.inr (Or.inr rfl)) (by decide) (by decide)) (ja (vc (by exact hu) (q_pv 1 (by rfl) (by first | exact Or.inl rfl | exact Or.inr (Or.inl rfl) | exact Or.inr (Or.inr rfl)) (by decide) (by decide)) ju (fun _ _ => rfl)) jc (by rfl)) (by rfl)) rfl jy (by rfl)))))
 (je (js (uN (i := 3) (own := [("_law_one",5)]) (g := (gName 5)) rfl sc_law_some_row.nd rfl jJ (jds rfl rfl rfl (by decide +kernel)) (jbE (jb (i := 3) rfl (Or.inl jJ) j8 j9)) (yC (own := [("_law_one",5)]) (N := ["_law_d", "_law_w", "_law_way", "_law_place", "_law_k", "_law_one", "_law_made", "_law_test", "_law_pair", "_law_word"]) (sc := defScope jI) (by decide +kernel)) (fun _ _ _ _ _ => (jp (i := 5) sc_law_some_row.nd rfl (Or.inl rfl) (by first | exact .inl rfl | exact .inr rfl | assumption))) (fun _ _ _ _ _ => zP) (fun _ _ _ _ _ => (jz yn (q_pv 5 (by rfl) (by first | exact Or.inl rfl | exact Or.inr (Or.inl rfl) | exact Or.inr (Or.inr rfl)) (by decide) (by decide)) (jz jcE (vc (by exact hu) (q_pv 1 (by rfl) (by first | exact Or.inl rfl | exact Or.inr (Or.inl rfl) | exact Or.inr (Or.inr rfl)) (by decide) (by decide)) ju (fun _ _ => rfl)) (jX jb9 rfl T.int jbe (ja (zt jlO (q_pv 5 (by rfl) (by first | exact Or.inl rfl | exact Or.inr (Or.inl rfl) | exact Or.inr (Or.inr rfl)) (by decide) (by decide)) (vc (by exact hu) (q_pv 1 (by rfl) (by first | exact Or.inl rfl | exact Or.inr (Or.inl rfl) | exact Or.inr (Or.inr rfl)) (by decide) (by decide)) ju (fun _ _ => rfl)) (jP _)) jc (by rfl)) ja8 uI (by rfl)))))))
 (je (js (jV (i := 6) sc_law_some_row.nd rfl (Or.inl zF) (vc hu (jb (i := 1) rfl (Or.inr (Or.inl yd)) vG vI) ju (fun _ _ => rfl)) (by rfl) (by first | exact .inl rfl | exact .inr rfl | assumption)))
 (je (js (jV (i := 7) sc_law_some_row.nd rfl (Or.inl j3) (zR (jv vM (jg c_law_next hr (by omega) j5 (ja (jb (i := 0) rfl (Or.inr (Or.inl jT)) jM jN) (ja jd jc (by rfl)) (by rfl)) jx jy (by rfl)) jd (jP _)) (jg c_law_next hr (by omega) j5 (ja (jb (i := 0) rfl (Or.inr (Or.inl jT)) jM jN) (ja (jz yn (jb (i := 6) rfl (Or.inl zF) yr yu) jd) jc (by rfl)) (by rfl)) jx jy (by rfl)) (jz jcE (jb (i := 6) rfl (Or.inl zF) yr yu) (jg c_law_next hr (by omega) j5 (ja (jb (i := 0) rfl (Or.inr (Or.inl jT)) jM jN) (ja jd jc (by rfl)) (by rfl)) jx jy (by rfl)))) (by rfl) (by first | exact .inl rfl | exact .inr rfl | assumption)))
 (je (js (jV (i := 7) sc_law_some_row.nd rfl (Or.inl j3) (jz yn (jb (i := 7) rfl (Or.inl j3) zp zq) (jz jcE (vc hu (jb (i := 1) rfl (Or.inr (Or.inl yd)) vG vI) ju (fun _ _ => rfl)) (jX jb9 jbS T.int jbe (ja (zt jf0 (jb (i := 7) rfl (Or.inl j3) zp zq) jd (jP _)) jc (by rfl)) ja8 uI (by rfl)))) (by rfl) (by first | exact .inl rfl | exact .inr rfl | assumption)))
 (je (js (jF (jv jii (jb (i := 2) rfl (Or.inl ze) yq yt) jd (jP _))
 (je (js (jV (i := 5) sc_law_some_row.nd rfl (Or.inl yH) (zR (jv jf0 (jg c_law_next hr (by omega) j5 (ja (jb (i := 0) rfl (Or.inr (Or.inl jT)) jM jN) (ja jd jc (by rfl)) (by rfl)) jx jy (by rfl)) jd (jP _)) (jz yn (jb (i := 6) rfl (Or.inl zF) yr yu) jd) (jz yn jd (jg c_law_next hr (by omega) j5 (ja (jb (i := 0) rfl (Or.inr (Or.inl jT)) jM jN) (ja (jz yn (jb (i := 6) rfl (Or.inl zF) yr yu) jd) jc (by rfl)) (by rfl)) jx jy (by rfl)))) (by rfl) (by first | exact .inl rfl | exact .inr rfl | assumption)))
 (je (jiQ hu (jb (i := 1) rfl (Or.inr (Or.inl yd)) vG vI) ju (jh (jjD rfl) jbR T.max jmm (ja (jb (i := 6) rfl (Or.inl zF) yr yu) (ja (jz yn (jb (i := 5) rfl (Or.inl yH) jbs jbw) jd) jc (by rfl)) (by rfl)) jl0 jls (by rfl)) rfl)
 (je (jV (i := 8) sc_law_some_row.nd rfl (Or.inl vN) (jW (ja (jz yn (jb (i := 5) rfl (Or.inl yH) jbs jbw) (vc hu (jb (i := 1) rfl (Or.inr (Or.inl yd)) vG vI) ju (fun _ _ => rfl))) (ja (jz yn (jz yn (jb (i := 5) rfl (Or.inl yH) jbs jbw) jd) (vc hu (jb (i := 1) rfl (Or.inr (Or.inl yd)) vG vI) ju (fun _ _ => rfl))) jc (by rfl)) (by rfl))) (by rfl) (by first | exact .inl rfl | exact .inr rfl | assumption))
 (jf (jm (jz jhJ (jz jhJ (jW (ja (jb (i := 7) rfl (Or.inl j3) zp zq) (ja ju jc (by rfl)) (by rfl))) (zR (jv jf0 (jg c_law_next hr (by omega) j5 (ja (jb (i := 0) rfl (Or.inr (Or.inl jT)) jM jN) (ja jd jc (by rfl)) (by rfl)) jx jy (by rfl)) jd (jP _)) (jb (i := 8) rfl (Or.inl vN) jcN jcS) (jiS (jb (i := 8) rfl (Or.inl vN) jcN jcS) (uD ja5 jd)))) (jW (ja (jC ix_list (jb (i := 3) rfl (Or.inl jJ) j8 j9) jd (fun _ _ => rfl)) jc (by rfl)))))))))
 jw))
 (je (js (jF (jv jii (jb (i := 2) rfl (Or.inl ze) yq yt) jd (jP _))
 (jf (jm (jW (ja (jb (i := 7) rfl (Or.inl j3) zp zq) (ja ju (ja (jC ix_list (jb (i := 3) rfl (Or.inl jJ) j8 j9) jd (fun _ _ => rfl)) (ja (jC ix_list (zc (ja (jg c_law_next hr (by omega) j5 (ja (jb (i := 0) rfl (Or.inr (Or.inl jT)) jM jN) (ja jd jc (by rfl)) (by rfl)) jx jy (by rfl)) (ja (jg c_law_next hr (by omega) j5 (ja (jb (i := 0) rfl (Or.inr (Or.inl jT)) jM jN) (ja jd jc (by rfl)) (by rfl)) jx jy (by rfl)) (ja (jg c_law_next hr (by omega) j5 (ja (jb (i := 0) rfl (Or.inr (Or.inl jT)) jM jN) (ja jd jc (by rfl)) (by rfl)) jx jy (by rfl)) jc (by rfl)) (by rfl)) (by rfl))) (jg c_law_next hr (by omega) j5 (ja (jb (i := 0) rfl (Or.inr (Or.inl jT)) jM jN) (ja jd jc (by rfl)) (by rfl)) jx jy (by rfl)) (fun _ _ => rfl)) jc (by rfl)) (by rfl)) (by rfl)) (by rfl)))))
 jw))
 (je (js (jF (jv jii (jb (i := 2) rfl (Or.inl ze) yq yt) jd (jP _))
 (jf (jm (jW (ja (jb (i := 7) rfl (Or.inl j3) zp zq) (ja (jC ix_list (zc (ja ju (ja ju jc (by rfl)) (by rfl))) (jz ja7 (jb (i := 2) rfl (Or.inl ze) yq yt) jd) (fun _ _ => rfl)) (ja (jC ix_list (jb (i := 3) rfl (Or.inl jJ) j8 j9) jd (fun _ _ => rfl)) (ja (jC ix_list (jb (i := 3) rfl (Or.inl jJ) j8 j9) jd (fun _ _ => rfl)) jc (by rfl)) (by rfl)) (by rfl)) (by rfl)))))
 jw))
 (je (js (jF (jv jii (jb (i := 2) rfl (Or.inl ze) yq yt) jd (jP _))
 (je (jV (i := 9) sc_law_some_row.nd rfl (Or.inl gQ) (jC ix_list (zc (ja ju (ja ju (ja ju (ja ju (ja ju (ja ju (ja ju jc (by rfl)) (by rfl)) (by rfl)) (by rfl)) (by rfl)) (by rfl)) (by rfl))) (jg c_law_next hr (by omega) j5 (ja (jb (i := 0) rfl (Or.inr (Or.inl jT)) jM jN) (ja jd jc (by rfl)) (by rfl)) jx jy (by rfl)) (fun _ _ => rfl)) (by rfl) (by first | exact .inl rfl | exact .inr rfl | assumption))
 (jf (jm (jW (ja (jb (i := 7) rfl (Or.inl j3) zp zq) (ja (jb (i := 9) rfl (Or.inl gQ) jgm jgy) (ja (jC ix_list (jb (i := 3) rfl (Or.inl jJ) j8 j9) jd (fun _ _ => rfl)) (ja (jC ix_list (jb (i := 3) rfl (Or.inl jJ) j8 j9) jd (fun _ _ => rfl)) (ja (jC ix_list (jb (i := 3) rfl (Or.inl jJ) j8 j9) jd (fun _ _ => rfl)) jc (by rfl)) (by rfl)) (by rfl)) (by rfl)) (by rfl))))))
 jw))
 (je (js (jF (jv vM (jb (i := 2) rfl (Or.inl ze) yq yt) jd (jP _))
 (jf (jm (jW (ja (jb (i := 7) rfl (Or.inl j3) zp zq) (ja ju (ja (jC ix_list (jb (i := 3) rfl (Or.inl jJ) j8 j9) jd (fun _ _ => rfl)) (ja (jC ix_list (jb (i := 3) rfl (Or.inl jJ) j8 j9) jd (fun _ _ => rfl)) jc (by rfl)) (by rfl)) (by rfl)) (by rfl)))))
 jw))
 (je (js (jF (jv vM (jb (i := 2) rfl (Or.inl ze) yq yt) jd (jP _))
 (jf (jm (jW (ja (jb (i := 7) rfl (Or.inl j3) zp zq) (ja ju (ja (jC ix_list (jb (i := 3) rfl (Or.inl jJ) j8 j9) jd (fun _ _ => rfl)) (ja (jC ix_list (jb (i := 3) rfl (Or.inl jJ) j8 j9) jd (fun _ _ => rfl)) jc (by rfl)) (by rfl)) (by rfl)) (by rfl)))))
 jw))
 (jf (jm (jW (ja (jb (i := 7) rfl (Or.inl j3) zp zq) (ja (zR (yD (jbD (jv vM (jb (i := 2) rfl (Or.inl ze) yq yt) jd (jP _)) (jah (jv vM (jg c_law_next hr (by omega) j5 (ja (jb (i := 0) rfl (Or.inr (Or.inl jT)) jM jN) (ja jd jc (by rfl)) (by rfl)) jx jy (by rfl)) jd (jP _))))) ju ju) (ja (jC ix_list (jb (i := 3) rfl (Or.inl jJ) j8 j9) jd (fun _ _ => rfl)) jc (by rfl)) (by rfl)) (by rfl)))))))))))))))))),?_⟩
 have nw : w ≠ d := fun z => by obtain ⟨_,_,_,_,hd,_⟩ := D;rw [z,hd] at hw;cases hw
 have sz : (1000 : Nat) < sizeLine := by rw [sizeLine_eq];decide
 have w1 := W.m1
 have w2 := W.m9
 have w3 := W.d0
 have w4 := W.d9
 have w5 := W.f0
 have w6 := W.f9
 have w7 := W.o0
 have w8 := W.o9
 refine zf fun R hR => ?_
 walk_at "rd"
 refine yX D fun wy H1 a1 b1 D1 k1 => hR _ _ ?_
 clear hR R
 refine ut (fun σ H2 => ∃ (p : Addr) (xs : List Int),σ = [some (.ref d),some (.ref w),some (.int wy),some (.ref p),none,none,none,none,none,none] ∧ H2 p = some (.lst (xs.map V.int)) ∧ p ≠ d ∧ xs.length = 4 ∧ (∀ x ∈ xs,0 ≤ x ∧ x < my) ∧ DiceAt K H2 d a ∧ H2 w = some (.dK (kvW nm my md fr of_)) ∧ Keep d H H2) ?_ ?_
 ·have hw1 := k1 _ _ nw hw
  refine ⟨4,rfl,by decide,by decide,fun p hp => jhQ (lo := 0) (n := Int.toNat 4) (fun i H2 => ∃ xs : List Int,xs.length = i ∧ (∀ x ∈ xs,0 ≤ x ∧ x < my) ∧ H2 p = some (.lst (xs.map V.int)) ∧ DiceAt K H2 d a ∧ H2 w = some (.dK (kvW nm my md fr of_)) ∧ Keep d H H2) ⟨[],rfl,(fun _ h => by cases h),jj,D1.same (zi hp),zi hp _ _ hw1,k1.trans (Keep.same (zi hp))⟩ ?_ ?_⟩
  ·rintro i H2 hi ⟨xs,hl,hin,hp2,D2,hw2,k2⟩
   walk_at "rd"
   have np : p ≠ d := D1.ne hp
   have pw : w ≠ p := jt hw1 hp
   refine iteP True.intro ⟨_,jkf hw2,yX D2 (fun r H4 lr ur D4 k4 => ?_) (by omega) (by omega)⟩
   have hp4 := k4 _ _ np hp2
   exact ⟨_,hp4,by rw [List.length_map];have : i < 4 := hi;omega,xs ++ [r],by rw [List.length_append,hl];rfl,jhM hin ⟨lr,ur⟩,jhN,D4.wr np hp4,by rw [jB pw];exact k4 _ _ nw hw2,fun b o nb hb => by rw [jB (jt (k1 _ _ nb hb) hp)];exact k4 _ _ nb (k2 _ _ nb hb)⟩
  ·rintro H2 ⟨xs,hl,hin,hp2,D2,hw2,k2⟩
   exact ⟨p,xs,rfl,hp2,D1.ne hp,by rw [hl];rfl,hin,D2,hw2,k2⟩
 rintro σ H2 ⟨p,xs,rfl,hp2,np,hl,hin,D2,hw2,k2⟩
 refine ut (fun σ H3 => ∃ (p : Addr) (ys : List Int),σ = [some (.ref d),some (.ref w),some (.int wy),some (.ref p),none,none,none,none,none,none] ∧ H3 p = some (.lst (ys.map V.int)) ∧ p ≠ d ∧ ys.length = 4 ∧ (∀ x ∈ ys,In2 x) ∧ DiceAt K H3 d a ∧ H3 w = some (.dK (kvW nm my md fr of_)) ∧ Keep d H H3) ?_ ?_
 ·refine ⟨_,rfl,p,rfl,⟨_,SqL.of hp2⟩,fun p2 hq => jg8 (K := K) (a := p) (xs := xs.map V.int) (fun i H3 => ∃ ys : List Int,ys.length = i ∧ (∀ x ∈ ys,In2 x) ∧ H3 p2 = some (.lst (ys.map V.int)) ∧ H3 p = some (.lst (xs.map V.int)) ∧ DiceAt K H3 d a ∧ H3 w = some (.dK (kvW nm my md fr of_)) ∧ Keep d H H3) ⟨[],rfl,(fun _ h => by cases h),jj,zi hq _ _ hp2,D2.same (zi hq),zi hq _ _ hw2,k2.trans (Keep.same (zi hq))⟩ (fun i H3 _ ⟨_,_,_,_,h,_⟩ => SqL.of h) ?_ ?_⟩
  ·rintro i x H3 hx ⟨ys,hl3,hin3,hp3,hp4,D3,hw3,k3⟩
   walk_at "rd"
   have np2 : p2 ≠ d := D2.ne hq
   have pw : w ≠ p2 := jt hw2 hq
   have pp : p ≠ p2 := jt hp2 hq
   have hi : i < xs.length := by rw [← List.length_map (f := V.int)];exact (List.getElem?_eq_some_iff.mp hx).1
   rw [List.getElem?_map,List.getElem?_eq_getElem hi] at hx
   obtain rfl : V.int xs[i] = x := Option.some.inj hx
   have iz := hin _ (List.getElem_mem hi)
   refine iteP True.intro ⟨_,jlj hw3,_,jje hw3,_,rfl,_,rfl,.inr ⟨_,rfl,.inl ⟨by omega,by omega⟩,_,rfl,_,hp3,by rw [List.length_map];omega,ys ++ [_],by rw [List.length_append,hl3];rfl,jhM hin3 ?_,jhN,by rw [jB pp];exact hp4,D3.wr np2 hp3,by rw [jB pw];exact hw3,fun b o nb hb => by rw [jB (jt (k2 _ _ nb hb) hq)];exact k3 _ _ nb hb⟩⟩
   split
   ·exact ⟨by omega,by omega⟩
   ·exact ⟨by omega,by omega⟩
  ·rintro H3 ⟨ys,hl3,hin3,hp3,hp4,D3,hw3,k3⟩
   exact ⟨p2,ys,rfl,hp3,D2.ne hq,by rw [hl3,List.length_map];exact hl,hin3,D3,hw3,k3⟩
 clear hp2 np hl hin D2 hw2 k2
 rintro σ H3 ⟨p,ys,rfl,hp3,np,hl,hin,D3,hw3,k3⟩
 have hat : ∀ j : Nat,j < 4 → ∃ z,atI (ys.map V.int) (j : Int) = some (.int z) ∧ In2 z := fun j hj => by
  have hj' : j < ys.length := by omega
  exact ⟨ys[j],jby (j := j) rfl (by rw [List.getElem?_map,List.getElem?_eq_getElem hj'];rfl),hin _ (List.getElem_mem hj')⟩
 obtain ⟨z0,ez0,iz0⟩ := hat 0 (by decide)
 obtain ⟨z1,ez1,iz1⟩ := hat 1 (by decide)
 obtain ⟨z2,ez2,iz2⟩ := hat 2 (by decide)
 refine zf fun R hR => ?_
 walk_at "rd"
 refine ⟨_,jhS hw3,hR _ _ ?_⟩
 clear hR R
 refine ut (fun σ H4 => ∃ te : Int,σ = [some (.ref d),some (.ref w),some (.int wy),some (.ref p),none,none,some (.int md),some (.int te),none,none] ∧ 0 ≤ te ∧ te ≤ md ∧ DiceAt K H4 d a ∧ Keep d H3 H4) ?_ ?_
 ·walk_at "rd"
  refine yX D3 fun r1 H4 l1 u1 D4 k4 => ⟨rfl,?_⟩
  by_cases hr1 : r1 = 0
  ·exact iteP (by rw [hr1]) (yX D4 (fun r2 H5 l2 u2 D5 k5 => ⟨r2,rfl,l2,by omega,D5,k4.trans k5⟩) (by omega) (by omega))
  ·refine iteN (fun z => hr1 (V.int.inj z)) (yX D4 fun r2 H5 l2 u2 D5 k5 => ⟨r2,rfl,.inr ⟨by omega,by omega⟩,?_⟩)
   rcases (show r2 = 0 ∨ r2 = 1 by omega) with rfl | rfl
   ·exact ⟨by omega,by omega,D5,k4.trans k5⟩
   ·exact ⟨by omega,by omega,D5,k4.trans k5⟩
 rintro σ H4 ⟨te,rfl,t0,t1,D4,k4⟩
 have hw4 := k4 _ _ nw hw3
 have hp4 := k4 _ _ np hp3
 refine ut (fun σ H4 => ∃ te : Int,σ = [some (.ref d),some (.ref w),some (.int wy),some (.ref p),none,none,some (.int md),some (.int te),none,none] ∧ (In2 te ∧ (te = 0 ∨ (of_ + 1 ≤ te ∧ te ≤ of_ + md))) ∧ DiceAt K H4 d a ∧ Keep d H3 H4) ?_ ?_
 ·walk_at "rd"
  refine ⟨_,jfk hw4,.inr ⟨_,rfl,.inl ⟨by omega,by omega⟩,?_,D4,k4⟩⟩
  split
  ·exact ⟨⟨by omega,by omega⟩,.inr ⟨by omega,by omega⟩⟩
  ·exact ⟨⟨by omega,by omega⟩,.inl (by omega)⟩
 clear t0 t1 D4 k4 te hw4 hp4
 rintro σ H4 ⟨te,rfl,⟨it,ib⟩,D4,k4⟩
 have hw4 := k4 _ _ nw hw3
 have hp4 := k4 _ _ np hp3
 have k04 := k3.trans k4
 refine zf fun R hR => ?_
 walk_at "rd"
 by_cases c4 : wy < 4
 ·refine iteP c4 (jl3 (fun σ H5 => ∃ one : Int,σ = [some (.ref d),some (.ref w),some (.int wy),some (.ref p),none,some (.int one),some (.int md),some (.int te),none,none] ∧ 1 ≤ one ∧ one ≤ md + 1 ∧ DiceAt K H5 d a ∧ Keep d H4 H5) ?_ ?_)
  ·walk_at "rd"
   refine yX D4 fun r1 H5 l1 u1 D5 k5 => ⟨r1,rfl,?_⟩
   by_cases hr1 : 0 < r1
   ·exact iteP hr1 ⟨by omega,by omega,D5,k5⟩
   ·exact iteN hr1 (yX D5 (fun r2 H6 l2 u2 D6 k6 => ⟨r2,rfl,by omega,by omega,D6,k5.trans k6⟩) (by omega) (by omega))
  rintro σ H5 ⟨one,rfl,o1,o2,D5,k5⟩
  clear hR
  walk_at "rd"
  have hw5 := k5 _ _ nw hw4
  have hp5 := k5 _ _ np hp4
  have k05 := k04.trans k5
  have pw : p ≠ w := fun z => by rw [z,hw5] at hp5;cases hp5
  refine ⟨_,_,⟨rfl,rfl⟩,_,jli hw5,_,jfk jj,_,rfl,_,jfk jj,_,rfl,by decide,?_⟩
  obtain ⟨md',hmd⟩ : ∃ md' : Int,md' = if one + 1 > md then one + 1 else md := ⟨_,rfl⟩
  rw [← hmd]
  have m1 : md ≤ md' := by rw [hmd];split <;> omega
  have m2 : md' ≤ md + 2 := by rw [hmd];split <;> omega
  have D6 := D5.wrK (o := .dK (kvW nm my md' fr of_)) hw5
  have e6 : (upd H5 w (.dK (kvW nm my md' fr of_))) w = some (.dK (kvW nm my md' fr of_)) := jj
  have k6 : Keep w H5 (upd H5 w (.dK (kvW nm my md' fr of_))) := fun b o nb hb => by rw [jB nb];exact hb
  revert D6 e6 k6
  generalize upd H5 w (.dK (kvW nm my md' fr of_)) = H6
  intro D6 e6 k6
  have hp6 := k6 _ _ pw hp5
  refine fun p1 H7 f1 S1 e1 => ⟨by decide,fun p2 H8 f2 S2 e2 => yX ((D6.same S1).same S2) fun r H9 lr ur D9 k9 => ⟨r,rfl,?_⟩⟩
  have n1 : p1 ≠ d := D6.ne f1
  have n2 : p2 ≠ d := (D6.same S1).ne f2
  have hp9 : H9 p = some (.lst (ys.map V.int)) := by walk_at "at"
  have e9 : H9 p1 = some (.tup [V.int (one + of_),V.int (one + 1 + of_)]) := by walk_at "at"
  have e9' : H9 p2 = some (.tup [V.int te,V.str "test"]) := by walk_at "at"
  have w9 : H9 w = some (.dK (kvW nm my md' fr of_)) := by walk_at "at"
  have k09 : Keep2g d w H H9 := fun b o n1 n2 hb => k9 _ _ n1 (S2 _ _ (S1 _ _ (k6 _ _ n2 (k05 _ _ n1 hb))))
  have fin : ∀ (x y : Int) (p3 : Addr) (H10 : Hp),(1 ≤ x ∧ x ≤ 1999) → (1 ≤ y ∧ y ≤ 1999) → x ≠ y → (∀ z,(z = x ∨ z = y) ↔ (z = one + of_ ∨ z = one + 1 + of_)) → Same H9 H10 → H10 p3 = some (.tup [.int te,.str "test",.int x,.int y]) → ∃ x_5,SqL K H10 p x_5 ∧ ∃ x_6,atI x_5 0 = some x_6 ∧ 1 ≤ sizeLine ∧ ∀ (p_4 : Addr) (H2 : Hp),H10 p_4 = none → Same H10 H2 → H2 p_4 = some (HO.tup [x_6]) → ∃ x_7,SqT K H2 p3 x_7 ∧ ∃ x_8,SqT K H2 p_4 x_8 ∧ x_7 ≠ [] ∧ x_8 ≠ [] ∧ x_7.length + x_8.length ≤ sizeLine ∧ ∀ (p_5 : Addr) (H3 : Hp),H2 p_5 = none → Same H2 H3 → H3 p_5 = some (HO.tup (x_7 ++ x_8)) → Q (V.ref p_5) H3 := by
   intro x y p3 H10 hx hy hne hxy S10 e10
   refine ⟨_,SqL.of (S10 _ _ hp9),_,ez0,by decide,fun p4 H11 f4 S4 e4 => ⟨_,SqT.of (S4 _ _ e10),_,SqT.of e4,(by intro z;cases z),(by intro z;cases z),(by show 4 + 1 ≤ sizeLine;omega),fun p5 H12 f5 S5 e5 => ?_⟩⟩
   exact q p5 H12 (.test te x y z0) md' ⟨it,hx,hy,hne,iz0⟩ ⟨ib,.inr ⟨one,o1,o2,hmd,fun z => by simp only [Row.makes,List.mem_cons,List.not_mem_nil,or_false];exact hxy z⟩⟩ e5 m1 m2 (S5 _ _ (S4 _ _ (S10 _ _ w9))) (((D9.same S10).same S4).same S5) fun b o n1 n2 hb => S5 _ _ (S4 _ _ (S10 _ _ (k09 _ _ n1 n2 hb)))
  by_cases hr1 : 0 < r
  ·refine iteP hr1 ⟨_,SqT.of e9',_,SqT.of e9,(by intro z;cases z),(by intro z;cases z),(by show 2 + 2 ≤ sizeLine;omega),fun p3 H10 f3 S3 e3 => ?_⟩
   exact fin _ _ p3 H10 ⟨by omega,by omega⟩ ⟨by omega,by omega⟩ (by omega) (fun z => Iff.rfl) S3 e3
  ·refine iteN hr1 ⟨_,SqT.of e9,fun p0 H0 f0 S0 e0 => ⟨_,SqT.of (S0 _ _ e9'),_,SqT.of e0,(by intro z;cases z),(by intro z;cases z),(by show 2 + 2 ≤ sizeLine;omega),fun p3 H10 f3 S3 e3 => ?_⟩⟩
   exact fin _ _ p3 H10 ⟨by omega,by omega⟩ ⟨by omega,by omega⟩ (by omega) (fun z => Or.comm) (S0.trans S3) e3
 refine iteN c4 (hR _ _ ?_)
 clear hR R
 have fin : ∀ (t : Addr) (H' : Hp) (r : Row),r.ok → H' t = some (.tup r.vs) → DiceAt K H' d a → Keep d H4 H' → (et : r.t = te := by rfl) → (em : r.makes = [] := by rfl) → Q (.ref t) H' := fun t H' r hr ht D' k' et em => q t H' r md hr ⟨by rw [et];exact ib,.inl ⟨em,rfl⟩⟩ ht (by omega) (by omega) (k' _ _ nw hw4) D' fun b o n1 _ hb => k' _ _ n1 (k04 _ _ n1 hb)
 refine zf fun R hR => ?_
 walk_at "rd"
 by_cases c6 : wy < 6
 ·refine iteP c6 ⟨_,SqL.of hp4,_,ez0,yX D4 fun r1 H5 l1 u1 D5 k5 => yX D5 fun r2 H6 l2 u2 D6 k6 => yX D6 fun r3 H7 l3 u3 D7 k7 => ⟨by decide,fun p1 H8 f1 S1 e1 => yX (D7.same S1) fun r4 H9 l4 u4 D9 k9 => ?_⟩⟩
  have n1 : p1 ≠ d := D7.ne f1
  obtain ⟨z,hz,ez⟩ := jh6 (ns := [r1,r2,r3]) l4 u4
  have iz : InR z := by
   simp only [List.mem_cons,List.not_mem_nil,or_false] at hz
   rcases hz with rfl | rfl | rfl <;> exact ⟨by omega,by omega⟩
  exact ⟨_,r4,rfl,SqL.of (k9 _ _ n1 e1),_,ez,by decide,fun p2 H10 f2 S2 e2 => fin p2 H10 (.num te z0 z) ⟨it,iz0,iz⟩ e2 (D9.same S2) (k5.trans (k6.trans (k7.trans ((Keep.same S1).trans (k9.trans (Keep.same S2))))))⟩
 refine iteN c6 (hR _ _ ?_)
 clear hR R
 refine zf fun R hR => ?_
 walk_at "rd"
 by_cases c8 : wy < 8
 ·refine iteP c8 ⟨by decide,fun p1 H5 f1 S1 e1 => ?_⟩
  rcases (show wy = 6 ∨ wy = 7 by omega) with rfl | rfl
  ·exact ⟨_,SqL.of e1,_,rfl,_,SqL.of (S1 _ _ hp4),_,ez0,_,SqL.of (S1 _ _ hp4),_,ez1,by decide,fun p2 H6 f2 S2 e2 => fin p2 H6 (.copy te z0 z1) ⟨it,iz0,iz1⟩ e2 ((D4.same S1).same S2) (Keep.same (S1.trans S2))⟩
  ·exact ⟨_,SqL.of e1,_,rfl,_,SqL.of (S1 _ _ hp4),_,ez0,_,SqL.of (S1 _ _ hp4),_,ez1,by decide,fun p2 H6 f2 S2 e2 => fin p2 H6 (.not te z0 z1) ⟨it,iz0,iz1⟩ e2 ((D4.same S1).same S2) (Keep.same (S1.trans S2))⟩
 refine iteN c8 (hR _ _ ?_)
 clear hR R
 refine zf fun R hR => ?_
 walk_at "rd"
 by_cases c12 : wy < 12
 ·refine iteP c12 ⟨by decide,fun p1 H5 f1 S1 e1 => yX (D4.same S1) fun r H6 lr ur D6 k6 => ?_⟩
  have n1 : p1 ≠ d := D4.ne f1
  have hp6 := k6 _ _ np (S1 _ _ hp4)
  have opW : ∃ wd : Op2,(wd ≠ .and ∧ wd ≠ .or) ∧ atI [V.str "add",V.str "take",V.str "times",V.str "less",V.str "same",V.str "over",V.str "rest"] r = some (.str wd.str) := by
   rcases (show r = 0 ∨ r = 1 ∨ r = 2 ∨ r = 3 ∨ r = 4 ∨ r = 5 ∨ r = 6 by omega) with rfl | rfl | rfl | rfl | rfl | rfl | rfl
   ·exact ⟨.add,⟨by decide,by decide⟩,rfl⟩
   ·exact ⟨.take,⟨by decide,by decide⟩,rfl⟩
   ·exact ⟨.times,⟨by decide,by decide⟩,rfl⟩
   ·exact ⟨.less,⟨by decide,by decide⟩,rfl⟩
   ·exact ⟨.same,⟨by decide,by decide⟩,rfl⟩
   ·exact ⟨.over,⟨by decide,by decide⟩,rfl⟩
   ·exact ⟨.rest,⟨by decide,by decide⟩,rfl⟩
  obtain ⟨wd,hwd,ewd⟩ := opW
  exact ⟨_,r,rfl,SqL.of (k6 _ _ n1 e1),_,ewd,_,SqL.of hp6,_,ez0,_,SqL.of hp6,_,ez1,_,SqL.of hp6,_,ez2,by decide,fun p2 H7 f2 S2 e2 => fin p2 H7 (.op wd te z0 z1 z2) ⟨hwd,it,iz0,iz1,iz2⟩ e2 (D6.same S2) ((Keep.same S1).trans (k6.trans (Keep.same S2)))⟩
 refine iteN c12 (hR _ _ ?_)
 clear hR R
 refine zf fun R hR => ?_
 walk_at "rd"
 refine ⟨rfl,?_⟩
 by_cases c13 : wy = 12
 ·refine iteP c13 ⟨_,SqL.of hp4,_,ez0,_,SqL.of hp4,_,ez1,by decide,fun p2 H6 f2 S2 e2 => fin p2 H6 (.get te z0 z1) ⟨it,iz0,iz1⟩ e2 (D4.same S2) (Keep.same S2)⟩
 refine iteN c13 (hR _ _ ?_)
 clear hR R
 refine zf fun R hR => ?_
 walk_at "rd"
 refine ⟨rfl,?_⟩
 by_cases c14 : wy = 13
 ·refine iteP c14 ⟨_,SqL.of hp4,_,ez0,_,SqL.of hp4,_,ez1,by decide,fun p2 H6 f2 S2 e2 => fin p2 H6 (.put te z0 z1) ⟨it,iz0,iz1⟩ e2 (D4.same S2) (Keep.same S2)⟩
 refine iteN c14 (hR _ _ ?_)
 clear hR R
 walk_at "rd"
 refine ⟨rfl,?_⟩
 by_cases c15 : wy = 14
 ·refine iteP c15 (yX D4 fun r H5 lr ur D5 k5 => ⟨rfl,?_⟩)
  have hp5 := k5 _ _ np hp4
  by_cases c0 : r = 0
  ·exact iteP (by rw [c0]) ⟨_,SqL.of hp5,_,ez0,by decide,fun p2 H6 f2 S2 e2 => fin p2 H6 (.stop te z0) ⟨it,iz0⟩ e2 (D5.same S2) (k5.trans (Keep.same S2))⟩
  ·exact iteN (fun z => c0 (V.int.inj z)) ⟨_,SqL.of hp5,_,ez0,by decide,fun p2 H6 f2 S2 e2 => fin p2 H6 (.say te z0) ⟨it,iz0⟩ e2 (D5.same S2) (k5.trans (Keep.same S2))⟩
 ·exact iteN c15 (iteN nof ⟨_,SqL.of hp4,_,ez0,by decide,fun p2 H6 f2 S2 e2 => fin p2 H6 (.say te z0) ⟨it,iz0⟩ e2 (D4.same S2) (Keep.same S2)⟩)
end
end K3
end
section
namespace K3
open PySem L2
section
variable {P : Program} {w : World} {K : PySem.W.Frag} {mg : Str → Option Value} {base : Heap} {f : Addr} {fd : FuncData}
abbrev jZ : Stmt := top 47
theorem sc_law_some_rows : FnScope ["_law_d", "_law_names", "_law_most", "_law_wide", "_law_w", "_law_rows", "_law_k"] ["_law_d", "_law_names", "_law_most"] (defScope jZ) := ⟨rfl,rfl,rfl,by decide +kernel,rfl,by decide +kernel,by decide +kernel⟩
theorem uT : (defScope jZ).names.lookup ("_law_names" : Str) = some .local := by decide +kernel
theorem jce : (defScope jZ).names.lookup ("_law_most" : Str) = some .local := by decide +kernel
theorem uS : (defScope jZ).names.lookup ("_law_wide" : Str) = some .local := by decide +kernel
theorem uR : (defScope jZ).names.lookup ("_law_rows" : Str) = some .local := by decide +kernel
theorem zS : (defScope jZ).names.lookup ("_law_d" : Str) = some .cell := by decide +kernel
theorem yz : (defScope jZ).names.lookup ("_law_w" : Str) = some .cell := by decide +kernel
theorem zg : (defScope jZ).names.lookup ("_law_next" : Str) = some .globalImplicit := by decide +kernel
theorem jav : (defScope jZ).names.lookup ("tuple" : Str) = some .globalImplicit := by decide +kernel
theorem jaw : (defScope jZ).names.lookup ("range" : Str) = some .globalImplicit := by decide +kernel
abbrev jU : Stmt := top 48
theorem sc_law_some_goes : FnScope ["_law_d", "_law_made", "_law_off", "_law_many", "_law_found", "_law_k", "_law_test"] ["_law_d", "_law_made", "_law_off", "_law_many"] (defScope jU) := ⟨rfl,rfl,rfl,by decide +kernel,rfl,by decide +kernel,by decide +kernel⟩
theorem zT : (defScope jU).names.lookup ("_law_d" : Str) = some .local := by decide +kernel
theorem jch : (defScope jU).names.lookup ("_law_made" : Str) = some .local := by decide +kernel
theorem jcg : (defScope jU).names.lookup ("_law_off" : Str) = some .local := by decide +kernel
theorem uU : (defScope jU).names.lookup ("_law_many" : Str) = some .local := by decide +kernel
theorem vm : (defScope jU).names.lookup ("_law_found" : Str) = some .local := by decide +kernel
theorem jcf : (defScope jU).names.lookup ("_law_k" : Str) = some .local := by decide +kernel
theorem vj : (defScope jU).names.lookup ("_law_test" : Str) = some .local := by decide +kernel
theorem jay : (defScope jU).names.lookup ("range" : Str) = some .globalImplicit := by decide +kernel
theorem zh : (defScope jU).names.lookup ("_law_next" : Str) = some .globalImplicit := by decide +kernel
theorem jax : (defScope jU).names.lookup ("tuple" : Str) = some .globalImplicit := by decide +kernel
theorem jbn : (defScope jU).names.lookup ("int" : Str) = some .globalImplicit := by decide +kernel
abbrev jA : Stmt := top 49
theorem sc_law_some_tested : FnScope ["_law_d", "_law_most", "_law_ins", "_law_names", "_law_many", "_law_pieces", "_law_k", "_law_rows", "_law_made", "_law_off"] ["_law_d", "_law_most"] (defScope jA) := ⟨rfl,rfl,rfl,by decide +kernel,rfl,by decide +kernel,by decide +kernel⟩
theorem zC : (defScope jA).names.lookup ("_law_d" : Str) = some .local := by decide +kernel
theorem jbi : (defScope jA).names.lookup ("_law_most" : Str) = some .local := by decide +kernel
theorem yP : (defScope jA).names.lookup ("_law_ins" : Str) = some .local := by decide +kernel
theorem yO : (defScope jA).names.lookup ("_law_names" : Str) = some .local := by decide +kernel
theorem yN : (defScope jA).names.lookup ("_law_many" : Str) = some .local := by decide +kernel
theorem yM : (defScope jA).names.lookup ("_law_pieces" : Str) = some .local := by decide +kernel
theorem jbh : (defScope jA).names.lookup ("_law_k" : Str) = some .local := by decide +kernel
theorem ub : (defScope jA).names.lookup ("_law_rows" : Str) = some .local := by decide +kernel
theorem ua : (defScope jA).names.lookup ("_law_made" : Str) = some .local := by decide +kernel
theorem v9 : (defScope jA).names.lookup ("_law_off" : Str) = some .local := by decide +kernel
theorem zE : (defScope jA).names.lookup ("_law_next" : Str) = some .globalImplicit := by decide +kernel
theorem gy : (defScope jA).names.lookup ("range" : Str) = some .globalImplicit := by decide +kernel
theorem vp : (defScope jA).names.lookup ("_law_some_rows" : Str) = some .globalImplicit := by decide +kernel
theorem gx : (defScope jA).names.lookup ("tuple" : Str) = some .globalImplicit := by decide +kernel
theorem vq : (defScope jA).names.lookup ("_law_some_goes" : Str) = some .globalImplicit := by decide +kernel
theorem DiceAt.keepK {H H' : Hp} {d a p : Addr} {kvs : List (Key × V)} (D : DiceAt K H d a) (h : H p = some (.dK kvs)) (k : Keep p H H') : DiceAt K H' d a := by
 obtain ⟨ns,i,m,c,hd,sc,r⟩ := D
 exact ⟨ns,i,m,c,k _ _ (fun z => by rw [z,h] at hd;cases hd) hd,sc.keep (fun o u z => k _ _ (fun y => by rw [y,h] at z;cases z) z),r⟩
theorem Keep2g.tups {H H' : Hp} {d a w : Addr} {kvs : List (Key × V)} (D : DiceAt K H d a) (hw : H w = some (.dK kvs)) (k : Keep2g d w H H') : TupKeep H H' := fun b xs hb => by
 obtain ⟨ns,_,m,c,hd,_⟩ := D
 exact k b _ (fun z => by rw [z,hd] at hb;cases hb) (fun z => by rw [z,hw] at hb;cases hb) hb
def jm4 (K : PySem.W.Frag) (H : Hp) (d a w p : Addr) (nm my fr of_ : Int) (i : Nat) (H5 : Hp) : Prop := ∃ (rvs : List V) (rows : List Row) (md : Int),rows.length = i ∧ (∀ r ∈ rows,r.ok) ∧ H5 p = some (.lst rvs) ∧ AllAt (RowAt K H5) rows rvs ∧ H5 w = some (.dK (kvW nm my md fr of_)) ∧ 0 ≤ md ∧ md ≤ 2 * i ∧ DiceAt K H5 d a ∧ Keep d H H5
def jm6 (K : PySem.W.Frag) (H : Hp) (d a p : Addr) (md of_ : Int) (many : Nat) (i : Nat) (σ : St) (H2 : Hp) : Prop := ∃ (v1 v2 : Option V) (gvs : List V) (gs : List (Int × Int)),σ = [some (.ref d),some (.int md),some (.int of_),some (.int many),some (.ref p),v1,v2] ∧ H2 p = some (.lst gvs) ∧ AllAt (GoAt K H2) gs gvs ∧ gs.length = i ∧ (∀ g ∈ gs,GoOk many g) ∧ DiceAt K H2 d a ∧ Keep d H H2
theorem jfh {α : Type} {P : α → Prop} {xs : List α} {z : α} (h : ∀ x ∈ xs,P x) (hz : P z) : ∀ x ∈ xs ++ [z],P x := fun x hx => by
 rcases List.mem_append.mp hx with h1 | h1
 ·exact h x h1
 ·rw [List.mem_singleton.mp h1];exact hz
def jkP (K : PySem.W.Frag) : Sp := fun vs H Q _ => ∃ (d a : Addr) (nm : Int) (most : Nat),vs = [.ref d,.int nm,.int most] ∧ DiceAt K H d a ∧ 0 ≤ nm ∧ nm ≤ 70 ∧ most ≤ 40 ∧ ∀ (t ra : Addr) (rvs : List V) (rows : List Row) (md of_ : Int) (H' : Hp),rows.length ≤ most → (∀ r ∈ rows,r.ok) → H' t = some (.tup [.ref ra,.int md,.int of_]) → H' ra = some (.tup rvs) → AllAt (RowAt K H') rows rvs → 0 ≤ md → md ≤ 96 → 0 ≤ of_ → of_ ≤ 1900 → DiceAt K H' d a → Keep d H H' → Q (.ref t) H'
theorem jlT (F : Fun K "_law_some_rows" "_law_some_rows" jZ f fd) (T : TT mg) (c_law_next : Cal P w K mg base CX0 "_law_next" 1 ["_law_dice_here", "_law_many"] (jcD K)) (c_law_some_row : Cal P w K mg base CX0 "_law_some_row" 2 ["_law_d", "_law_w"] (spSR K)) : FnOk P w K mg base CX0 3 f fd ["_law_d", "_law_names", "_law_most"] (jkP K) := by
 refine F.ok sc_law_some_rows (fun vs H Q E h => ?_) (fun cdv A outer s H vs Q E hr h => ?_)
 ·obtain ⟨d,a,nm,most,rfl,_⟩ := h
  rfl
 obtain ⟨d,a,nm,most,rfl,D,n0,n9,hm,q⟩ := h
 have hu := jkh hr
 have sz : (1000 : Nat) < sizeLine := by rw [sizeLine_eq];decide
 refine ⟨_,(QSs.h (je (js (jV (i := 3) sc_law_some_rows.nd rfl (Or.inl uS) (jg c_law_next hr (by omega) j5 (ja (jb (i := 0) rfl (Or.inr (Or.inl zS)) jM jN) (ja jd jc (by rfl)) (by rfl)) zg jy (by rfl)) (by rfl) (by first | exact .inl rfl | exact .inr rfl | assumption)))
 (je (js (jV (i := 4) sc_law_some_rows.nd rfl (Or.inr yz) (jeE (uO ju (jb (i := 1) rfl (Or.inl uT) ve vf) (uO ju (jz yn (jb (i := 1) rfl (Or.inl uT) ve vf) (zR (jv vM (jb (i := 3) rfl (Or.inl uS) jgn jgz) jd (jP _)) jd (jz yn jd (jg c_law_next hr (by omega) j5 (ja (jb (i := 0) rfl (Or.inr (Or.inl zS)) jM jN) (ja jd jc (by rfl)) (by rfl)) zg jy (by rfl))))) (uO ju jd jfV))) rfl rfl (fun h => by cases h) (by decide)) (by rfl) (by first | exact .inl rfl | exact .inr rfl | assumption)))
 (je (js (zQ (jiV (jb (i := 4) rfl (Or.inr (Or.inl yz)) vG vI) (jeE (uO ju (jC ix_list (zc (ja jd (ja jd (ja jd jc (by rfl)) (by rfl)) (by rfl))) (jg c_law_next hr (by omega) j5 (ja (jb (i := 0) rfl (Or.inr (Or.inl zS)) jM jN) (ja jd jc (by rfl)) (by rfl)) zg jy (by rfl)) (fun _ _ => rfl)) (uO ju (jC ix_list (zc (ja jd (ja jd (ja jd jc (by rfl)) (by rfl)) (by rfl))) (jg c_law_next hr (by omega) j5 (ja (jb (i := 0) rfl (Or.inr (Or.inl zS)) jM jN) (ja jd jc (by rfl)) (by rfl)) zg jy (by rfl)) (fun _ _ => rfl)) jfV)) rfl rfl (fun h => by cases h) (by decide)) (jl4 rfl rfl rfl)) (by rfl)))
 (je (js (jV (i := 5) sc_law_some_rows.nd rfl (Or.inl uR) (jX uo jav T.tuple zN (ja (jak (own := [("_law_k",6)]) (g := (gName 6)) rfl sc_law_some_rows.nd (ym jaw T.range (ja (jhI (jg c_law_next hr (by omega) j5 (ja (jb (i := 0) rfl (Or.inr (Or.inl zS)) jM jN) (ja (jz yn (jb (i := 2) rfl (Or.inl jce) jcO jcT) jd) jc (by rfl)) (by rfl)) zg jy (by rfl))) jc (by rfl)) (by rfl)) (yC (own := [("_law_k",6)]) (N := ["_law_d", "_law_names", "_law_most", "_law_wide", "_law_w", "_law_rows", "_law_k"]) (sc := defScope jZ) (by decide +kernel)) (fun _ _ _ _ _ => (jp (i := 6) sc_law_some_rows.nd rfl (Or.inl rfl) (by first | exact .inl rfl | exact .inr rfl | assumption))) (fun _ _ _ _ _ => zP) (fun _ _ _ _ _ => (jg c_law_some_row hr (by omega) j5 (ja (q_pv 0 (by rfl) (by first | exact Or.inl rfl | exact Or.inr (Or.inl rfl) | exact Or.inr (Or.inr rfl)) (by decide) (by decide)) (ja (q_pv 4 (by rfl) (by first | exact Or.inl rfl | exact Or.inr (Or.inl rfl) | exact Or.inr (Or.inr rfl)) (by decide) (by decide)) jc (by rfl)) (by rfl)) rfl jdd (by rfl)))) jc (by rfl)) zM zy (by rfl)) (by rfl) (by first | exact .inl rfl | exact .inr rfl | assumption)))
 (jf (jm (jW (ja (jb (i := 5) rfl (Or.inl uR) jaH jaK) (ja (vc hu (jb (i := 4) rfl (Or.inr (Or.inl yz)) vG vI) ju (fun _ _ => rfl)) (ja (vc hu (jb (i := 4) rfl (Or.inr (Or.inl yz)) vG vI) ju (fun _ _ => rfl)) jc (by rfl)) (by rfl)) (by rfl)))))))))),?_⟩
 refine ut (fun σ H2 => ∃ wi : Int,σ = [some (.ref d),some (.int nm),some (.int most),some (.int wi),none,none,none] ∧ DiceAt K H2 d a ∧ Keep d H H2) ?_ ?_
 ·walk_at "rd"
  exact yX D fun r H1 lr ur D1 k1 => ⟨r,rfl,D1,k1⟩
 rintro σ Hw ⟨wi,rfl,Dw,kw⟩
 refine ut (fun σ H2 => ∃ (w : Addr) (my : Int),σ = [some (.ref d),some (.int nm),some (.int most),some (.int wi),some (.ref w),none,none] ∧ H2 w = some (.dK [(.inr "names",.int nm),(.inr "many",.int my),(.inr "made",.int 0)]) ∧ 1 ≤ my ∧ my ≤ 99 ∧ H w = none ∧ DiceAt K H2 d a ∧ Keep d H H2) ?_ ?_
 ·walk_at "rd"
  intro p H1 f1 S1 e1
  have f0 : H p = none := by
   cases e : H p with
   | none => rfl
   | some o => rw [kw _ _ (Dw.ne f1) e] at f1;cases f1
  refine ⟨rfl,?_⟩
  by_cases hw0 : wi = 0
  ·exact iteP hw0 ⟨e1,[(.inr "names",.int nm),(.inr "many",.int (nm + 20)),(.inr "made",.int 0)],rfl,(by show 3 ≤ 15;decide),fun H3 k3 e3 => ⟨_,e3,by omega,by omega,f0,(Dw.same S1).keepK e1 k3,fun b o nb hb => k3 _ _ (jt hb f0) (S1 _ _ (kw _ _ nb hb))⟩⟩
  ·exact iteN hw0 (yX (Dw.same S1) fun r H2 lr ur D2 k2 => ⟨r,rfl,k2 _ _ (Dw.ne f1) e1,[(.inr "names",.int nm),(.inr "many",.int (nm + (2 + r))),(.inr "made",.int 0)],rfl,(by show 3 ≤ 15;decide),fun H3 k3 e3 => ⟨_,e3,by omega,by omega,f0,D2.keepK (k2 _ _ (Dw.ne f1) e1) k3,fun b o nb hb => k3 _ _ (jt hb f0) (k2 _ _ nb (S1 _ _ (kw _ _ nb hb)))⟩⟩)
 rintro σ H2 ⟨w,my,rfl,hw,m1,m9,hwn,D2,k2⟩
 refine ut (fun σ H3 => ∃ (fr of_ : Int),σ = [some (.ref d),some (.int nm),some (.int most),some (.int wi),some (.ref w),none,none] ∧ H3 w = some (.dK (kvW nm my 0 fr of_)) ∧ WOk nm my 0 fr of_ ∧ DiceAt K H3 d a ∧ Keep d H H3) ?_ ?_
 ·walk_at "rd"
  have nw : w ≠ d := D.ne hwn
  refine ⟨.inl ⟨_,.inl hw⟩,fun p H3 f3 S3 e3 => ⟨by decide,fun p1 H4 f4 S4 e4 => yX ((D2.same S3).same S4) fun r1 H5 l1 u1 D5 k5 => ?_⟩⟩
  have n1 : p1 ≠ d := (D2.same S3).ne f4
  have np : p ≠ d := D2.ne f3
  obtain ⟨z1,hz1,ez1⟩ := jh6 (ns := [0,0,1900]) l1 u1
  refine ⟨_,r1,rfl,SqL.of (k5 _ _ n1 e4),_,ez1,by decide,fun p2 H6 f6 S6 e6 => yX (D5.same S6) fun r2 H7 l2 u2 D7 k7 => ?_⟩
  have n2 : p2 ≠ d := D5.ne f6
  obtain ⟨z2,hz2,ez2⟩ := jh6 (ns := [0,0,1900]) l2 u2
  have hp7 : H7 p = some (.dK []) := by walk_at "at"
  have hw7 : H7 w = some (.dK [(.inr "names",.int nm),(.inr "many",.int my),(.inr "made",.int 0)]) := by walk_at "at"
  have wp : w ≠ p := jt hw f3
  refine ⟨_,r2,rfl,SqL.of (k7 _ _ n2 e6),_,ez2,hp7,[(.inr "far",.int z1),(.inr "off",.int z2)],rfl,(by show 2 ≤ 15;decide),fun H8 k8 e8 => ⟨wp,_,k8 _ _ wp hw7,_,e8,(by show 3 + 2 ≤ sizeLine;omega),z1,z2,jj,?_,(D7.keepK hp7 k8).wrK (k8 _ _ wp hw7),?_⟩⟩
  ·simp only [List.mem_cons,List.not_mem_nil,or_false] at hz1 hz2
   refine ⟨n0,m1,m9,by decide,?_,?_,?_,?_,?_⟩ <;> (rcases hz1 with rfl | rfl | rfl <;> rcases hz2 with rfl | rfl | rfl <;> decide)
  ·exact fun b o nb hb => by
    have hb2 := k2 _ _ nb hb
    rw [jB (jt hb hwn)]
    exact k8 _ _ (jt hb2 f3) (k7 _ _ nb (S6 _ _ (k5 _ _ nb (S4 _ _ (S3 _ _ hb2)))))
 clear hw m1 m9 D2 k2
 rintro σ H3 ⟨fr,of_,rfl,hw,W,D3,k3⟩
 refine ut (fun σ H4 => ∃ (ra : Addr) (rvs : List V) (rows : List Row) (md : Int),σ = [some (.ref d),some (.int nm),some (.int most),some (.int wi),some (.ref w),some (.ref ra),none] ∧ H4 w = some (.dK (kvW nm my md fr of_)) ∧ 0 ≤ md ∧ md ≤ 96 ∧ rows.length ≤ most ∧ (∀ r ∈ rows,r.ok) ∧ H4 ra = some (.tup rvs) ∧ AllAt (RowAt K H4) rows rvs ∧ DiceAt K H4 d a ∧ Keep d H H4) ?_ ?_
 ·have nw : w ≠ d := D3.neK hw
  refine ⟨fun v H4 => ∃ r : Int,v = .int r ∧ 0 ≤ r ∧ r ≤ most ∧ DiceAt K H4 d a ∧ Keep d H3 H4,?_,?_⟩
  ·walk_at "rd"
   exact yX D3 (fun r H4 lr ur D4 k4 => ⟨r,rfl,lr,by omega,D4,k4⟩) (by omega) (by omega)
  rintro _ H4 ⟨r,rfl,lr,ur,D4,k4⟩
  refine ⟨r,rfl,by omega,by omega,fun p hp => jhQ (lo := 0) (n := r.toNat) (jm4 K H d a w p nm my fr of_)
   ⟨[],[],0,rfl,(fun _ h => by cases h),jj,rfl,zi hp _ _ (k4 _ _ nw hw),by decide,by decide,D4.same (zi hp),k3.trans (k4.trans (Keep.same (zi hp)))⟩ ?_ ?_⟩
  ·rintro i H5 hi ⟨rvs,rows,md,rl,ro,hp5,ar,hw5,d0,d1,D5,k5⟩
   walk_at "rd"
   have np : p ≠ d := D4.ne hp
   have pw : p ≠ w := fun z => by rw [z,hw5] at hp5;cases hp5
   have wo : WOk nm my md fr of_ := ⟨W.n0,W.m1,W.m9,d0,by have := W.o9;omega,W.f0,W.f9,W.o0,W.o9⟩
   refine iteP True.intro ⟨d,a,w,nm,my,md,fr,of_,rfl,D5,hw5,wo,fun t H6 row md' rk _ ht m1 m2 hw6 D6 k6 => ?_⟩
   have hp6 := k6 _ _ np pw hp5
   have tk : TupKeep H5 (upd H6 p (.lst (rvs ++ [.ref t]))) := (Keep2g.tups D5 hw5 k6).trans (jbA hp6)
   have rlen := ar.len
   refine ⟨_,hp6,by omega,rvs ++ [.ref t],rows ++ [row],md',by rw [List.length_append,rl];rfl,jfh ro rk,jj,(ar.imp fun _ _ h => h.mono tk).app (AllAt.one ⟨t,rfl,.inl (jbA hp6 _ _ ht)⟩),by rw [jB (Ne.symm pw)];exact hw6,by omega,by omega,D6.wr np hp6,fun b o nb hb => ?_⟩
   ·have hb4 := k4 _ _ nb (k3 _ _ nb hb)
    rw [jB (jt hb4 hp)]
    exact k6 _ _ nb (jt hb hwn) (k5 _ _ nb hb)
  ·rintro H5 ⟨rvs,rows,md,rl,ro,hp5,ar,hw5,d0,d1,D5,k5⟩
   exact ⟨p,rvs,rfl,SqL.of hp5,fun l H6 f6 S6 e6 => ⟨l,rvs,rows,md,rfl,S6 _ _ hw5,d0,by omega,by omega,ro,e6,ar.imp fun _ _ h => h.mono (TupKeep.same S6),D5.same S6,k5.trans (Keep.same S6)⟩⟩
 rintro σ H4 ⟨ra,rvs,rows,md,rfl,hw4,d0,d9,rl,ro,hra,ar,D4,k4⟩
 walk_at "rd"
 exact ⟨_,jhS hw4,_,jfk hw4,by decide,fun p H5 f5 S5 e5 => q p ra rvs rows md of_ H5 rl ro e5 (S5 _ _ hra) (ar.imp fun _ _ h => h.mono (TupKeep.same S5)) d0 d9 W.o0 W.o9 (D4.same S5) (k4.trans (Keep.same S5))⟩
def spSG (K : PySem.W.Frag) : Sp := fun vs H Q _ => ∃ (d a : Addr) (md of_ : Int) (many : Nat),vs = [.ref d,.int md,.int of_,.int many] ∧ DiceAt K H d a ∧ 0 ≤ md ∧ md ≤ 96 ∧ 0 ≤ of_ ∧ of_ ≤ 1900 ∧ many ≤ 999 ∧ ∀ (ga : Addr) (gvs : List V) (gs : List (Int × Int)) (H' : Hp),1 ≤ gs.length → gs.length ≤ 8 → (∀ g ∈ gs,GoOk many g) → (∀ g,gs[gs.length - 1]? = some g → g.1 = 0) → Tp K H' ga gvs → AllAt (GoAt K H') gs gvs → DiceAt K H' d a → Keep d H H' → Q (.ref ga) H'
theorem jmA (F : Fun K "_law_some_goes" "_law_some_goes" jU f fd) (T : TT mg) (c_law_next : Cal P w K mg base CX0 "_law_next" 1 ["_law_dice_here", "_law_many"] (jcD K)) : FnOk P w K mg base CX0 2 f fd ["_law_d", "_law_made", "_law_off", "_law_many"] (spSG K) := by
 refine F.ok sc_law_some_goes (fun vs H Q E h => ?_) (fun cdv A outer s H vs Q E hr h => ?_)
 ·obtain ⟨d,a,md,of_,many,rfl,_⟩ := h
  rfl
 obtain ⟨d,a,md,of_,many,rfl,D,d0,d9,o0,o9,m9,q⟩ := h
 have sz : (1000 : Nat) < sizeLine := by rw [sizeLine_eq];decide
 refine ⟨_,(QSs.h (je (js (jV (i := 4) sc_law_some_goes.nd rfl (Or.inl vm) (zc jc) (by rfl) (by first | exact .inl rfl | exact .inr rfl | assumption)))
 (je (js (yi PassesOwn.never rfl (ym jay T.range (ja (jhI (jg c_law_next hr (by omega) j5 (ja (jb (i := 0) rfl (Or.inl zT) jM jN) (ja (jC ix_list (zc (ja jd (ja jd jc (by rfl)) (by rfl))) (jg c_law_next hr (by omega) j5 (ja (jb (i := 0) rfl (Or.inl zT) jM jN) (ja jd jc (by rfl)) (by rfl)) zh jy (by rfl)) (fun _ _ => rfl)) jc (by rfl)) (by rfl)) zh jy (by rfl))) jc (by rfl)) (by rfl)) (jp (i := 5) sc_law_some_goes.nd rfl (Or.inl jcf) (by first | exact .inl rfl | exact .inr rfl | assumption))
 (je (jV (i := 6) sc_law_some_goes.nd rfl (Or.inl vj) (jg c_law_next hr (by omega) j5 (ja (jb (i := 0) rfl (Or.inl zT) jM jN) (ja (jz yn (jb (i := 1) rfl (Or.inl jch) yr yu) jd) jc (by rfl)) (by rfl)) zh jy (by rfl)) (by rfl) (by first | exact .inl rfl | exact .inr rfl | assumption))
 (jf (zQ (jaM PySem.F.plainAttrs_list PySem.F.slot_list_append PySem.F.type_list_append uY (jb (i := 4) rfl (Or.inl vm) jq jr) (ja (jW (ja (jz yn (jb (i := 6) rfl (Or.inl vj) zp zq) (jz jcE (jb (i := 2) rfl (Or.inl jcg) jd2 jea) (jX jb9 jbn T.int jbe (ja (zt jf0 (jb (i := 6) rfl (Or.inl vj) zp zq) jd (jP _)) jc (by rfl)) ja8 uI (by rfl)))) (ja (jz ja7 (jg c_law_next hr (by omega) j5 (ja (jb (i := 0) rfl (Or.inl zT) jM jN) (ja (jz yn (jb (i := 3) rfl (Or.inl uU) zH zI) jd) jc (by rfl)) (by rfl)) zh jy (by rfl)) jd) jc (by rfl)) (by rfl))) jc (by rfl)) (by rfl) (by rfl) (by rfl) (by decide)) (by rfl))))))
 (jf (jm (jz je7 (jX uo jax T.tuple zN (ja (jb (i := 4) rfl (Or.inl vm) jq jr) jc (by rfl)) zM zy (by rfl)) (jW (ja (jW (ja jd (ja (jz ja7 (jg c_law_next hr (by omega) j5 (ja (jb (i := 0) rfl (Or.inl zT) jM jN) (ja (jz yn (jb (i := 3) rfl (Or.inl uU) zH zI) jd) jc (by rfl)) (by rfl)) zh jy (by rfl)) jd) jc (by rfl)) (by rfl))) jc (by rfl))))))))),?_⟩
 refine zf fun R hR => ?_
 walk_at "rd"
 refine ⟨by decide,fun p H1 f1 S1 e1 => hR _ _ ?_⟩
 clear hR R
 have np : p ≠ d := D.ne f1
 refine ut (fun σ H2 => ∃ (v1 v2 : Option V) (gvs : List V) (gs : List (Int × Int)),σ = [some (.ref d),some (.int md),some (.int of_),some (.int many),some (.ref p),v1,v2] ∧ H2 p = some (.lst gvs) ∧ AllAt (GoAt K H2) gs gvs ∧ gs.length ≤ 7 ∧ (∀ g ∈ gs,GoOk many g) ∧ DiceAt K H2 d a ∧ Keep d H H2) ?_ ?_
 ·refine ⟨fun v H4 => ∃ r : Int,v = .int r ∧ 0 ≤ r ∧ r ≤ 7 ∧ DiceAt K H4 d a ∧ Keep d H1 H4,?_,?_⟩
  ·walk_at "rd"
   refine ⟨by decide,fun p1 H2 f2 S2 e2 => yX (D.same S1 |>.same S2) fun r H3 lr ur D3 k3 => ?_⟩
   obtain ⟨z,hz,ez⟩ := jh6 (ns := [4,8]) lr ur
   have iz : 4 ≤ z ∧ z ≤ 8 := by
    simp only [List.mem_cons,List.not_mem_nil,or_false] at hz
    rcases hz with rfl | rfl <;> decide
   exact ⟨_,r,rfl,SqL.of (k3 _ _ ((D.same S1).ne f2) e2),_,ez,yX D3 (fun r4 H4 l4 u4 D4 k4 => ⟨r4,rfl,l4,by omega,D4,(Keep.same S2).trans (k3.trans k4)⟩) (by omega) (by omega)⟩
  rintro _ H4 ⟨r,rfl,lr,ur,D4,k4⟩
  refine ⟨r,rfl,by omega,by omega,gc (lo := 0) (n := r.toNat) (jm6 K H d a p md of_ many) ⟨_,_,[],[],rfl,k4 _ _ np e1,rfl,rfl,(fun _ h => by cases h),D4,(Keep.same S1).trans k4⟩ ?_ ?_⟩
  ·rintro i σ H5 hi ⟨v1,v2,gvs,gs,rfl,hp5,ag,gl,go,D5,k5⟩
   walk_at "rd"
   refine yX D5 (fun r1 H6 l1 u1 D6 k6 => ⟨.inl ⟨rfl,_,SqL.of (k6 _ _ np hp5)⟩,r1,rfl,.inr ⟨.inl ⟨by omega,by omega⟩,r1,rfl,yX D6 (fun r2 H7 l2 u2 D7 k7 => ⟨r2,rfl,by decide,fun p1 H8 f8 S8 e8 => ?_⟩) (by omega) (by omega)⟩⟩) (by omega) (by omega)
   have hp8 : H8 p = some (.lst gvs) := S8 _ _ (k7 _ _ np (k6 _ _ np hp5))
   have tk : TupKeep H5 (upd H8 p (.lst (gvs ++ [.ref p1]))) := (Keep.tups D5 (k6.trans (k7.trans (Keep.same S8)))).trans (jbA hp8)
   have gll := ag.len
   refine ⟨_,hp8,by omega,_,_,gvs ++ [.ref p1],gs ++ [(r1 + of_ * if 0 < r1 then 1 else 0,r2 - 1)],rfl,jj,(ag.imp fun _ _ h => h.mono tk).app (AllAt.one ⟨p1,rfl,.inl (jbA hp8 _ _ e8)⟩),by rw [List.length_append,gl];rfl,jfh go ⟨?_,by show -1 ≤ r2 - 1;omega,by show r2 - 1 < (many : Int);omega⟩,(D7.same S8).wr np hp8,fun b o nb hb => ?_⟩
   ·show In2 (r1 + of_ * if 0 < r1 then 1 else 0)
    split
    ·exact ⟨by omega,by omega⟩
    ·exact ⟨by omega,by omega⟩
   ·rw [jB (jt hb f1)]
    exact S8 _ _ (k7 _ _ nb (k6 _ _ nb (k5 _ _ nb hb)))
  ·rintro σ H5 ⟨v1,v2,gvs,gs,rfl,hp5,ag,gl,go,D5,k5⟩
   exact ⟨v1,v2,gvs,gs,rfl,hp5,ag,by omega,go,D5,k5⟩
 rintro σ H2 ⟨v1,v2,gvs,gs,rfl,hp2,ag,l7,go,D2,k2⟩
 walk_at "rd"
 refine ⟨_,SqL.of hp2,fun l H3 f3 S3 e3 => yX (D2.same S3) (fun r H4 lr ur D4 k4 => ⟨r,rfl,by decide,fun p1 H5 f5 S5 e5 => ⟨by decide,fun p2 H6 f6 S6 e6 => ?_⟩⟩) (by omega) (by omega)⟩
 have nl : l ≠ d := D2.ne f3
 have e36 : H6 l = some (.tup gvs) := by walk_at "at"
 have gll := ag.len
 have tk : TupKeep H2 H6 := (TupKeep.same S3).trans ((Keep.tups (D2.same S3) k4).trans ((TupKeep.same S5).trans (TupKeep.same S6)))
 refine ⟨_,.inl e36,_,.inl e6,(by simp only [List.length_cons,List.length_nil];omega),fun p3 H7 S7 t7 => ?_⟩
 refine q p3 (gvs ++ [.ref p1]) (gs ++ [(0,r - 1)]) H7 (by rw [List.length_append,List.length_singleton];omega) (by rw [List.length_append,List.length_singleton];omega) (jfh go ⟨⟨by show (0 : Int) ≤ 0;decide,by show (0 : Int) ≤ 1999;decide⟩,by show -1 ≤ r - 1;omega,by show r - 1 < (many : Int);omega⟩) (fun g hg => ?_) t7 ((ag.imp fun _ _ h => h.mono (tk.trans (TupKeep.same S7))).app (AllAt.one ⟨p1,rfl,.inl (S7 _ _ (S6 _ _ e5))⟩)) (((D4.same S5).same S6).same S7) fun b o nb hb => S7 _ _ (S6 _ _ (S5 _ _ (k4 _ _ nb (S3 _ _ (k2 _ _ nb hb)))))
 rw [List.length_append,List.length_singleton,Nat.add_sub_cancel,List.getElem?_append_right (Nat.le_refl _),Nat.sub_self] at hg
 cases hg
 rfl
def spST (K : PySem.W.Frag) : Sp := fun vs H Q _ => ∃ (d a : Addr) (most : Nat),vs = [.ref d,.int most] ∧ DiceAt K H d a ∧ most ≤ 40 ∧ ∀ (v : V) (ins nm : Nat) (ps : List Piece) (H' : Hp),ins ≤ 3 → ins ≤ nm → nm ≤ 6 → PsOk ps → ps.length ≤ 5 → (∀ p ∈ ps,p.rows.length ≤ most) → TestedAt K H' ins nm ps v → DiceAt K H' d a → Keep d H H' → Q v H'
def jjJ (K : PySem.W.Frag) (H : Hp) (d a p : Addr) (most ins nm many : Nat) (i : Nat) (σ : St) (H2 : Hp) : Prop := ∃ (v1 v2 v3 v4 : Option V) (pvs : List V) (ps : List Piece),σ = [some (.ref d),some (.int most),some (.int ins),some (.int nm),some (.int many),some (.ref p),v1,v2,v3,v4] ∧ H2 p = some (.lst pvs) ∧ AllAt (PieceAt K H2) ps pvs ∧ ps.length = i ∧ (∀ x ∈ ps,x.ok many ∧ x.rows.length ≤ most) ∧ DiceAt K H2 d a ∧ Keep d H H2
theorem jmy (F : Fun K "_law_some_tested" "_law_some_tested" jA f fd) (T : TT mg) (c_law_next : Cal P w K mg base CX0 "_law_next" 1 ["_law_dice_here", "_law_many"] (jcD K)) (c_law_some_rows : Cal P w K mg base CX0 "_law_some_rows" 3 ["_law_d", "_law_names", "_law_most"] (jkP K)) (c_law_some_goes : Cal P w K mg base CX0 "_law_some_goes" 2 ["_law_d", "_law_made", "_law_off", "_law_many"] (spSG K)) : FnOk P w K mg base CX0 4 f fd ["_law_d", "_law_most"] (spST K) := by
 refine F.ok sc_law_some_tested (fun vs H Q E h => ?_) (fun cdv A outer s H vs Q E hr h => ?_)
 ·obtain ⟨d,a,most,rfl,_⟩ := h
  rfl
 obtain ⟨d,a,most,rfl,D,hm,q⟩ := h
 have sz : (1000 : Nat) < sizeLine := by rw [sizeLine_eq];decide
 refine ⟨_,(QSs.h (je (js (jV (i := 2) sc_law_some_tested.nd rfl (Or.inl yP) (jg c_law_next hr (by omega) j5 (ja (jb (i := 0) rfl (Or.inl zC) jM jN) (ja jd jc (by rfl)) (by rfl)) zE jy (by rfl)) (by rfl) (by first | exact .inl rfl | exact .inr rfl | assumption)))
 (je (js (jV (i := 3) sc_law_some_tested.nd rfl (Or.inl yO) (jz yn (jb (i := 2) rfl (Or.inl yP) jbt jbx) (jg c_law_next hr (by omega) j5 (ja (jb (i := 0) rfl (Or.inl zC) jM jN) (ja jd jc (by rfl)) (by rfl)) zE jy (by rfl))) (by rfl) (by first | exact .inl rfl | exact .inr rfl | assumption)))
 (je (js (jV (i := 4) sc_law_some_tested.nd rfl (Or.inl yN) (jz yn jd (jg c_law_next hr (by omega) j5 (ja (jb (i := 0) rfl (Or.inl zC) jM jN) (ja jd jc (by rfl)) (by rfl)) zE jy (by rfl))) (by rfl) (by first | exact .inl rfl | exact .inr rfl | assumption)))
 (je (js (jV (i := 5) sc_law_some_tested.nd rfl (Or.inl yM) (zc jc) (by rfl) (by first | exact .inl rfl | exact .inr rfl | assumption)))
 (je (js (yi PassesOwn.never rfl (ym gy T.range (ja (jb (i := 4) rfl (Or.inl yN) zH zI) jc (by rfl)) (by rfl)) (jp (i := 6) sc_law_some_tested.nd rfl (Or.inl jbh) (by first | exact .inl rfl | exact .inr rfl | assumption))
 (je (vv (jg c_law_some_rows hr (by omega) j5 (ja (jb (i := 0) rfl (Or.inl zC) jM jN) (ja (jb (i := 3) rfl (Or.inl yO) ve vf) (ja (jb (i := 1) rfl (Or.inl jbi) jcO jcT) jc (by rfl)) (by rfl)) (by rfl)) vp jcv (by rfl)) (zL (by rfl) (jD (jp (i := 7) sc_law_some_tested.nd rfl (Or.inl ub) (by first | exact .inl rfl | exact .inr rfl | assumption)) (jD (jp (i := 8) sc_law_some_tested.nd rfl (Or.inl ua) (by first | exact .inl rfl | exact .inr rfl | assumption)) (jD (jp (i := 9) sc_law_some_tested.nd rfl (Or.inl v9) (by first | exact .inl rfl | exact .inr rfl | assumption)) zx))) (by rfl) (by rfl)) (by rfl) (by rfl) (by rfl))
 (jf (zQ (jaM PySem.F.plainAttrs_list PySem.F.slot_list_append PySem.F.type_list_append uY (jb (i := 5) rfl (Or.inl yM) yF yG) (ja (jW (ja (jb (i := 7) rfl (Or.inl ub) jaH jaK) (ja (jg c_law_some_goes hr (by omega) j5 (ja (jb (i := 0) rfl (Or.inl zC) jM jN) (ja (jb (i := 8) rfl (Or.inl ua) yr yu) (ja (jb (i := 9) rfl (Or.inl v9) jd2 jea) (ja (jb (i := 4) rfl (Or.inl yN) zH zI) jc (by rfl)) (by rfl)) (by rfl)) (by rfl)) vq jcw (by rfl)) jc (by rfl)) (by rfl))) jc (by rfl)) (by rfl) (by rfl) (by rfl) (by decide)) (by rfl))))))
 (jf (jm (jW (ja (jb (i := 2) rfl (Or.inl yP) jbt jbx) (ja (jb (i := 3) rfl (Or.inl yO) ve vf) (ja (jX uo gx T.tuple zN (ja (jb (i := 5) rfl (Or.inl yM) yF yG) jc (by rfl)) zM zy (by rfl)) jc (by rfl)) (by rfl)) (by rfl))))))))))),?_⟩
 refine zf fun R hR => ?_
 walk_at "rd"
 refine yX D fun ins H1 a1 b1 D1 k1 => hR _ _ ?_
 clear hR R
 refine zf fun R hR => ?_
 walk_at "rd"
 refine yX D1 fun r2 H2 a2 b2 D2 k2 => ⟨r2,rfl,hR _ _ ?_⟩
 clear hR R
 refine zf fun R hR => ?_
 walk_at "rd"
 refine yX D2 fun r3 H3 a3 b3 D3 k3 => ⟨r3,rfl,hR _ _ ?_⟩
 clear hR R
 refine zf fun R hR => ?_
 walk_at "rd"
 refine ⟨by decide,fun p H4 f4 S4 e4 => hR _ _ ?_⟩
 clear hR R
 have np : p ≠ d := D3.ne f4
 obtain ⟨insN,rfl⟩ : ∃ n : Nat,ins = n := ⟨ins.toNat,by omega⟩
 obtain ⟨nmN,hnm⟩ : ∃ n : Nat,(insN : Int) + r2 = n := ⟨((insN : Int) + r2).toNat,by omega⟩
 obtain ⟨many,hmy⟩ : ∃ n : Nat,1 + r3 = (n : Int) := ⟨(1 + r3).toNat,by omega⟩
 rw [hnm,hmy]
 refine ut (jjJ K H d a p most insN nmN many many) ?_ ?_
 ·refine ⟨_,rfl,(many : Int),rfl,by omega,by omega,gc (lo := 0) (n := ((many : Int)).toNat) (jjJ K H d a p most insN nmN many) ⟨_,_,_,_,[],[],rfl,e4,rfl,rfl,(fun _ h => by cases h),D3.same S4,k1.trans (k2.trans (k3.trans (Keep.same S4)))⟩ ?_ ?_⟩
  ·rintro i σ H5 hi ⟨v1,v2,v3,v4,pvs,ps,rfl,hp5,ap,pl,po,D5,k5⟩
   walk_at "rd"
   refine ⟨d,a,nmN,most,rfl,D5,by omega,by omega,hm,fun t ra rvs rows md of_ H6 rl ro ht hra ar d0 d9 o0 o9 D6 k6 => ⟨t,rfl,_,SqT.of ht,rfl,_,_,rfl,_,_,rfl,_,_,rfl,rfl,.inl ⟨rfl,_,SqL.of (k6 _ _ np hp5)⟩,?_⟩⟩
   refine ⟨d,a,md,of_,many,rfl,D6,d0,d9,o0,o9,by omega,fun ga gvs gs H7 g1 g8 go gl tg ag D7 k7 => ⟨by decide,fun p1 H8 f8 S8 e8 => ?_⟩⟩
   have hp8 : H8 p = some (.lst pvs) := S8 _ _ (k7 _ _ np (k6 _ _ np hp5))
   have tk7 : TupKeep H7 (upd H8 p (.lst (pvs ++ [.ref p1]))) := (TupKeep.same S8).trans (jbA hp8)
   have tk6 : TupKeep H6 (upd H8 p (.lst (pvs ++ [.ref p1]))) := (Keep.tups D6 k7).trans tk7
   have tk5 : TupKeep H5 (upd H8 p (.lst (pvs ++ [.ref p1]))) := (Keep.tups D5 k6).trans tk6
   have pll := ap.len
   refine ⟨_,hp8,by omega,_,_,_,_,pvs ++ [.ref p1],ps ++ [⟨rows,gs⟩],rfl,jj,(ap.imp fun _ _ h => h.mono tk5).app (AllAt.one ⟨p1,ra,ga,rvs,gvs,rfl,.inl (jbA hp8 _ _ e8),.inl (tk6 _ _ hra),ar.imp fun _ _ h => h.mono tk6,tg.mono tk7,ag.imp fun _ _ h => h.mono tk7⟩),by rw [List.length_append,pl];rfl,jfh po ⟨⟨by show rows.length ≤ 1500;omega,ro,g1,g8,go,gl⟩,rl⟩,(D7.same S8).wr np hp8,fun b o nb hb => ?_⟩
   have hb3 := k3 _ _ nb (k2 _ _ nb (k1 _ _ nb hb))
   rw [jB (jt hb3 f4)]
   exact S8 _ _ (k7 _ _ nb (k6 _ _ nb (k5 _ _ nb hb)))
  ·rintro σ H5 h
   exact h
 rintro σ H5 ⟨v1,v2,v3,v4,pvs,ps,rfl,hp5,ap,pl,po,D5,k5⟩
 walk_at "rd"
 refine ⟨_,SqL.of hp5,fun l H6 f6 S6 e6 => ⟨by decide,fun t H7 f7 S7 e7 => ?_⟩⟩
 have S57 := S6.trans S7
 exact q (.ref t) insN nmN ps H7 (by omega) (by omega) (by omega) ⟨by omega,by omega,fun x hx => by rw [pl];exact (po x hx).1⟩ (by omega) (fun x hx => (po x hx).2) ⟨t,l,pvs,rfl,.inl e7,.inl (S7 _ _ e6),ap.imp fun _ _ h => h.mono (TupKeep.same S57)⟩ (D5.same S57) (k5.trans (Keep.same S57))
end
end K3
end
section
namespace K3
open PySem L2
section
variable {P : Program} {w : World} {K : PySem.W.Frag} {mg : Str → Option Value} {base : Heap} {f : Addr} {fd : FuncData}
abbrev zm : Stmt := top 45
theorem sc_law_like : FnScope ["_law_found", "_law_due", "_law_k"] ["_law_found", "_law_due"] (defScope zm) := ⟨rfl,rfl,rfl,by decide +kernel,rfl,by decide +kernel,by decide +kernel⟩
theorem jE : (defScope zm).names.lookup ("_law_found" : Str) = some .local := by decide +kernel
theorem jK : (defScope zm).names.lookup ("_law_due" : Str) = some .local := by decide +kernel
theorem jal : (defScope zm).names.lookup ("_law_k" : Str) = some .local := by decide +kernel
theorem ji : (defScope zm).names.lookup ("isinstance" : Str) = some .globalImplicit := by decide +kernel
theorem zw : (defScope zm).names.lookup ("bool" : Str) = some .globalImplicit := by decide +kernel
theorem yf : (defScope zm).names.lookup ("str" : Str) = some .globalImplicit := by decide +kernel
theorem vy : (defScope zm).names.lookup ("int" : Str) = some .globalImplicit := by decide +kernel
theorem jc6 : (defScope zm).names.lookup ("range" : Str) = some .globalImplicit := by decide +kernel
theorem uF : (defScope zm).names.lookup ("len" : Str) = some .globalImplicit := by decide +kernel
theorem gW : (defScope zm).names.lookup ("tuple" : Str) = some .globalImplicit := by decide +kernel
theorem jaz : (defScope zm).names.lookup ("list" : Str) = some .globalImplicit := by decide +kernel
theorem jbo : (defScope zm).names.lookup ("_law_like" : Str) = some .globalImplicit := by decide +kernel
end
end K3
end
section
namespace K3
open PySem L2
section
variable {P : Program} {w : World} {K : PySem.W.Frag} {mg : Str → Option Value} {base : Heap} {f : Addr} {fd : FuncData}
def yW (K : PySem.W.Frag) (H : Hp) : Nat → V → V → Prop
 | 0,x,y => (∃ i,x = .int i ∧ y = .int i) ∨ ∃ z,x = .str z ∧ y = .str z
 | n + 1,x,y => yW K H n x y ∨ ∃ a b xs ys,x = .ref a ∧ y = .ref b ∧ ((Tp K H a xs ∧ Tp K H b ys) ∨ (H a = some (.lst xs) ∧ H b = some (.lst ys))) ∧ xs.length = ys.length ∧ xs.length ≤ 1000000 ∧ ∀ (i : Nat) (u v : V),xs[i]? = some u → ys[i]? = some v → yW K H n u v
def jeY (K : PySem.W.Frag) (n : Nat) : Sp := fun vs H Q _ => ∃ x y,vs = [x,y] ∧ yW K H n x y ∧ Q (.bl true) H
theorem jeL {K : PySem.W.Frag} {H : Hp} {x y : V} : ∀ {n : Nat},yW K H n x y → ((∃ i,x = .int i ∧ y = .int i) ∨ ∃ z,x = .str z ∧ y = .str z) ∨ ∃ m,n = m + 1 ∧ ∃ a b xs ys,x = .ref a ∧ y = .ref b ∧ ((Tp K H a xs ∧ Tp K H b ys) ∨ (H a = some (.lst xs) ∧ H b = some (.lst ys))) ∧ xs.length = ys.length ∧ xs.length ≤ 1000000 ∧ ∀ (i : Nat) (u v : V),xs[i]? = some u → ys[i]? = some v → yW K H m u v
 | 0,h => .inl h
 | n + 1,h => by
  rcases h with h | h
  ·rcases jeL h with z | ⟨m,rfl,a,b,xs,ys,z1,z2,z3,z4,z5,z6⟩
   ·exact .inl z
   ·exact .inr ⟨m + 1,rfl,a,b,xs,ys,z1,z2,z3,z4,z5,fun i u v hu hv => .inl (z6 i u v hu hv)⟩
  ·exact .inr ⟨n,rfl,h⟩
theorem jhK {n : Nat} (F : Fun K "_law_like" "_law_like" zm f fd) (T : TT mg) (c_law_like : ∀ m,n = m + 1 → Cal P w K mg base CX0 "_law_like" n ["_law_found", "_law_due"] (jeY K m)) : FnOk P w K mg base CX0 (n + 1) f fd ["_law_found", "_law_due"] (jeY K n) := by
 refine F.ok sc_law_like (fun vs H Q E h => ?_) (fun cdv A outer s H vs Q E hr h => ?_)
 ·obtain ⟨x,y,rfl,_⟩ := h
  rfl
 obtain ⟨x,y,rfl,ha,q⟩ := h
 rcases jeL ha with (⟨i,rfl,rfl⟩ | ⟨z,rfl,rfl⟩) | ⟨m,rfl,a,b,xs,ys,rfl,rfl,hxy,hl,h6,hr2⟩
 ·refine ⟨_,pss_cons (QS.h (jF (j7 (jh jO ji T.isinstance jo (ja (jb (i := 1) rfl (Or.inl jK) jR jS) (ja (jL (v := .ty "bool") (u := .type "bool") zw T.bool gE rfl gh vT) jc (by rfl)) (by rfl)) jn jk (by rfl)))
 (jf (jm (yj (jh jO ji T.isinstance jo (ja (jb (i := 0) rfl (Or.inl jE) jq jr) (ja (jL (v := .ty "bool") (u := .type "bool") zw T.bool gE rfl gh vT) jc (by rfl)) (by rfl)) jn jk (by rfl)) (yx (zt vM (jb (i := 0) rfl (Or.inl jE) jq jr) (jb (i := 1) rfl (Or.inl jK) jR jS) (jP _))))))
 jw)) (pss_cons (QS.h (jF (j7 (jh jO ji T.isinstance jo (ja (jb (i := 1) rfl (Or.inl jK) jR jS) (ja (jL (v := .ty "str") (u := .type "str") yf T.str gf rfl uQ vt) jc (by rfl)) (by rfl)) jn jk (by rfl)))
 (jf (jm (yj (jh jO ji T.isinstance jo (ja (jb (i := 0) rfl (Or.inl jE) jq jr) (ja (jL (v := .ty "str") (u := .type "str") yf T.str gf rfl uQ vt) jc (by rfl)) (by rfl)) jn jk (by rfl)) (yx (zt vM (jb (i := 0) rfl (Or.inl jE) jq jr) (jb (i := 1) rfl (Or.inl jK) jR jS) (jP _))))))
 jw)) (pss_cons (QS.h (jF (j7 (jh jO ji T.isinstance jo (ja (jb (i := 1) rfl (Or.inl jK) jR jS) (ja (jL (v := .ty "int") (u := .type "int") vy T.int jbe rfl ja8 uI) jc (by rfl)) (by rfl)) jn jk (by rfl)))
 (jf (jm (yj (jh jO ji T.isinstance jo (ja (jb (i := 0) rfl (Or.inl jE) jq jr) (ja (jL (v := .ty "int") (u := .type "int") vy T.int jbe rfl ja8 uI) jc (by rfl)) (by rfl)) jn jk (by rfl)) (yj (je3 (jh jO ji T.isinstance jo (ja (jb (i := 0) rfl (Or.inl jE) jq jr) (ja (jL (v := .ty "bool") (u := .type "bool") zw T.bool gE rfl gh vT) jc (by rfl)) (by rfl)) jn jk (by rfl))) (yx (zt vM (jb (i := 0) rfl (Or.inl jE) jq jr) (jb (i := 1) rfl (Or.inl jK) jR jS) (jP _)))))))
 jw)) jfX)),?_⟩
  walk_at "rd"
  walk_at "go"
  exact ⟨rfl,q⟩
 ·refine ⟨_,pss_cons (QS.h (jF (j7 (jh jO ji T.isinstance jo (ja (jb (i := 1) rfl (Or.inl jK) jR jS) (ja (jL (v := .ty "bool") (u := .type "bool") zw T.bool gE rfl gh vT) jc (by rfl)) (by rfl)) jn jk (by rfl)))
 (jf (jm (yj (jh jO ji T.isinstance jo (ja (jb (i := 0) rfl (Or.inl jE) jq jr) (ja (jL (v := .ty "bool") (u := .type "bool") zw T.bool gE rfl gh vT) jc (by rfl)) (by rfl)) jn jk (by rfl)) (yx (zt vM (jb (i := 0) rfl (Or.inl jE) jq jr) (jb (i := 1) rfl (Or.inl jK) jR jS) (jP _))))))
 jw)) (pss_cons (QS.h (jF (j7 (jh jO ji T.isinstance jo (ja (jb (i := 1) rfl (Or.inl jK) jR jS) (ja (jL (v := .ty "str") (u := .type "str") yf T.str gf rfl uQ vt) jc (by rfl)) (by rfl)) jn jk (by rfl)))
 (jf (jm (yj (jh jO ji T.isinstance jo (ja (jb (i := 0) rfl (Or.inl jE) jq jr) (ja (jL (v := .ty "str") (u := .type "str") yf T.str gf rfl uQ vt) jc (by rfl)) (by rfl)) jn jk (by rfl)) (yx (zt vM (jb (i := 0) rfl (Or.inl jE) jq jr) (jb (i := 1) rfl (Or.inl jK) jR jS) (jP _))))))
 jw)) jfX),?_⟩
  walk_at "rd"
  walk_at "go"
  exact ⟨rfl,q⟩
 ·have c_law_like := c_law_like m rfl
  refine ⟨_,(QSs.h (je (jF (j7 (jh jO ji T.isinstance jo (ja (jb (i := 1) rfl (Or.inl jK) jR jS) (ja (jL (v := .ty "bool") (u := .type "bool") zw T.bool gE rfl gh vT) jc (by rfl)) (by rfl)) jn jk (by rfl)))
 (jf (jm (yj (jh jO ji T.isinstance jo (ja (jb (i := 0) rfl (Or.inl jE) jq jr) (ja (jL (v := .ty "bool") (u := .type "bool") zw T.bool gE rfl gh vT) jc (by rfl)) (by rfl)) jn jk (by rfl)) (yx (zt vM (jb (i := 0) rfl (Or.inl jE) jq jr) (jb (i := 1) rfl (Or.inl jK) jR jS) (jP _))))))
 jw)
 (je (jF (j7 (jh jO ji T.isinstance jo (ja (jb (i := 1) rfl (Or.inl jK) jR jS) (ja (jL (v := .ty "str") (u := .type "str") yf T.str gf rfl uQ vt) jc (by rfl)) (by rfl)) jn jk (by rfl)))
 (jf (jm (yj (jh jO ji T.isinstance jo (ja (jb (i := 0) rfl (Or.inl jE) jq jr) (ja (jL (v := .ty "str") (u := .type "str") yf T.str gf rfl uQ vt) jc (by rfl)) (by rfl)) jn jk (by rfl)) (yx (zt vM (jb (i := 0) rfl (Or.inl jE) jq jr) (jb (i := 1) rfl (Or.inl jK) jR jS) (jP _))))))
 jw)
 (je (jF (j7 (jh jO ji T.isinstance jo (ja (jb (i := 1) rfl (Or.inl jK) jR jS) (ja (jL (v := .ty "int") (u := .type "int") vy T.int jbe rfl ja8 uI) jc (by rfl)) (by rfl)) jn jk (by rfl)))
 (jf (jm (yj (jh jO ji T.isinstance jo (ja (jb (i := 0) rfl (Or.inl jE) jq jr) (ja (jL (v := .ty "int") (u := .type "int") vy T.int jbe rfl ja8 uI) jc (by rfl)) (by rfl)) jn jk (by rfl)) (yj (je3 (jh jO ji T.isinstance jo (ja (jb (i := 0) rfl (Or.inl jE) jq jr) (ja (jL (v := .ty "bool") (u := .type "bool") zw T.bool gE rfl gh vT) jc (by rfl)) (by rfl)) jn jk (by rfl))) (yx (zt vM (jb (i := 0) rfl (Or.inl jE) jq jr) (jb (i := 1) rfl (Or.inl jK) jR jS) (jP _)))))))
 jw)
 (je (jF (jv jcF (jb (i := 1) rfl (Or.inl jK) jR jS) zD (jP _))
 (jf (jm (zt jcF (jb (i := 0) rfl (Or.inl jE) jq jr) zD (jP _))))
 jw)
 (je (jF (yD (vb (jv jcd (jh jO ji T.isinstance jo (ja (jb (i := 1) rfl (Or.inl jK) jR jS) (ja (jL (v := .ty "tuple") (u := .type "tuple") gW T.tuple zN rfl zM zy) jc (by rfl)) (by rfl)) jn jk (by rfl)) (jh jO ji T.isinstance jo (ja (jb (i := 0) rfl (Or.inl jE) jq jr) (ja (jL (v := .ty "tuple") (u := .type "tuple") gW T.tuple zN rfl zM zy) jc (by rfl)) (by rfl)) jn jk (by rfl)) (jP _)) (va (jv jcd (jh jO ji T.isinstance jo (ja (jb (i := 1) rfl (Or.inl jK) jR jS) (ja (jL (v := .ty "list") (u := .type "list") jaz T.list jjE rfl ji6 jhZ) jc (by rfl)) (by rfl)) jn jk (by rfl)) (jh jO ji T.isinstance jo (ja (jb (i := 0) rfl (Or.inl jE) jq jr) (ja (jL (v := .ty "list") (u := .type "list") jaz T.list jjE rfl ji6 jhZ) jc (by rfl)) (by rfl)) jn jk (by rfl)) (jP _)))))
 (jf (jm yL))
 jw)
 (je (jF (jv jcd (jh jQ uF T.len PySem.boot_len (ja (jb (i := 0) rfl (Or.inl jE) jq jr) jc (by rfl)) yE zJ (by rfl)) (jh jQ uF T.len PySem.boot_len (ja (jb (i := 1) rfl (Or.inl jK) jR jS) jc (by rfl)) yE zJ (by rfl)) (jP _))
 (jf (jm yL))
 jw)
 (je (yi PassesOwn.never rfl (ym jc6 T.range (ja (jh jQ uF T.len PySem.boot_len (ja (jb (i := 1) rfl (Or.inl jK) jR jS) jc (by rfl)) yE zJ (by rfl)) jc (by rfl)) (by rfl)) (jp (i := 2) sc_law_like.nd rfl (Or.inl jal) (by first | exact .inl rfl | exact .inr rfl | assumption))
 (jf (jF (zr (j7 (jg c_law_like hr (by omega) j5 (ja (jC jkF (jb (i := 0) rfl (Or.inl jE) jq jr) (jb (i := 2) rfl (Or.inl jal) jgo jgA) (fun _ _ => rfl)) (ja (jC jkF (jb (i := 1) rfl (Or.inl jK) jR jS) (jb (i := 2) rfl (Or.inl jal) jgo jgA) (fun _ _ => rfl)) jc (by rfl)) (by rfl)) jbo jaI (by rfl))))
 (jf (jm yL))
 jw)))
 (jf (jm yL)))))))))),?_⟩
  rcases hxy with ⟨ha1,hb1⟩ | ⟨ha1,hb1⟩
  case inr =>
   walk_at "rd"
   walk_at "go"
   refine ⟨_,.inl (SqL.of ha1),_,.inl (SqL.of hb1),rfl,?_⟩
   refine jmY (by rw [hl]) ?_
   refine ⟨_,rfl,b,rfl,_,.inl (SqL.of hb1),(ys.length : Int),rfl,by omega,by omega,gc (lo := 0) (n := ((ys.length : Int)).toNat) (fun i σ H2 => ∃ v,σ = [some (.ref a),some (.ref b),v] ∧ H2 = H) ⟨none,rfl,rfl⟩ ?_ ?_⟩
   ·rintro i σ H2 hi ⟨v,rfl,rfl⟩
    have hi2 : i < ys.length := by omega
    have hi1 : i < xs.length := by omega
    have e1 : atI xs (0 + (i : Int)) = some xs[i] := jby (j := i) (by omega) (List.getElem?_eq_getElem hi1)
    have e2 : atI ys (0 + (i : Int)) = some ys[i] := jby (j := i) (by omega) (List.getElem?_eq_getElem hi2)
    walk_at "rd"
    exact .inl ⟨a,_,_,_,rfl,rfl,SqL.of ha1,e1,.inl ⟨b,_,_,_,rfl,rfl,SqL.of hb1,e2,_,_,rfl,hr2 i _ _ (List.getElem?_eq_getElem hi1) (List.getElem?_eq_getElem hi2),true,rfl,iteF rfl⟩⟩
   ·rintro σ H2 ⟨v,rfl,rfl⟩
    walk_at "rd"
    exact q
  walk_at "rd"
  refine ⟨_,_,⟨rfl,rfl⟩,_,hb1.ty,_,rfl,iteN (by decide) ⟨_,_,⟨rfl,rfl⟩,_,hb1.ty,_,rfl,iteN (by decide) ⟨_,_,⟨rfl,rfl⟩,_,hb1.ty,_,rfl,iteN (by decide) ?_⟩⟩⟩
  refine iteN (fun z => by cases z) ⟨_,_,⟨rfl,rfl⟩,_,hb1.ty,_,rfl,_,_,⟨rfl,rfl⟩,_,ha1.ty,_,rfl,rfl,iteN (by decide) ⟨_,_,⟨rfl,rfl⟩,_,hb1.ty,_,rfl,_,_,⟨rfl,rfl⟩,_,ha1.ty,_,rfl,rfl,iteN (by decide) ?_⟩⟩
  refine ⟨_,.inr ha1.sq,_,.inr hb1.sq,rfl,iteN (by rw [hl];simp) ?_⟩
  refine ⟨_,rfl,b,rfl,_,.inr hb1.sq,(ys.length : Int),rfl,by omega,by omega,gc (lo := 0) (n := ((ys.length : Int)).toNat) (fun i σ H2 => ∃ v,σ = [some (.ref a),some (.ref b),v] ∧ H2 = H) ⟨none,rfl,rfl⟩ ?_ ?_⟩
  ·rintro i σ H2 hi ⟨v,rfl,rfl⟩
   have hi2 : i < ys.length := by omega
   have hi1 : i < xs.length := by omega
   have e1 : atI xs (0 + (i : Int)) = some xs[i] := jby (j := i) (by omega) (List.getElem?_eq_getElem hi1)
   have e2 : atI ys (0 + (i : Int)) = some ys[i] := jby (j := i) (by omega) (List.getElem?_eq_getElem hi2)
   walk_at "rd"
   exact .inr (.inl ⟨a,_,_,_,rfl,rfl,ha1.sq,e1,.inr (.inl ⟨b,_,_,_,rfl,rfl,hb1.sq,e2,_,_,rfl,hr2 i _ _ (List.getElem?_eq_getElem hi1) (List.getElem?_eq_getElem hi2),true,rfl,iteF rfl⟩)⟩)
  ·rintro σ H2 ⟨v,rfl,rfl⟩
   walk_at "rd"
   exact q
theorem jgE {f : Addr} {fd : FuncData} (F : Fun K "_law_like" "_law_like" zm f fd) (b : Binds K fd ["_law_found", "_law_due"] []) (m : mg "_law_like" = some (.ref f)) (T : TT mg) : ∀ n : Nat,Cal P w K mg base CX0 "_law_like" (n + 1) ["_law_found", "_law_due"] (jeY K n)
 | 0 => ⟨f,fd,jhK F T fun m h => (by cases h),b,F.kp,m⟩
 | n + 1 => ⟨f,fd,jhK F T fun m' h => (by cases h;exact jgE F b m T n),b,F.kp,m⟩
theorem jed {H : Hp} {i : Int} : ∀ {n : Nat},yW K H n (.int i) (.int i)
 | 0 => .inl ⟨_,rfl,rfl⟩
 | _ + 1 => .inl jed
theorem jjG {H : Hp} {z : Str} : ∀ {n : Nat},yW K H n (.str z) (.str z)
 | 0 => .inr ⟨_,rfl,rfl⟩
 | _ + 1 => .inl jjG
theorem jbz {H : Hp} {n : Nat} {a b : Addr} {xs ys : List V} (h1 : Tp K H a xs) (h2 : Tp K H b ys) (hl : xs.length = ys.length) (h6 : xs.length ≤ 1000000) (h : ∀ (i : Nat) (u v : V),xs[i]? = some u → ys[i]? = some v → yW K H n u v) : yW K H (n + 1) (.ref a) (.ref b) :=
 .inr ⟨a,b,xs,ys,rfl,rfl,.inl ⟨h1,h2⟩,hl,h6,h⟩
theorem jjI {α : Type} {H : Hp} {n : Nat} {R : α → V → Prop} {xs : List α} {us vs : List V} (h1 : AllAt R xs us) (h2 : AllAt R xs vs) (h : ∀ x u v,R x u → R x v → yW K H n u v) (i : Nat) (u v : V) (hu : us[i]? = some u) (hv : vs[i]? = some v) : yW K H n u v := by
 obtain ⟨x,ex,rx⟩ := h1.get hu
 obtain ⟨y,ey,ry⟩ := h2.get hv
 rw [ex] at ey
 cases ey
 exact h x u v rx ry
theorem jly {H : Hp} {r : Row} {u v : V} (h1 : RowAt K H r u) (h2 : RowAt K H r v) : yW K H 1 u v := by
 obtain ⟨a,rfl,ha⟩ := h1
 obtain ⟨b,rfl,hb⟩ := h2
 refine jbz ha hb rfl (by cases r <;> (show _ ≤ 1000000;simp [Row.vs])) fun i u v hu hv => ?_
 rw [hu] at hv
 cases hv
 have hm := List.mem_of_getElem? hu
 have fl : (∃ z,u = .int z) ∨ ∃ z,u = .str z := by
  cases r <;> simp only [Row.vs,List.mem_cons,List.not_mem_nil,or_false] at hm <;> (rcases hm with hm | hm | hm | hm | hm | hm <;> first | exact .inl ⟨_,hm⟩ | exact .inr ⟨_,hm⟩ | exact .inl ⟨_,rfl⟩ | exact .inr ⟨_,rfl⟩)
 rcases fl with ⟨z,rfl⟩ | ⟨z,rfl⟩
 ·exact jed
 ·exact jjG
theorem jmp {H : Hp} {g : Int × Int} {u v : V} (h1 : GoAt K H g u) (h2 : GoAt K H g v) : yW K H 1 u v := by
 obtain ⟨a,rfl,ha⟩ := h1
 obtain ⟨b,rfl,hb⟩ := h2
 refine jbz ha hb rfl (by simp) fun i u v hu hv => ?_
 rw [hu] at hv
 cases hv
 have hm := List.mem_of_getElem? hu
 simp only [List.mem_cons,List.not_mem_nil,or_false] at hm
 rcases hm with rfl | rfl <;> exact jed
theorem jlx {H : Hp} {n : Nat} {a b : Addr} {x y x' y' : V} (h1 : Tp K H a [x,y]) (h2 : Tp K H b [x',y']) (hx : yW K H n x x') (hy : yW K H n y y') : yW K H (n + 1) (.ref a) (.ref b) :=
 jbz h1 h2 rfl (by simp) fun i u v hu hv => by
  match i with
  | 0 => cases hu;cases hv;exact hx
  | 1 => cases hu;cases hv;exact hy
  | i + 2 => cases hu
theorem jjH {H : Hp} {p : Piece} {u v : V} (hr : p.rows.length ≤ 1500) (hg : p.goes.length ≤ 1500) (h1 : PieceAt K H p u) (h2 : PieceAt K H p v) : yW K H 3 u v := by
 obtain ⟨a,ra,ga,rvs,gvs,rfl,a1,a2,a3,a4,a5⟩ := h1
 obtain ⟨b,rb,gb,rws,gws,rfl,b1,b2,b3,b4,b5⟩ := h2
 have l1 := a3.len
 have l2 := b3.len
 have l3 := a5.len
 have l4 := b5.len
 exact jlx a1 b1 (jbz a2 b2 (by omega) (by omega) (jjI a3 b3 fun _ _ _ => jly)) (jbz a4 b4 (by omega) (by omega) (jjI a5 b5 fun _ _ _ => jmp))
theorem jis {H : Hp} {ins nm : Int} {ps : List Piece} {u v : V} (po : PsOk ps) (h1 : TestedAt K H ins nm ps u) (h2 : TestedAt K H ins nm ps v) : yW K H 5 u v := by
 obtain ⟨a,pa,pvs,rfl,a1,a2,a3⟩ := h1
 obtain ⟨b,pb,pws,rfl,b1,b2,b3⟩ := h2
 have l1 := a3.len
 have l2 := b3.len
 have p9 := po.p9
 have hp : ∀ (i : Nat) (u v : V),pvs[i]? = some u → pws[i]? = some v → yW K H 3 u v := fun i u v hu hv => by
  obtain ⟨x,ex,rx⟩ := a3.get hu
  obtain ⟨y,ey,ry⟩ := b3.get hv
  rw [ex] at ey
  cases ey
  have o := po.ok x (List.mem_of_getElem? ex)
  exact jjH o.rl (by have := o.g8;omega) rx ry
 refine jbz a1 b1 rfl (by simp) fun i u v hu hv => ?_
 match i with
 | 0 => cases hu;cases hv;exact jed
 | 1 => cases hu;cases hv;exact jed
 | 2 => cases hu;cases hv;exact jbz a2 b2 (by omega) (by omega) hp
 | i + 3 => cases hu
end
end K3
end
section
namespace K3
open PySem L2
local macro_rules | `(tactic| walk_at "rd") => `(tactic| simp only [vZ,jev,jei,jeh,jeo,iEnum,uC,rPop,ja6,rInD,rMax,rEqD,rNeD,jjS,jdz,rIxS,gF,tM1,jcY,jbC,tFv,tFs,tJc,tJn,iStr,rAny,gg,tTru,jgT,ipL,jkV,tDispN,tTupN,tLstN,jc2,gG,gH,jdw,jbB,jdx,jc0,jcZ,tVar,tC,tOp,tUn,rI,rI0,rU,rEq,rNe,tTest,tChain,tIf,tAnd,tOr,tNot,tAndV,tOrV,tNotV,tB,tSeq,tNext,tDrop,tRet,jdo,tIfS,tAsg,gName,gSub,gTup,gCons,gNil,jc1,rIxL,rIxT,tCB,tCallC,sDPut,tDGet,jdr,vX,tKGet,yY,jdn,jdy,tKIdx,jab,jdq,jaa,tDIn,vY,tAug,ipI,jdR,jaq,tCE,tCEs,tCL,tRevT,tDUpd,v8,jdv,iZipT,iEnumT,jad,jac,cx_P,cx_w,jd7,jd6,tSl,tPart,tNoPart,rSlT,rIn,rCat,rRep,tBM,tBM0,vL,jag,jaf,tFld,sFld,v7,rSub,rAdd,jdp,g9,tPar,tCons,tNil,tTup,tLst,L2.start,tYes,wipe,cx_K,jd8,
 List.map_cons,List.map_nil,List.length_cons,List.length_nil,List.cons_append,List.nil_append,Nat.zero_add,Nat.reduceAdd,Nat.reduceSub,List.replicate_succ,List.replicate_zero,List.getElem?_cons_zero,List.getElem?_cons_succ,List.set_cons_zero,List.set_cons_succ,
 Option.some.injEq,exists_eq_left',exists_eq_left,exists_and_left,V.int.injEq,V.ref.injEq,V.bl.injEq,V.str.injEq,V.ty.injEq,List.cons.injEq,and_true,true_and,decide_eq_true_eq])
section
variable {P : Program} {w : World} {K : PySem.W.Frag} {mg : Str → Option Value} {base : Heap} {f : Addr} {fd : FuncData}
abbrev v6 : Stmt := top 51
theorem sc_law : FnScope ["_law_script", "_law_d", "_law_turn", "_law_tested", "_law_text", "_law_again", "_law_ins", "_law_names", "_law_pieces", "_law_found"] ["_law_script"] (defScope v6) := ⟨rfl,rfl,rfl,by decide +kernel,rfl,by decide +kernel,by decide +kernel⟩
theorem jlf : (defScope v6).names.lookup ("_law_script" : Str) = some .local := by decide +kernel
theorem jdF : (defScope v6).names.lookup ("_law_d" : Str) = some .local := by decide +kernel
theorem jle : (defScope v6).names.lookup ("_law_turn" : Str) = some .local := by decide +kernel
theorem jfe : (defScope v6).names.lookup ("_law_tested" : Str) = some .local := by decide +kernel
theorem jfd : (defScope v6).names.lookup ("_law_text" : Str) = some .local := by decide +kernel
theorem jld : (defScope v6).names.lookup ("_law_again" : Str) = some .local := by decide +kernel
theorem ji8 : (defScope v6).names.lookup ("_law_ins" : Str) = some .local := by decide +kernel
theorem ji7 : (defScope v6).names.lookup ("_law_names" : Str) = some .local := by decide +kernel
theorem jdE : (defScope v6).names.lookup ("_law_pieces" : Str) = some .local := by decide +kernel
theorem jg2 : (defScope v6).names.lookup ("_law_found" : Str) = some .local := by decide +kernel
theorem jeq : (defScope v6).names.lookup ("_law_dice" : Str) = some .globalImplicit := by decide +kernel
theorem jdW : (defScope v6).names.lookup ("range" : Str) = some .globalImplicit := by decide +kernel
theorem jaA : (defScope v6).names.lookup ("_law_some_tested" : Str) = some .globalImplicit := by decide +kernel
theorem uG : (defScope v6).names.lookup ("_law_next" : Str) = some .globalImplicit := by decide +kernel
theorem jbp : (defScope v6).names.lookup ("_law_rows_text" : Str) = some .globalImplicit := by decide +kernel
theorem jdV : (defScope v6).names.lookup ("read_rows" : Str) = some .globalImplicit := by decide +kernel
theorem uy : (defScope v6).names.lookup ("written_rows" : Str) = some .globalImplicit := by decide +kernel
theorem jbd : (defScope v6).names.lookup ("_law_like" : Str) = some .globalImplicit := by decide +kernel
theorem jjn : (defScope v6).names.lookup ("len" : Str) = some .globalImplicit := by decide +kernel
def spLaw (K : PySem.W.Frag) : Sp := fun vs H Q _ => ∃ (a : Addr) (ns : List Int),vs = [.ref a] ∧ Scr K H a ns ∧ ns.length ≤ 63 ∧ ∀ H',Q (.bl true) H'
def LawI (K : PySem.W.Frag) (a d : Addr) (i : Nat) (σ : St) (H2 : Hp) : Prop := ∃ x2 x3 x4 x5 x6 x7 x8 x9,σ = [some (.ref a),some (.ref d),x2,x3,x4,x5,x6,x7,x8,x9] ∧ DiceAt K H2 d a
theorem jeU {R : Nat} : ∀ {ps : List Piece},(∀ p ∈ ps,p.rows.length ≤ R ∧ p.goes.length ≤ 8) → (toks ps).length ≤ ps.length * (R + 9)
 | [],_ => Nat.zero_le _
 | p :: ps,h => by
  have h1 := h p (by simp)
  have h2 := jeU (ps := ps) fun q hq => h q (List.mem_cons_of_mem _ hq)
  have e : toks (p :: ps) = .pc :: (p.rows.map .row ++ p.goes.map .go) ++ toks ps := by simp [toks]
  rw [e,List.length_append,List.length_cons,List.length_append,List.length_map,List.length_map,List.length_cons,Nat.succ_mul]
  omega
def bigP : Piece := ⟨[.num 1999 1999 10006],[(1999,39),(0,-1)]⟩
theorem jme {ps : List Piece} (po : PsOk ps) (l : ps.length ≤ 5) : PsOk (ps ++ List.replicate (40 - ps.length) bigP) := by
 have e : (ps ++ List.replicate (40 - ps.length) bigP).length = 40 := by rw [List.length_append,List.length_replicate];omega
 refine ⟨by omega,by omega,fun p hp => ?_⟩
 rw [e]
 rcases List.mem_append.mp hp with h | h
 ·have o := po.ok p h
  exact ⟨o.rl,o.ro,o.g1,o.g8,fun g hg => ⟨(o.go g hg).1,(o.go g hg).2.1,by have := (o.go g hg).2.2;omega⟩,o.last⟩
 ·rw [List.eq_of_mem_replicate h]
  refine ⟨by decide,fun r hr => ?_,by decide,by decide,fun g hg => ?_,fun g hg => ?_⟩
  ·rw [List.mem_singleton.mp hr];exact ⟨⟨by decide,by decide⟩,⟨by decide,by decide⟩,⟨by decide,by decide⟩⟩
  ·have hg : g ∈ [((1999 : Int),(39 : Int)),(0,-1)] := hg
   simp only [List.mem_cons,List.not_mem_nil,or_false] at hg
   rcases hg with rfl | rfl <;> exact ⟨⟨by decide,by decide⟩,by decide,by decide⟩
  ·cases hg;rfl
theorem jjF {R : Piece → V → Prop} {p : Piece} {v : V} (h : R p v) : ∀ k : Nat,AllAt R (List.replicate k p) (List.replicate k v)
 | 0 => rfl
 | k + 1 => ⟨v,_,rfl,h,jjF h k⟩
theorem jlX (F : Fun K "law" "law" v6 f fd) (T : TT mg) (c_law_dice : Cal P w K mg base CX0 "_law_dice" 1 ["_law_script"] (jiO K)) (c_law_next : Cal P w K mg base CX0 "_law_next" 1 ["_law_dice_here", "_law_many"] (jcD K)) (c_law_some_tested : Cal P w K mg base CX0 "_law_some_tested" 4 ["_law_d", "_law_most"] (spST K)) (c_law_rows_text : Cal P w K mg base CX0 "_law_rows_text" 3 ["_law_tested"] (spRt K)) (c_read_rows : Cal P w K mg base CX0 "read_rows" 8 ["text"] (spRd K)) (c_written_rows : Cal P w K mg base CX0 "written_rows" 8 ["tested"] (spWr K)) (c_law_like : Cal P w K mg base CX0 "_law_like" 6 ["_law_found", "_law_due"] (jeY K 5)) : FnOk P w K mg base CX0 100 f fd ["_law_script"] (spLaw K) := by
 refine F.ok sc_law (fun vs H Q E h => ?_) (fun cdv A outer s H vs Q E hr h => ?_)
 ·obtain ⟨a,ns,rfl,_⟩ := h
  rfl
 obtain ⟨a,ns,rfl,hs,hl,q⟩ := h
 refine ⟨_,(QSs.h (je (jV (i := 1) sc_law.nd rfl (Or.inl jdF) (jg c_law_dice hr (by omega) j5 (ja (jb (i := 0) rfl (Or.inl jlf) vz vA) jc (by rfl)) jeq jgq (by rfl)) (by rfl) (by first | exact .inl rfl | exact .inr rfl | assumption))
 (je (yi PassesOwn.never rfl (ym jdW T.range (ja jd jc (by rfl)) (by rfl)) (jp (i := 2) sc_law.nd rfl (Or.inl jle) (by first | exact .inl rfl | exact .inr rfl | assumption))
 (je (js (vv (jg c_law_some_tested hr (by omega) j5 (ja (jb (i := 1) rfl (Or.inl jdF) jM jN) (ja (jC ix_list (zc (ja jd (ja jd jc (by rfl)) (by rfl))) (jg c_law_next hr (by omega) j5 (ja (jb (i := 1) rfl (Or.inl jdF) jM jN) (ja jd jc (by rfl)) (by rfl)) uG jy (by rfl)) (fun _ _ => rfl)) jc (by rfl)) (by rfl)) jaA jbr (by rfl)) (zL (by rfl) (jD (jp (i := 6) sc_law.nd rfl (Or.inl ji8) (by first | exact .inl rfl | exact .inr rfl | assumption)) (jD (jp (i := 7) sc_law.nd rfl (Or.inl ji7) (by first | exact .inl rfl | exact .inr rfl | assumption)) (jD (jp (i := 8) sc_law.nd rfl (Or.inl jdE) (by first | exact .inl rfl | exact .inr rfl | assumption)) zx))) (by rfl) (by rfl)) (by rfl) (by rfl) (by rfl)))
 (je (js (jF (jv vM (jg c_law_next hr (by omega) j5 (ja (jb (i := 1) rfl (Or.inl jdF) jM jN) (ja jd jc (by rfl)) (by rfl)) uG jy (by rfl)) jd (jP _))
 (jf (js (jV (i := 8) sc_law.nd rfl (Or.inl jdE) (jz je7 (jb (i := 8) rfl (Or.inl jdE) yF yG) (jz (show OpR _ _ (jkV K) from jk5) (jW (ja (jW (ja (jW (ja (jW (ja jd (ja ju (ja jd (ja jd jc (by rfl)) (by rfl)) (by rfl)) (by rfl))) jc (by rfl))) (ja (jW (ja (jW (ja jd (ja jd jc (by rfl)) (by rfl))) (ja (jW (ja jd (ja (uD ja5 jd) jc (by rfl)) (by rfl))) jc (by rfl)) (by rfl))) jc (by rfl)) (by rfl))) jc (by rfl))) (jz ja7 jd (jh jQ jjn T.len PySem.boot_len (ja (jb (i := 8) rfl (Or.inl jdE) yF yG) jc (by rfl)) yE zJ (by rfl))))) (by rfl) (by first | exact .inl rfl | exact .inr rfl | assumption))))
 jw))
 (je (js (jV (i := 3) sc_law.nd rfl (Or.inl jfe) (jW (ja (jb (i := 6) rfl (Or.inl ji8) jbt jbx) (ja (jC ix_list (zc (ja (jb (i := 7) rfl (Or.inl ji7) ve vf) (ja jd jc (by rfl)) (by rfl))) (jg c_law_next hr (by omega) j5 (ja (jb (i := 1) rfl (Or.inl jdF) jM jN) (ja jd jc (by rfl)) (by rfl)) uG jy (by rfl)) (fun _ _ => rfl)) (ja (jb (i := 8) rfl (Or.inl jdE) yF yG) jc (by rfl)) (by rfl)) (by rfl))) (by rfl) (by first | exact .inl rfl | exact .inr rfl | assumption)))
 (je (js (jV (i := 4) sc_law.nd rfl (Or.inl jfd) (jbF ju (jg c_law_rows_text hr (by omega) j5 (ja (jb (i := 3) rfl (Or.inl jfe) yg yh) jc (by rfl)) jbp jcx (by rfl)) (by rfl) (by rfl) (by rfl)) (by rfl) (by first | exact .inl rfl | exact .inr rfl | assumption)))
 (jf (js (yi PassesOwn.never rfl (ym jdW T.range (ja jd jc (by rfl)) (by rfl)) (jp (i := 5) sc_law.nd rfl (Or.inl jld) (by first | exact .inl rfl | exact .inr rfl | assumption))
 (je (js (jV (i := 9) sc_law.nd rfl (Or.inl jg2) (jg c_read_rows hr (by omega) j5 (ja (jb (i := 4) rfl (Or.inl jfd) jaG jaJ) jc (by rfl)) jdV jfw (by rfl)) (by rfl) (by first | exact .inl rfl | exact .inr rfl | assumption)))
 (je (js (jF (yD (vb (zr (j7 (jg c_law_like hr (by omega) j5 (ja (jg c_written_rows hr (by omega) j5 (ja (jb (i := 3) rfl (Or.inl jfe) yg yh) jc (by rfl)) uy gX (by rfl)) (ja (jb (i := 4) rfl (Or.inl jfd) jaG jaJ) jc (by rfl)) (by rfl)) jbd jaI (by rfl)))) (va (zr (j7 (jg c_law_like hr (by omega) j5 (ja (jb (i := 9) rfl (Or.inl jg2) jq jr) (ja (jb (i := 3) rfl (Or.inl jfe) yg yh) jc (by rfl)) (by rfl)) jbd jaI (by rfl)))))))
 (jf (jm yL))
 jw))
 (jf (js (jF (jv jcd (jg c_written_rows hr (by omega) j5 (ja (jb (i := 9) rfl (Or.inl jg2) jq jr) jc (by rfl)) uy gX (by rfl)) (jb (i := 4) rfl (Or.inl jfd) jaG jaJ) (jP _))
 (jf (jm yL))
 jw)))))))))))))
 (jf (jm yL))))),?_⟩
 have sz : (10000000 : Nat) < sizeLine := by rw [sizeLine_eq];decide
 walk_at "rd"
 refine ⟨a,ns,rfl,hs,hl,fun d H1 hd D1 k1 => ?_⟩
 refine ⟨4,rfl,by decide,by decide,gc (lo := 0) (n := 4) (LawI K a d) ⟨_,_,_,_,_,_,_,_,rfl,D1⟩ ?_ ?_⟩
 case refine_2 =>
  rintro σ H2 ⟨x2,x3,x4,x5,x6,x7,x8,x9,rfl,D2⟩
  exact q H2
 rintro i σ H2 hi ⟨x2,x3,x4,x5,x6,x7,x8,x9,rfl,D2⟩
 dsimp only [gName,List.set_cons_succ,List.set_cons_zero]
 refine zf fun R hR => ?_
 walk_at "rd"
 refine ⟨by omega,fun p3 H3 f3 S3 e3 => yX (D2.same S3) fun r4 H4 l4 u4 D4 k4 => ?_⟩
 obtain ⟨mo,emo,hmo⟩ : ∃ mo : Nat,atI [V.int 4,V.int 12] r4 = some (.int mo) ∧ mo ≤ 12 := by
  have e : r4 = 0 ∨ r4 = 1 := by omega
  rcases e with rfl | rfl
  ·exact ⟨4,rfl,by decide⟩
  ·exact ⟨12,rfl,by decide⟩
 refine ⟨_,r4,rfl,SqL.of (k4 _ _ (D2.ne f3) e3),_,emo,d,a,mo,rfl,D4,by omega,fun v ins nm ps H5 i3 n0 n6 po pl rl ta D5 k5 => ?_⟩
 obtain ⟨t,pa,pvs,rfl,h1,h2,h3⟩ := id ta
 refine ⟨t,rfl,_,h1.sq,rfl,_,_,rfl,_,_,rfl,_,_,rfl,rfl,hR _ _ ?_⟩
 clear hR R k5 k4 e3 f3 S3 D2 D4 emo
 refine ut (fun σ H6 => ∃ (pb : Addr) (pws : List V) (qs : List Piece),σ = [some (.ref a),some (.ref d),some (.int (0 + i)),x3,x4,x5,some (.int ins),some (.int nm),some (.ref pb),x9] ∧ Tp K H6 pb pws ∧ AllAt (PieceAt K H6) qs pws ∧ PsOk qs ∧ (toks qs).length ≤ 10000 ∧ DiceAt K H6 d a) ?_ ?_
 ·have t0 : (toks ps).length ≤ ps.length * (12 + 9) := jeU fun p hp => ⟨by have := rl p hp;omega,(po.ok p hp).g8⟩
  walk_at "rd"
  refine yX D5 fun r6 H6 l6 u6 D6 k6 => ⟨rfl,?_⟩
  have tk6 := Keep.tups D5 k6
  have h26 := h2.mono tk6
  have h36 : AllAt (PieceAt K H6) ps pvs := h3.imp fun _ _ z => z.mono tk6
  have pvl := h3.len
  by_cases c : V.int r6 = V.int 0
  case neg => exact iteN c ⟨pvs,h26,ps,h36,po,by omega,D6⟩
  refine iteP c ?_
  refine jeK fun R hR => ?_
  walk_at "rd"
  refine ⟨by omega,fun q1 G1 b1 T1 c1 => ⟨by omega,fun q2 G2 b2 T2 c2 => ⟨by omega,fun q3 G3 b3 T3 c3 => ⟨by omega,fun q4 G4 b4 T4 c4 => ⟨by omega,fun q5 G5 b5 T5 c5 => ⟨by omega,fun q6 G6 b6 T6 c6 => ⟨by omega,fun q7 G7 b7 T7 c7 => ?_⟩⟩⟩⟩⟩⟩⟩
  have T67 := T6.trans T7
  have T57 := T5.trans T67
  have T47 := T4.trans T57
  have T37 := T3.trans T47
  have T27 := T2.trans T37
  have T17 := T1.trans T27
  have pv5 : pvs.length ≤ 5 := by omega
  refine ⟨pvs,.inr (h26.mono (TupKeep.same T17)).sq,_,SqT.of c7,by omega,by omega,(by show 1 ≤ 1;decide),by simp only [List.length_cons,List.length_nil];omega,fun q8 G8 b8 T8 c8 => ⟨_,h26.mono (TupKeep.same (T17.trans T8)),_,.inl c8,?_,fun q9 G9 T9 t9 => hR _ _ ?_⟩⟩
  ·rw [len_rep];simp only [List.length_cons,List.length_nil];omega
  have T89 := T8.trans T9
  have T69 := T17.trans T89
  have big : PieceAt K G9 bigP (.ref q6) := ⟨q6,q2,q5,_,_,rfl,.inl (T9 _ _ (T8 _ _ (T7 _ _ c6))),.inl (T89 _ _ (T37 _ _ c2)),AllAt.one ⟨q1,rfl,.inl (T89 _ _ (T27 _ _ c1))⟩,.inl (T89 _ _ (T67 _ _ c5)),⟨_,_,rfl,⟨q3,rfl,.inl (T89 _ _ (T47 _ _ c3))⟩,AllAt.one ⟨q4,rfl,.inl (T89 _ _ (T57 _ _ c4))⟩⟩⟩
  have ek : ((40 : Int) - (pvs.length : Int)).toNat = 40 - ps.length := by omega
  have ef : (List.replicate (40 - ps.length) [V.ref q6]).flatten = List.replicate (40 - ps.length) (V.ref q6) := by
   generalize 40 - ps.length = n
   induction n with
   | zero => rfl
   | succ n ih => rw [List.replicate_succ,List.flatten_cons,ih];rfl
  rw [ek,ef] at t9
  refine ⟨q9,rfl,_,t9,ps ++ List.replicate (40 - ps.length) bigP,(h36.imp fun _ _ z => z.mono (TupKeep.same T69)).app (jjF big _),jme po pl,?_,D6.same T69⟩
  have := jeU (R := 12) (ps := ps ++ List.replicate (40 - ps.length) bigP) fun p hp => by
   rcases List.mem_append.mp hp with h | h
   ·exact ⟨by have := rl p h;omega,(po.ok p h).g8⟩
   ·rw [List.eq_of_mem_replicate h];exact ⟨by decide,by decide⟩
  rw [List.length_append,List.length_replicate] at this
  have e : ps.length + (40 - ps.length) = 40 := by omega
  rw [e] at this
  omega
 clear ta h1 h2 h3 D5 po pl rl k1 hd D1
 rintro σ H6 ⟨pb,pws,qs,rfl,h2,h3,po,tl,D6⟩
 refine zf fun R hR => ?_
 walk_at "rd"
 refine ⟨by omega,fun p7 H7 f7 S7 e7 => yX (D6.same S7) fun r8 H8 l8 u8 D8 k8 => ?_⟩
 obtain ⟨n2,en,hn1,hn2⟩ : ∃ n2 : Nat,atI [V.int nm,V.int 99] r8 = some (.int n2) ∧ ins ≤ n2 ∧ n2 ≤ 99 := by
  have e : r8 = 0 ∨ r8 = 1 := by omega
  rcases e with rfl | rfl
  ·exact ⟨nm,rfl,n0,by omega⟩
  ·exact ⟨99,rfl,by omega,by decide⟩
 refine ⟨_,r8,rfl,SqL.of (k8 _ _ (D6.ne f7) e7),_,en,by omega,fun p9 H9 f9 S9 e9 => hR _ _ ?_⟩
 clear hR R
 have tk : TupKeep H6 H9 := (TupKeep.same S7).trans ((Keep.tups (D6.same S7) k8).trans (TupKeep.same S9))
 have ta : TestedAt K H9 ins n2 qs (.ref p9) := ⟨p9,pb,pws,rfl,.inl e9,h2.mono tk,h3.imp fun _ _ z => z.mono tk⟩
 have D9 := D8.same S9
 clear h2 h3 tk e9 f9 e7 f7 k8 S7 en D6 D8
 have tok := jeT po
 refine zf fun R hR => ?_
 walk_at "rd"
 refine ⟨⟨_,rfl⟩,ins,n2,qs,_,rfl,ta,i3,hn2,po,tl,fun l H10 S10 e10 => ?_⟩
 refine ⟨l,rfl,_,.inl (SqL.of e10),?_,hR _ _ ?_⟩
 ·have b := jfP (f := fun z : Str => z.length) (k := 40) (l := (zG ins n2 qs).map (Txt.join " ")) fun z hz => by
   obtain ⟨ws,hw,rfl⟩ := List.mem_map.mp hz
   exact jfj (by omega) (by omega) tok hw
  have e : ((zG ins n2 qs).map (Txt.join " ")).length ≤ 10001 := by simp only [zG,List.length_cons,List.length_map];omega
  have m := Nat.mul_le_mul_right 40 e
  rw [show (Str.ofString "\n").length = 1 by decide +kernel]
  omega
 clear hR R
 have ta10 := ta.mono (TupKeep.same S10)
 have D10 := D9.same S10
 clear ta D9 S10 e10
 have et : Txt.join (Str.ofString "\n") ((zG ins n2 qs).map (Txt.join " ")) = jcV ins n2 qs := rfl
 rw [et]
 clear et
 refine jeK fun R hR => ?_
 refine ⟨2,rfl,by decide,by decide,gc (lo := 0) (n := 2) (fun j σ H11 => ∃ x5 x9,σ = [some (.ref a),some (.ref d),some (.int (0 + i)),some (.ref p9),some (.str (jcV ins n2 qs)),x5,some (.int ins),some (.int nm),some (.ref pb),x9] ∧ TestedAt K H11 ins n2 qs (.ref p9) ∧ DiceAt K H11 d a) ⟨_,_,rfl,ta10,D10⟩ ?_ ?_⟩
 case refine_2 =>
  rintro σ H11 ⟨x5,x9,rfl,_,D11⟩
  exact hR _ _ ⟨_,_,_,_,_,_,_,_,rfl,D11⟩
 rintro j σ H11 hj ⟨x5,x9,rfl,ta11,D11⟩
 dsimp only [gName,List.set_cons_succ,List.set_cons_zero]
 refine zf fun R hR => ?_
 walk_at "rd"
 refine ⟨ins,n2,qs,rfl,i3,hn1,hn2,po,tl,fun v H12 S12 t12 => hR _ _ ?_⟩
 clear hR R
 have ta12 := ta11.mono (TupKeep.same S12)
 have D12 := D11.same S12
 refine zf fun R hR => ?_
 walk_at "rd"
 refine ⟨ins,n2,qs,_,rfl,ta12,i3,hn1,hn2,po,tl,fun H13 S13 => ?_⟩
 have up : ∀ m : Nat,yW K H13 m (.str (jcV ins n2 qs)) (.str (jcV ins n2 qs)) := fun m => by
  induction m with
  | zero => exact .inr ⟨_,rfl,rfl⟩
  | succ m ih => exact .inl ih
 have t13 := t12.mono (TupKeep.same S13)
 have ta13 := ta12.mono (TupKeep.same S13)
 have D13 := D12.same S13
 refine ⟨_,_,rfl,up 5,true,rfl,iteN (by decide) ⟨_,_,rfl,jis po t13 ta13,true,rfl,iteN (by decide) (hR _ _ ?_)⟩⟩
 clear hR R
 refine jeK fun R hR => ?_
 walk_at "rd"
 refine ⟨ins,n2,qs,_,rfl,t13,i3,hn1,hn2,po,tl,fun H14 S14 => ?_⟩
 refine ⟨by simp [scal],iteN (by rw [decide_eq_true rfl];decide) (hR _ _ ⟨_,_,rfl,ta13.mono (TupKeep.same S14),D13.same S14⟩)⟩
end
end K3
end
section
set_option maxHeartbeats 0
namespace K3
open PySem L2 PySem.W PyProof.Rows
theorem jhX {K : PySem.W.Frag} {h : Heap} {mg : Str → Option Value} (X : K.In h) (G : h.Ns mainGlobals mg) {x : Str} {st : Stmt} {ps : List Str} {f : Addr} {od an : Option Addr} {sl : Array (Option Value)} {oc kV dc pm cd ct : Value}
  (a : PySem.W.nsIn K mainGlobals x = some (some (.ref f))) (l : K.lookup f = some ⟨oc,od,.func (PySem.W.fnOf x x (defArgs st) (defBody st) (defScope st) .none kV dc pm an cd ct),sl⟩) (c : PySem.W.codeIn K cd x = true) (k : PySem.W.keepIn K (.ref f) = true)
  (hb : ∀ (kV doc pm : Value) (an : Option Addr) (cdv ct : Value) (us : List Value),us.length = ps.length → bindArgs (PySem.W.fnOf x x (defArgs st) (defBody st) (defScope st) .none kV doc pm an cdv ct) ⟨us,[]⟩ = pure (ps.zip us)) :
  ∃ f fd,Fun K x x st f fd ∧ Binds K fd ps [] ∧ mg x = some (.ref f) :=
 ⟨f,_,jkI (st := st) l c k,(jkI (st := st) l c k).binds hb,PySem.W.mg_of X G a⟩
def jlr (w : World) (e : Str × Tok × Value) : DictEntry := ⟨PyData.keyHash w.params e.1,.str e.1 e.2.1,e.2.2⟩
def kvOf (e : Str × Tok × Value) : Key × Value := (Sum.inr e.1,e.2.2)
theorem jdg {P : Program} {w : World} : ∀ es : List (Str × Tok × Value),Pairs (zV P w) (es.map (jlr w)) (es.map kvOf)
 | [] => .nil
 | e :: r => .cons (jen (k := Sum.inr e.1) ⟨e.2.1,rfl⟩) rfl (jdg r)
theorem jm5 {P : Program} {w : World} {K : PySem.W.Frag} {a : Addr} {es : List (Str × Tok × Value)} {ep : Nat} (ha : (a == sysModules) = false) (l : K.lookup a = some { cls := .type "dict",data := .dict (es.map (jlr w)).toArray ep }) (nd : ((es.map kvOf).map (·.1)).Nodup) : KD P w K a (es.map kvOf) :=
 ⟨ha,fun h X => ⟨_,_,_,X _ _ l,⟨rfl,rfl,rfl⟩,rfl,fun e he => by
  have he : e ∈ es.map (jlr w) := by simpa using he
  obtain ⟨x,_,rfl⟩ := List.mem_map.mp he
  exact ⟨Sum.inr x.1,jen (k := Sum.inr x.1) ⟨x.2.1,rfl⟩,rfl⟩,jdg es,nd⟩⟩
section
variable {w : World} {mg : Str → Option Value} {h : Heap}
set_option hygiene false in
local macro_rules | `(tactic| walk_at "dmdef_mk_1") => `(tactic| (refine' jhX KX G ?a ?l ?c ?k (fun _ _ _ _ _ _ us hl => match us,hl with | [_],_ => rfl);(case a => exact rfl);(case l => exact rfl);(case c => kernel_rfl);(case k => kernel_rfl)))
set_option hygiene false in
local macro_rules | `(tactic| walk_at "dmdef_mk_3") => `(tactic| (refine' jhX KX G ?a ?l ?c ?k (fun _ _ _ _ _ _ us hl => match us,hl with | [_,_,_],_ => rfl);(case a => exact rfl);(case l => exact rfl);(case c => kernel_rfl);(case k => kernel_rfl)))
set_option hygiene false in
local macro_rules | `(tactic| walk_at "dmdef_mk_2") => `(tactic| (refine' jhX KX G ?a ?l ?c ?k (fun _ _ _ _ _ _ us hl => match us,hl with | [_,_],_ => rfl);(case a => exact rfl);(case l => exact rfl);(case c => kernel_rfl);(case k => kernel_rfl)))
set_option hygiene false in
local macro_rules | `(tactic| walk_at "dmdef_mk_4") => `(tactic| (refine' jhX KX G ?a ?l ?c ?k (fun _ _ _ _ _ _ us hl => match us,hl with | [_,_,_,_],_ => rfl);(case a => exact rfl);(case l => exact rfl);(case c => kernel_rfl);(case k => kernel_rfl)))
theorem jhv (KX : (Hd.K w.params).In h) (G : h.Ns mainGlobals mg) : ∃ f fd,Fun (Hd.K w.params) "is_number" "is_number" yK f fd ∧ Binds (Hd.K w.params) fd ["value"] [] ∧ mg "is_number" = some (.ref f) := by
 walk_at "dmdef_mk_1"
theorem jhu (KX : (Hd.K w.params).In h) (G : h.Ns mainGlobals mg) : ∃ f fd,Fun (Hd.K w.params) "is_within" "is_within" yJ f fd ∧ Binds (Hd.K w.params) fd ["value", "least", "most"] [] ∧ mg "is_within" = some (.ref f) := by
 walk_at "dmdef_mk_3"
theorem jix (KX : (Hd.K w.params).In h) (G : h.Ns mainGlobals mg) : ∃ f fd,Fun (Hd.K w.params) "is_worth" "is_worth" vU f fd ∧ Binds (Hd.K w.params) fd ["value"] [] ∧ mg "is_worth" = some (.ref f) := by
 walk_at "dmdef_mk_1"
theorem jeA (KX : (Hd.K w.params).In h) (G : h.Ns mainGlobals mg) : ∃ f fd,Fun (Hd.K w.params) "check_tested" "check_tested" zb f fd ∧ Binds (Hd.K w.params) fd ["tested"] [] ∧ mg "check_tested" = some (.ref f) := by
 walk_at "dmdef_mk_1"
theorem jhw (KX : (Hd.K w.params).In h) (G : h.Ns mainGlobals mg) : ∃ f fd,Fun (Hd.K w.params) "is_framed" "is_framed" zj f fd ∧ Binds (Hd.K w.params) fd ["tested"] [] ∧ mg "is_framed" = some (.ref f) := by
 walk_at "dmdef_mk_1"
theorem jfJ (KX : (Hd.K w.params).In h) (G : h.Ns mainGlobals mg) : ∃ f fd,Fun (Hd.K w.params) "check_piece" "check_piece" jY f fd ∧ Binds (Hd.K w.params) fd ["at", "piece", "pieces"] [] ∧ mg "check_piece" = some (.ref f) := by
 walk_at "dmdef_mk_3"
theorem jkz (KX : (Hd.K w.params).In h) (G : h.Ns mainGlobals mg) : ∃ f fd,Fun (Hd.K w.params) "is_row" "is_row" zY f fd ∧ Binds (Hd.K w.params) fd ["row"] [] ∧ mg "is_row" = some (.ref f) := by
 walk_at "dmdef_mk_1"
theorem jht (KX : (Hd.K w.params).In h) (G : h.Ns mainGlobals mg) : ∃ f fd,Fun (Hd.K w.params) "may_stand" "may_stand" zX f fd ∧ Binds (Hd.K w.params) fd ["place", "number"] [] ∧ mg "may_stand" = some (.ref f) := by
 walk_at "dmdef_mk_2"
theorem jjM (KX : (Hd.K w.params).In h) (G : h.Ns mainGlobals mg) : ∃ f fd,Fun (Hd.K w.params) "is_test" "is_test" uK f fd ∧ Binds (Hd.K w.params) fd ["value"] [] ∧ mg "is_test" = some (.ref f) := by
 walk_at "dmdef_mk_1"
theorem jiy (KX : (Hd.K w.params).In h) (G : h.Ns mainGlobals mg) : ∃ f fd,Fun (Hd.K w.params) "are_goes" "are_goes" zO f fd ∧ Binds (Hd.K w.params) fd ["goes", "pieces"] [] ∧ mg "are_goes" = some (.ref f) := by
 walk_at "dmdef_mk_2"
theorem jlz (KX : (Hd.K w.params).In h) (G : h.Ns mainGlobals mg) : ∃ f fd,Fun (Hd.K w.params) "is_go" "is_go" vK f fd ∧ Binds (Hd.K w.params) fd ["go", "pieces"] [] ∧ mg "is_go" = some (.ref f) := by
 walk_at "dmdef_mk_2"
theorem jhs (KX : (Hd.K w.params).In h) (G : h.Ns mainGlobals mg) : ∃ f fd,Fun (Hd.K w.params) "number_of" "number_of" zW f fd ∧ Binds (Hd.K w.params) fd ["word", "most"] [] ∧ mg "number_of" = some (.ref f) := by
 walk_at "dmdef_mk_2"
theorem jey (KX : (Hd.K w.params).In h) (G : h.Ns mainGlobals mg) : ∃ f fd,Fun (Hd.K w.params) "written_rows" "written_rows" j0 f fd ∧ Binds (Hd.K w.params) fd ["tested"] [] ∧ mg "written_rows" = some (.ref f) := by
 walk_at "dmdef_mk_1"
theorem jgN (KX : (Hd.K w.params).In h) (G : h.Ns mainGlobals mg) : ∃ f fd,Fun (Hd.K w.params) "line_of_go" "line_of_go" vB f fd ∧ Binds (Hd.K w.params) fd ["test", "piece"] [] ∧ mg "line_of_go" = some (.ref f) := by
 walk_at "dmdef_mk_2"
theorem jhr (KX : (Hd.K w.params).In h) (G : h.Ns mainGlobals mg) : ∃ f fd,Fun (Hd.K w.params) "read_rows" "read_rows" j6 f fd ∧ Binds (Hd.K w.params) fd ["text"] [] ∧ mg "read_rows" = some (.ref f) := by
 walk_at "dmdef_mk_1"
theorem jjN (KX : (Hd.K w.params).In h) (G : h.Ns mainGlobals mg) : ∃ f fd,Fun (Hd.K w.params) "head_of" "head_of" uL f fd ∧ Binds (Hd.K w.params) fd ["words"] [] ∧ mg "head_of" = some (.ref f) := by
 walk_at "dmdef_mk_1"
theorem jgM (KX : (Hd.K w.params).In h) (G : h.Ns mainGlobals mg) : ∃ f fd,Fun (Hd.K w.params) "numbers_of" "numbers_of" zA f fd ∧ Binds (Hd.K w.params) fd ["words", "most"] [] ∧ mg "numbers_of" = some (.ref f) := by
 walk_at "dmdef_mk_2"
theorem jiA (KX : (Hd.K w.params).In h) (G : h.Ns mainGlobals mg) : ∃ f fd,Fun (Hd.K w.params) "add_line" "add_line" yw f fd ∧ Binds (Hd.K w.params) fd ["words", "place", "pieces"] [] ∧ mg "add_line" = some (.ref f) := by
 walk_at "dmdef_mk_3"
theorem jiz (KX : (Hd.K w.params).In h) (G : h.Ns mainGlobals mg) : ∃ f fd,Fun (Hd.K w.params) "add_told" "add_told" uM f fd ∧ Binds (Hd.K w.params) fd ["told", "place", "held"] [] ∧ mg "add_told" = some (.ref f) := by
 walk_at "dmdef_mk_3"
theorem jlA (KX : (Hd.K w.params).In h) (G : h.Ns mainGlobals mg) : ∃ f fd,Fun (Hd.K w.params) "go_of" "go_of" uB f fd ∧ Binds (Hd.K w.params) fd ["words"] [] ∧ mg "go_of" = some (.ref f) := by
 walk_at "dmdef_mk_1"
theorem jky (KX : (Hd.K w.params).In h) (G : h.Ns mainGlobals mg) : ∃ f fd,Fun (Hd.K w.params) "row_of" "row_of" yZ f fd ∧ Binds (Hd.K w.params) fd ["words"] [] ∧ mg "row_of" = some (.ref f) := by
 walk_at "dmdef_mk_1"
theorem jiw (KX : (Hd.K w.params).In h) (G : h.Ns mainGlobals mg) : ∃ f fd,Fun (Hd.K w.params) "_law_dice" "_law_dice" yS f fd ∧ Binds (Hd.K w.params) fd ["_law_script"] [] ∧ mg "_law_dice" = some (.ref f) := by
 walk_at "dmdef_mk_1"
theorem jiu (KX : (Hd.K w.params).In h) (G : h.Ns mainGlobals mg) : ∃ f fd,Fun (Hd.K w.params) "_law_next" "_law_next" yR f fd ∧ Binds (Hd.K w.params) fd ["_law_dice_here", "_law_many"] [] ∧ mg "_law_next" = some (.ref f) := by
 walk_at "dmdef_mk_2"
theorem jiv (KX : (Hd.K w.params).In h) (G : h.Ns mainGlobals mg) : ∃ f fd,Fun (Hd.K w.params) "_law_like" "_law_like" zm f fd ∧ Binds (Hd.K w.params) fd ["_law_found", "_law_due"] [] ∧ mg "_law_like" = some (.ref f) := by
 walk_at "dmdef_mk_2"
theorem jez (KX : (Hd.K w.params).In h) (G : h.Ns mainGlobals mg) : ∃ f fd,Fun (Hd.K w.params) "_law_some_row" "_law_some_row" jI f fd ∧ Binds (Hd.K w.params) fd ["_law_d", "_law_w"] [] ∧ mg "_law_some_row" = some (.ref f) := by
 walk_at "dmdef_mk_2"
theorem jee (KX : (Hd.K w.params).In h) (G : h.Ns mainGlobals mg) : ∃ f fd,Fun (Hd.K w.params) "_law_some_rows" "_law_some_rows" jZ f fd ∧ Binds (Hd.K w.params) fd ["_law_d", "_law_names", "_law_most"] [] ∧ mg "_law_some_rows" = some (.ref f) := by
 walk_at "dmdef_mk_3"
theorem jef (KX : (Hd.K w.params).In h) (G : h.Ns mainGlobals mg) : ∃ f fd,Fun (Hd.K w.params) "_law_some_goes" "_law_some_goes" jU f fd ∧ Binds (Hd.K w.params) fd ["_law_d", "_law_made", "_law_off", "_law_many"] [] ∧ mg "_law_some_goes" = some (.ref f) := by
 walk_at "dmdef_mk_4"
theorem jcC (KX : (Hd.K w.params).In h) (G : h.Ns mainGlobals mg) : ∃ f fd,Fun (Hd.K w.params) "_law_some_tested" "_law_some_tested" jA f fd ∧ Binds (Hd.K w.params) fd ["_law_d", "_law_most"] [] ∧ mg "_law_some_tested" = some (.ref f) := by
 walk_at "dmdef_mk_2"
theorem jeg (KX : (Hd.K w.params).In h) (G : h.Ns mainGlobals mg) : ∃ f fd,Fun (Hd.K w.params) "_law_rows_text" "_law_rows_text" j1 f fd ∧ Binds (Hd.K w.params) fd ["_law_tested"] [] ∧ mg "_law_rows_text" = some (.ref f) := by
 walk_at "dmdef_mk_1"
theorem D_law (KX : (Hd.K w.params).In h) (G : h.Ns mainGlobals mg) : ∃ f fd,Fun (Hd.K w.params) "law" "law" v6 f fd ∧ Binds (Hd.K w.params) fd ["_law_script"] [] ∧ mg "law" = some (.ref f) := by
 walk_at "dmdef_mk_1"
theorem jm3 (KX : (Hd.K w.params).In h) (G : h.Ns mainGlobals mg) : TT mg where
 ValueError := PySem.W.mg_none_of KX G (by kernel_rfl)
 any := PySem.W.mg_none_of KX G (by kernel_rfl)
 bool := PySem.W.mg_none_of KX G (by kernel_rfl)
 enumerate := PySem.W.mg_none_of KX G (by kernel_rfl)
 int := PySem.W.mg_none_of KX G (by kernel_rfl)
 isinstance := PySem.W.mg_none_of KX G (by kernel_rfl)
 len := PySem.W.mg_none_of KX G (by kernel_rfl)
 list := PySem.W.mg_none_of KX G (by kernel_rfl)
 max := PySem.W.mg_none_of KX G (by kernel_rfl)
 range := PySem.W.mg_none_of KX G (by kernel_rfl)
 str := PySem.W.mg_none_of KX G (by kernel_rfl)
 tuple := PySem.W.mg_none_of KX G (by kernel_rfl)
 zip := PySem.W.mg_none_of KX G (by kernel_rfl)
 WORTHS := ⟨_,PySem.W.mg_of KX G (by rfl)⟩
 MOST_INS := ⟨_,PySem.W.mg_of KX G (by rfl)⟩
 MOST_NAMES := ⟨_,PySem.W.mg_of KX G (by rfl)⟩
 REGISTERS := ⟨_,PySem.W.mg_of KX G (by rfl)⟩
 TESTS := ⟨_,PySem.W.mg_of KX G (by rfl)⟩
 MOST_PIECES := ⟨_,PySem.W.mg_of KX G (by rfl)⟩
 MOST_ROWS := ⟨_,PySem.W.mg_of KX G (by rfl)⟩
 MOST_GOES := ⟨_,PySem.W.mg_of KX G (by rfl)⟩
 MOST_OF_NUMBER := ⟨_,PySem.W.mg_of KX G (by rfl)⟩
 MOST_OF_TEST := ⟨_,PySem.W.mg_of KX G (by rfl)⟩
 MOST_OF_PIECE := ⟨_,PySem.W.mg_of KX G (by rfl)⟩
 MOST_OF_NAME := ⟨_,PySem.W.mg_of KX G (by rfl)⟩
 FIGURES := ⟨_,PySem.W.mg_of KX G (by rfl)⟩
def esT : List (Str × Tok × Value) := [("num",302,.ref 88),("copy",305,.ref 89),("not",308,.ref 90),("get",311,.ref 91),("add",314,.ref 92),("take",318,.ref 93),("times",322,.ref 94),("over",326,.ref 95),("rest",330,.ref 96),("less",334,.ref 97),("same",338,.ref 98),("put",342,.ref 99),("say",345,.ref 100),("stop",347,.ref 101),("test",349,.ref 102)]
theorem jiC {P : Program} (KX : (Hd.K w.params).In h) (G : h.Ns mainGlobals mg) : WordsT P w (Hd.K w.params) mg where
 D := by
  refine ⟨87,esT.map kvOf,PySem.W.mg_of KX G (by rfl),jm5 (ep := 15) (by decide) (by rfl) (by decide +kernel),fun x ok => ?_⟩
  cases x with
  | num t r n => exact ⟨88,by rfl,fun H => .inr ⟨_,_,_,rfl,rfl,rfl,by decide,(.cons ⟨_,rfl⟩ (.cons ⟨_,rfl⟩ .nil))⟩⟩
  | copy t r a => exact ⟨89,by rfl,fun H => .inr ⟨_,_,_,rfl,rfl,rfl,by decide,(.cons ⟨_,rfl⟩ (.cons ⟨_,rfl⟩ .nil))⟩⟩
  | not t r a => exact ⟨90,by rfl,fun H => .inr ⟨_,_,_,rfl,rfl,rfl,by decide,(.cons ⟨_,rfl⟩ (.cons ⟨_,rfl⟩ .nil))⟩⟩
  | get t r a => exact ⟨91,by rfl,fun H => .inr ⟨_,_,_,rfl,rfl,rfl,by decide,(.cons ⟨_,rfl⟩ (.cons ⟨_,rfl⟩ .nil))⟩⟩
  | put t a b => exact ⟨99,by rfl,fun H => .inr ⟨_,_,_,rfl,rfl,rfl,by decide,(.cons ⟨_,rfl⟩ (.cons ⟨_,rfl⟩ .nil))⟩⟩
  | say t a => exact ⟨100,by rfl,fun H => .inr ⟨_,_,_,rfl,rfl,rfl,by decide,(.cons ⟨_,rfl⟩ .nil)⟩⟩
  | stop t a => exact ⟨101,by rfl,fun H => .inr ⟨_,_,_,rfl,rfl,rfl,by decide,(.cons ⟨_,rfl⟩ .nil)⟩⟩
  | test t p q a => exact ⟨102,by rfl,fun H => .inr ⟨_,_,_,rfl,rfl,rfl,by decide,(.cons ⟨_,rfl⟩ (.cons ⟨_,rfl⟩ (.cons ⟨_,rfl⟩ .nil)))⟩⟩
  | op wd t r a b =>
   cases wd with
   | add => exact ⟨92,by rfl,fun H => .inr ⟨_,_,_,rfl,rfl,rfl,by decide,(.cons ⟨_,rfl⟩ (.cons ⟨_,rfl⟩ (.cons ⟨_,rfl⟩ .nil)))⟩⟩
   | take => exact ⟨93,by rfl,fun H => .inr ⟨_,_,_,rfl,rfl,rfl,by decide,(.cons ⟨_,rfl⟩ (.cons ⟨_,rfl⟩ (.cons ⟨_,rfl⟩ .nil)))⟩⟩
   | times => exact ⟨94,by rfl,fun H => .inr ⟨_,_,_,rfl,rfl,rfl,by decide,(.cons ⟨_,rfl⟩ (.cons ⟨_,rfl⟩ (.cons ⟨_,rfl⟩ .nil)))⟩⟩
   | over => exact ⟨95,by rfl,fun H => .inr ⟨_,_,_,rfl,rfl,rfl,by decide,(.cons ⟨_,rfl⟩ (.cons ⟨_,rfl⟩ (.cons ⟨_,rfl⟩ .nil)))⟩⟩
   | rest => exact ⟨96,by rfl,fun H => .inr ⟨_,_,_,rfl,rfl,rfl,by decide,(.cons ⟨_,rfl⟩ (.cons ⟨_,rfl⟩ (.cons ⟨_,rfl⟩ .nil)))⟩⟩
   | less => exact ⟨97,by rfl,fun H => .inr ⟨_,_,_,rfl,rfl,rfl,by decide,(.cons ⟨_,rfl⟩ (.cons ⟨_,rfl⟩ (.cons ⟨_,rfl⟩ .nil)))⟩⟩
   | same => exact ⟨98,by rfl,fun H => .inr ⟨_,_,_,rfl,rfl,rfl,by decide,(.cons ⟨_,rfl⟩ (.cons ⟨_,rfl⟩ (.cons ⟨_,rfl⟩ .nil)))⟩⟩
   | and => exact absurd rfl ok.1.1
   | or => exact absurd rfl ok.1.2
end
end K3
end
section
set_option maxHeartbeats 0
namespace K3
open PySem L2 PySem.W PyProof.Rows
theorem all_ok {P : Program} {w : World} {mg : Str → Option Value} {h base : Heap} {f : Addr} {fd : FuncData} (KX : (Hd.K w.params).In h) (G : h.Ns mainGlobals mg) (F_law : Fun (Hd.K w.params) "law" "law" v6 f fd) : FnOk P w (Hd.K w.params) mg base CX0 100 f fd ["_law_script"] (spLaw (Hd.K w.params)) := by
 have T := jm3 KX G
 have WT := jiC (P := P) KX G
 obtain ⟨f_law_dice,d_law_dice,F_law_dice,b_law_dice,m_law_dice⟩ := jiw KX G
 have c_law_dice : Cal P w (Hd.K w.params) mg base CX0 "_law_dice" 1 ["_law_script"] (jiO (Hd.K w.params)) := ⟨f_law_dice,d_law_dice,jk9 F_law_dice T,b_law_dice,F_law_dice.kp,m_law_dice⟩
 obtain ⟨f_law_next,d_law_next,F_law_next,b_law_next,m_law_next⟩ := jiu KX G
 have c_law_next : Cal P w (Hd.K w.params) mg base CX0 "_law_next" 1 ["_law_dice_here", "_law_many"] (jcD (Hd.K w.params)) := ⟨f_law_next,d_law_next,jk7 F_law_next T,b_law_next,F_law_next.kp,m_law_next⟩
 obtain ⟨f_law_some_row,d_law_some_row,F_law_some_row,b_law_some_row,m_law_some_row⟩ := jez KX G
 have c_law_some_row : Cal P w (Hd.K w.params) mg base CX0 "_law_some_row" 2 ["_law_d", "_law_w"] (spSR (Hd.K w.params)) := ⟨f_law_some_row,d_law_some_row,jmz F_law_some_row T c_law_next,b_law_some_row,F_law_some_row.kp,m_law_some_row⟩
 obtain ⟨f_law_some_rows,d_law_some_rows,F_law_some_rows,b_law_some_rows,m_law_some_rows⟩ := jee KX G
 have c_law_some_rows : Cal P w (Hd.K w.params) mg base CX0 "_law_some_rows" 3 ["_law_d", "_law_names", "_law_most"] (jkP (Hd.K w.params)) := ⟨f_law_some_rows,d_law_some_rows,jlT F_law_some_rows T c_law_next c_law_some_row,b_law_some_rows,F_law_some_rows.kp,m_law_some_rows⟩
 obtain ⟨f_law_some_goes,d_law_some_goes,F_law_some_goes,b_law_some_goes,m_law_some_goes⟩ := jef KX G
 have c_law_some_goes : Cal P w (Hd.K w.params) mg base CX0 "_law_some_goes" 2 ["_law_d", "_law_made", "_law_off", "_law_many"] (spSG (Hd.K w.params)) := ⟨f_law_some_goes,d_law_some_goes,jmA F_law_some_goes T c_law_next,b_law_some_goes,F_law_some_goes.kp,m_law_some_goes⟩
 obtain ⟨f_law_some_tested,d_law_some_tested,F_law_some_tested,b_law_some_tested,m_law_some_tested⟩ := jcC KX G
 have c_law_some_tested : Cal P w (Hd.K w.params) mg base CX0 "_law_some_tested" 4 ["_law_d", "_law_most"] (spST (Hd.K w.params)) := ⟨f_law_some_tested,d_law_some_tested,jmy F_law_some_tested T c_law_next c_law_some_rows c_law_some_goes,b_law_some_tested,F_law_some_tested.kp,m_law_some_tested⟩
 obtain ⟨f_law_rows_text,d_law_rows_text,F_law_rows_text,b_law_rows_text,m_law_rows_text⟩ := jeg KX G
 have c_law_rows_text : Cal P w (Hd.K w.params) mg base CX0 "_law_rows_text" 3 ["_law_tested"] (spRt (Hd.K w.params)) := ⟨f_law_rows_text,d_law_rows_text,jmC F_law_rows_text T,b_law_rows_text,F_law_rows_text.kp,m_law_rows_text⟩
 obtain ⟨f_number_of,d_number_of,F_number_of,b_number_of,m_number_of⟩ := jhs KX G
 have c_number_of : Cal P w (Hd.K w.params) mg base CX0 "number_of" 2 ["word", "most"] spNo := ⟨f_number_of,d_number_of,jmF F_number_of T,b_number_of,F_number_of.kp,m_number_of⟩
 obtain ⟨f_numbers_of,d_numbers_of,F_numbers_of,b_numbers_of,m_numbers_of⟩ := jgM KX G
 have c_numbers_of : Cal P w (Hd.K w.params) mg base CX0 "numbers_of" 3 ["words", "most"] spNs := ⟨f_numbers_of,d_numbers_of,jmE F_numbers_of T c_number_of,b_numbers_of,F_numbers_of.kp,m_numbers_of⟩
 obtain ⟨f_head_of,d_head_of,F_head_of,b_head_of,m_head_of⟩ := jjN KX G
 have c_head_of : Cal P w (Hd.K w.params) mg base CX0 "head_of" 4 ["words"] spHd := ⟨f_head_of,d_head_of,jmI F_head_of T c_numbers_of,b_head_of,F_head_of.kp,m_head_of⟩
 obtain ⟨f_add_told,d_add_told,F_add_told,b_add_told,m_add_told⟩ := jiz KX G
 have c_add_told : Cal P w (Hd.K w.params) mg base CX0 "add_told" 2 ["told", "place", "held"] (jiM (Hd.K w.params)) := ⟨f_add_told,d_add_told,jk6 F_add_told T,b_add_told,F_add_told.kp,m_add_told⟩
 obtain ⟨f_go_of,d_go_of,F_go_of,b_go_of,m_go_of⟩ := jlA KX G
 have c_go_of : Cal P w (Hd.K w.params) mg base CX0 "go_of" 4 ["words"] spGw := ⟨f_go_of,d_go_of,jmJ F_go_of T c_number_of c_numbers_of,b_go_of,F_go_of.kp,m_go_of⟩
 obtain ⟨f_row_of,d_row_of,F_row_of,b_row_of,m_row_of⟩ := jky KX G
 have c_row_of : Cal P w (Hd.K w.params) mg base CX0 "row_of" 4 ["words"] (spRw (Hd.K w.params)) := ⟨f_row_of,d_row_of,jmB F_row_of T WT c_numbers_of,b_row_of,F_row_of.kp,m_row_of⟩
 obtain ⟨f_add_line,d_add_line,F_add_line,b_add_line,m_add_line⟩ := jiA KX G
 have c_add_line : Cal P w (Hd.K w.params) mg base CX0 "add_line" 5 ["words", "place", "pieces"] (spAl (Hd.K w.params)) := ⟨f_add_line,d_add_line,jmN F_add_line T c_add_told c_go_of c_row_of,b_add_line,F_add_line.kp,m_add_line⟩
 obtain ⟨f_is_number,d_is_number,F_is_number,b_is_number,m_is_number⟩ := jhv KX G
 have c_is_number : Cal P w (Hd.K w.params) mg base CX0 "is_number" 1 ["value"] jkR := ⟨f_is_number,d_is_number,jlV F_is_number T,b_is_number,F_is_number.kp,m_is_number⟩
 obtain ⟨f_is_within,d_is_within,F_is_within,b_is_within,m_is_within⟩ := jhu KX G
 have c_is_within : Cal P w (Hd.K w.params) mg base CX0 "is_within" 2 ["value", "least", "most"] spIn := ⟨f_is_within,d_is_within,jmH F_is_within T c_is_number,b_is_within,F_is_within.kp,m_is_within⟩
 obtain ⟨f_is_framed,d_is_framed,F_is_framed,b_is_framed,m_is_framed⟩ := jhw KX G
 have c_is_framed : Cal P w (Hd.K w.params) mg base CX0 "is_framed" 3 ["tested"] (spFr (Hd.K w.params)) := ⟨f_is_framed,d_is_framed,jmL F_is_framed T c_is_within,b_is_framed,F_is_framed.kp,m_is_framed⟩
 obtain ⟨f_is_test,d_is_test,F_is_test,b_is_test,m_is_test⟩ := jjM KX G
 have c_is_test : Cal P w (Hd.K w.params) mg base CX0 "is_test" 3 ["value"] jjW := ⟨f_is_test,d_is_test,jlS F_is_test T c_is_within,b_is_test,F_is_test.kp,m_is_test⟩
 obtain ⟨f_is_worth,d_is_worth,F_is_worth,b_is_worth,m_is_worth⟩ := jix KX G
 have c_is_worth : Cal P w (Hd.K w.params) mg base CX0 "is_worth" 3 ["value"] jkO := ⟨f_is_worth,d_is_worth,jlQ F_is_worth T c_is_within,b_is_worth,F_is_worth.kp,m_is_worth⟩
 obtain ⟨f_may_stand,d_may_stand,F_may_stand,b_may_stand,m_may_stand⟩ := jht KX G
 have c_may_stand : Cal P w (Hd.K w.params) mg base CX0 "may_stand" 4 ["place", "number"] jkS := ⟨f_may_stand,d_may_stand,jlW F_may_stand T c_is_within c_is_worth,b_may_stand,F_may_stand.kp,m_may_stand⟩
 obtain ⟨f_is_row,d_is_row,F_is_row,b_is_row,m_is_row⟩ := jkz KX G
 have c_is_row : Cal P w (Hd.K w.params) mg base CX0 "is_row" 5 ["row"] (jkQ (Hd.K w.params)) := ⟨f_is_row,d_is_row,jlU F_is_row T WT c_is_test c_may_stand,b_is_row,F_is_row.kp,m_is_row⟩
 obtain ⟨f_is_go,d_is_go,F_is_go,b_is_go,m_is_go⟩ := jlz KX G
 have c_is_go : Cal P w (Hd.K w.params) mg base CX0 "is_go" 4 ["go", "pieces"] (spGo (Hd.K w.params)) := ⟨f_is_go,d_is_go,jmK F_is_go T c_is_test c_is_within,b_is_go,F_is_go.kp,m_is_go⟩
 obtain ⟨f_are_goes,d_are_goes,F_are_goes,b_are_goes,m_are_goes⟩ := jiy KX G
 have c_are_goes : Cal P w (Hd.K w.params) mg base CX0 "are_goes" 5 ["goes", "pieces"] (jiN (Hd.K w.params)) := ⟨f_are_goes,d_are_goes,jk8 F_are_goes T c_is_go,b_are_goes,F_are_goes.kp,m_are_goes⟩
 obtain ⟨f_check_piece,d_check_piece,F_check_piece,b_check_piece,m_check_piece⟩ := jfJ KX G
 have c_check_piece : Cal P w (Hd.K w.params) mg base CX0 "check_piece" 6 ["at", "piece", "pieces"] (jkT (Hd.K w.params)) := ⟨f_check_piece,d_check_piece,jlY F_check_piece T c_is_row c_are_goes,b_check_piece,F_check_piece.kp,m_check_piece⟩
 obtain ⟨f_check_tested,d_check_tested,F_check_tested,b_check_tested,m_check_tested⟩ := jeA KX G
 have c_check_tested : Cal P w (Hd.K w.params) mg base CX0 "check_tested" 7 ["tested"] (spCT (Hd.K w.params)) := ⟨f_check_tested,d_check_tested,jmM F_check_tested T c_is_framed c_check_piece,b_check_tested,F_check_tested.kp,m_check_tested⟩
 obtain ⟨f_read_rows,d_read_rows,F_read_rows,b_read_rows,m_read_rows⟩ := jhr KX G
 have c_read_rows : Cal P w (Hd.K w.params) mg base CX0 "read_rows" 8 ["text"] (spRd (Hd.K w.params)) := ⟨f_read_rows,d_read_rows,jmD F_read_rows T c_head_of c_add_line c_check_tested,b_read_rows,F_read_rows.kp,m_read_rows⟩
 obtain ⟨f_line_of_go,d_line_of_go,F_line_of_go,b_line_of_go,m_line_of_go⟩ := jgN KX G
 have c_line_of_go : Cal P w (Hd.K w.params) mg base CX0 "line_of_go" 1 ["test", "piece"] spLg := ⟨f_line_of_go,d_line_of_go,jmG F_line_of_go T,b_line_of_go,F_line_of_go.kp,m_line_of_go⟩
 obtain ⟨f_written_rows,d_written_rows,F_written_rows,b_written_rows,m_written_rows⟩ := jey KX G
 have c_written_rows : Cal P w (Hd.K w.params) mg base CX0 "written_rows" 8 ["tested"] (spWr (Hd.K w.params)) := ⟨f_written_rows,d_written_rows,jlR F_written_rows T c_check_tested c_line_of_go,b_written_rows,F_written_rows.kp,m_written_rows⟩
 obtain ⟨f_law_like,d_law_like,F_law_like,b_law_like,m_law_like⟩ := jiv KX G
 have c_law_like := jgE (P := P) (w := w) (base := base) F_law_like b_law_like m_law_like T 5
 exact jlX F_law T c_law_dice c_law_next c_law_some_tested c_law_rows_text c_read_rows c_written_rows c_law_like
end K3
open PySem PySem.W PyProof.Rows
theorem PySem.Challenge.cw_testedrows_k24_rows_written_holds : PySem.Challenge.rw_testedrows_k24_rows_written.Holds := by
 w_on
 o_law
 refine holds_open (q := Hd.vw) (loose := Hd.lse) (Xt := Hd.Xt) (XP := XL Hd.vw []) (Yf := Hook.obs Hd.hk) (Ya := Hook.val Hd.hk) (YP := Hook.says Hd.hk) (d := Hd.dd) (kwd := []) (N := 4190) Hd.left (Hook.of Hd.hk) (Hook.keeps Hd.hk) (fun s e => xl_of s (Bool.and_eq_true_iff.mp e).1) XL.keeps (by kernel_rfl) (by kernel_rfl) (by kernel_rfl) (fun s e => recFacts_of (Bool.and_eq_true_iff.mp e).2) (by rfl) (by first | assumption | decide +kernel) (by decide +kernel) ⟨rfl,rfl,rfl,rfl,rfl,by decide +kernel⟩ ?hw ?hc
 case hw => w_witness2
 case hc =>
 refine L2.walk_of (l := PySem.Challenge.rw_testedrows_k24_rows_written) (n := 63) (k := 100) (x := "_law_script") (K := Hd.K) (CX := fun _ => L2.CX0) (sp := fun w => K3.spLaw (Hd.K w.params)) rfl (by decide) rfl ⟨rfl,by decide,by decide⟩ (fun w h Y => PySem.W.kIn_of Y) ?F (fun w H a ns hl hO hS => ⟨a,ns,rfl,K3.Scr.of hO hS,hl,fun _ => rfl⟩) fun _ _ _ _ _ z => z
 case F =>
  intro w mg fa h KX G hmg
  obtain ⟨f,fd,F,b,m⟩ := K3.D_law KX G
  cases hmg.symm.trans m
  refine ⟨fd,?_,fun base _ _ => K3.all_ok KX G F⟩
  obtain ⟨oc,od,kV,doc,pm,an,cdv,ct,osl,rfl,lk,hcd⟩ := F.ex
  exact fun s u => .of_eq rfl
end
