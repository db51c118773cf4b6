import PyProof.Rows.All
import Wide.All
import OpenK.AllK
import Wide.FinOn
import Lean
import PyProof.EqAt
import PyProof.EqKinds
import PyProof.TupleCall
import PyProof.EnumMake
import PyProof.WalksPairs
import PyProof.NsDelKeeps
import PyProof.NeKinds
import PySem.Challenge.RW_threadlathe_k31_lists_of_the_askers_own
set_option Elab.async false
set_option linter.all false
set_option maxRecDepth 100000
set_option maxHeartbeats 4000000

namespace Mt
theorem gcd_step (a b:Int):Int.gcd b (a % b)=Int.gcd a b:=by
 have e:a % b=a - (a / b) * b:=by
  have:=Int.emod_add_mul_ediv a b
  rw [Int.mul_comm] at this
  omega
 rw [e,Int.gcd_sub_mul_right_right,Int.gcd_comm]
theorem gcd_end (a:Int):(if a<0 then -a else a)=((Int.gcd a 0:Nat):Int):=by
 rw [Int.gcd_zero_right]
 split <;> omega
theorem gcd_abs (a b:Int):Int.gcd (if a<0 then -a else a) (if b<0 then -b else b)=Int.gcd a b:=by
 split <;> split <;> simp [Int.neg_gcd,Int.gcd_neg]
def sg (t b:Int):Int:=if b<0 then -((Int.gcd t b:Nat):Int) else ((Int.gcd t b:Nat):Int)
def ltN (t b:Int):Int:=Int.fdiv t (sg t b)
def ltD (t b:Int):Int:=Int.fdiv b (sg t b)
theorem gpos {t b:Int} (h:b≠0):0<Int.gcd t b:=Int.gcd_pos_iff.mpr (.inr h)
theorem sg_ne {t b:Int} (h:b≠0):sg t b≠0:=by
 have:=gpos (t:=t) h
 unfold sg;split <;> omega
theorem sg_abs (t b:Int):(sg t b).natAbs=Int.gcd t b:=by
 unfold sg;split <;> omega
theorem sg_le {t b:Int} (h:b≠0):(sg t b).natAbs≤b.natAbs:=by
 rw [sg_abs]
 exact Nat.le_of_dvd (by omega) (by have:=Int.gcd_dvd_right t b;exact Int.ofNat_dvd_left.mp this)
theorem sg_dt (t b:Int):sg t b ∣ t:=by
 unfold sg;split
 ·exact Int.neg_dvd.mpr (Int.gcd_dvd_left t b)
 ·exact Int.gcd_dvd_left t b
theorem sg_db (t b:Int):sg t b ∣ b:=by
 unfold sg;split
 ·exact Int.neg_dvd.mpr (Int.gcd_dvd_right t b)
 ·exact Int.gcd_dvd_right t b
theorem ltN_mul (t b:Int):sg t b * ltN t b=t:=by
 unfold ltN;rw [Int.fdiv_eq_ediv_of_dvd (sg_dt t b),Int.mul_ediv_cancel' (sg_dt t b)]
theorem ltD_mul (t b:Int):sg t b * ltD t b=b:=by
 unfold ltD;rw [Int.fdiv_eq_ediv_of_dvd (sg_db t b),Int.mul_ediv_cancel' (sg_db t b)]
structure LT (t b x y:Int):Prop where
 pos:1≤y
 co:Int.gcd x y=1
 eq:x * b=t * y
 nx:x.natAbs≤t.natAbs
 ny:y.natAbs≤b.natAbs
theorem lt_is {t b:Int} (h:b≠0):LT t b (ltN t b) (ltD t b):=by
 have hs:=sg_ne (t:=t) h
 have e1:=ltN_mul t b
 have e2:=ltD_mul t b
 have g0:=gpos (t:=t) h
 have hp:0<ltD t b:=by
  rcases Int.lt_trichotomy (ltD t b) 0 with l | l | l
  ·exfalso
   by_cases hb:b<0
   ·have hs':sg t b≤0:=by unfold sg;rw [if_pos hb];omega
    have:=Int.mul_nonneg_of_nonpos_of_nonpos hs' (Int.le_of_lt l)
    omega
   ·have hs':0≤sg t b:=by unfold sg;rw [if_neg hb];omega
    have:sg t b * ltD t b≤0:=Int.mul_nonpos_of_nonneg_of_nonpos hs' (Int.le_of_lt l)
    omega
  ·rw [l,Int.mul_zero] at e2;omega
  ·exact l
 refine ⟨hp,?_,?_,?_,?_⟩
 ·have:Int.gcd (sg t b * ltN t b) (sg t b * ltD t b)=(sg t b).natAbs * Int.gcd (ltN t b) (ltD t b):=Int.gcd_mul_left _ _ _
  rw [e1,e2,sg_abs] at this
  exact Nat.eq_of_mul_eq_mul_left g0 (by rw [Nat.mul_one];exact this.symm)
 ·have a1:ltN t b * b=ltN t b * (sg t b * ltD t b):=by rw [e2]
  have a2:t * ltD t b=(sg t b * ltN t b) * ltD t b:=by rw [e1]
  rw [a1,a2,← Int.mul_assoc,Int.mul_comm (ltN t b)]
 ·have:=congrArg Int.natAbs e1
  rw [Int.natAbs_mul] at this
  rw [← this]
  exact Nat.le_mul_of_pos_left _ (by omega)
 ·have:=congrArg Int.natAbs e2
  rw [Int.natAbs_mul] at this
  have g:ltD t b≠0:=by omega
  rw [← this]
  exact Nat.le_mul_of_pos_left _ (by omega)
def Bd (n:Nat) (i:Int):Prop:=i.natAbs<2 ^ n
theorem Bd.mono {m n:Nat} {i:Int} (h:Bd m i) (l:m≤n):Bd n i:=Nat.lt_of_lt_of_le h (Nat.pow_le_pow_right (by decide) l)
theorem Bd.mul {m n:Nat} {i j:Int} (h:Bd m i) (g:Bd n j):Bd (m + n) (i * j):=by
 unfold Bd at *
 rw [Int.natAbs_mul i j,Nat.pow_add 2 m n]
 exact Nat.mul_lt_mul'' h g
theorem Bd.add {m n:Nat} {i j:Int} (h:Bd m i) (g:Bd n j):Bd (max m n + 1) (i + j):=by
 have h':=h.mono (Nat.le_max_left m n)
 have g':=g.mono (Nat.le_max_right m n)
 have:=Int.natAbs_add_le i j
 unfold Bd at *
 rw [Nat.pow_succ]
 omega
theorem Bd.neg {m:Nat} {i:Int} (h:Bd m i):Bd m (-i):=by
 unfold Bd at *
 rw [Int.natAbs_neg];exact h
theorem Bd.sub {m n:Nat} {i j:Int} (h:Bd m i) (g:Bd n j):Bd (max m n + 1) (i - j):=by
 rw [Int.sub_eq_add_neg]
 exact h.add g.neg
theorem Bd.le {m:Nat} {i j:Int} (h:Bd m i) (g:j.natAbs≤i.natAbs):Bd m j:=Nat.lt_of_le_of_lt g h
theorem Bd.log {m:Nat} {i:Int} (h:Bd m i) (p:0<m):i.natAbs.log2<m:=by
 by_cases z:i.natAbs=0
 ·rw [z];simpa using p
 ·exact (Nat.log2_lt z).mpr h
theorem Bd.of60 {i:Int} (h1:-(10 ^ 60)≤i) (h2:i≤10 ^ 60):Bd 200 i:=by
 have:(10:Nat) ^ 60<2 ^ 200:=by decide
 unfold Bd
 have e:((10:Int) ^ 60)=(((10:Nat) ^ 60:Nat):Int):=by decide
 omega
end Mt
namespace L2
open PySem PySem.Spec PyProof.Rows
abbrev Key:=Sum Int Str
def keyIs:Key→Value→Bool
 | .inl k,v=>Value.isInt k v
 | .inr x,v=>Value.isStrOf x v
def keyH (w:World):Key→Int
 | .inl k=>hashInt k
 | .inr x=>hashStr w x
theorem keyIs_shape:∀ {k:Key} {v:Value},keyIs k v=true→(∃ i t,k=Sum.inl i∧v=Value.int i t)∨(∃ x t,k=Sum.inr x∧v=Value.str x t)
 | .inl i,v,h=>by
  obtain ⟨t,e⟩:=Value.isInt_shape (k:=i) (v:=v) h
  exact .inl ⟨i,t,rfl,e⟩
 | .inr x,v,h=>by
  obtain ⟨t,e⟩:=Value.isStrOf_shape (x:=x) (v:=v) h
  exact .inr ⟨x,t,rfl,e⟩
theorem key_ll (a b:Int):decide ((Sum.inl a:Key)=Sum.inl b)=(a == b):=by
 by_cases e:a=b
 ·subst e;simp
 ·have h:¬ (Sum.inl a:Key)=Sum.inl b:=fun q=>e (Sum.inl.inj q)
  rw [decide_eq_false h]
  exact (beq_eq_false_iff_ne.mpr e).symm
theorem key_rr (a b:Str):decide ((Sum.inr a:Key)=Sum.inr b)=decide (a=b):=by
 by_cases e:a=b
 ·subst e;simp
 ·have h:¬ (Sum.inr a:Key)=Sum.inr b:=fun q=>e (Sum.inr.inj q)
  rw [decide_eq_false h,decide_eq_false e]
theorem key_lr (a:Int) (b:Str):decide ((Sum.inl a:Key)=Sum.inr b)=false:=decide_eq_false (fun q=>nomatch q)
theorem key_rl (a:Str) (b:Int):decide ((Sum.inr a:Key)=Sum.inl b)=false:=decide_eq_false (fun q=>nomatch q)
def mixKind (prog:Program) (w:World):PySem.KeyKind prog w Key where
 is:=keyIs
 hash:=keyH w
 inj:=fun v a b ha hb=>by
  rcases keyIs_shape ha with ⟨i,t,rfl,rfl⟩ | ⟨x,t,rfl,rfl⟩
  ·rcases keyIs_shape hb with ⟨j,u,rfl,e⟩ | ⟨y,u,rfl,e⟩
   ·injection e with e1 _;rw [e1]
   ·exact nomatch e
  ·rcases keyIs_shape hb with ⟨j,u,rfl,e⟩ | ⟨y,u,rfl,e⟩
   ·exact nomatch e
   ·injection e with e1 _;rw [e1]
 byValue:=fun k v h=>by
  rcases keyIs_shape h with ⟨i,t,rfl,rfl⟩ | ⟨x,t,rfl,rfl⟩ <;> rfl
 pyHash:=fun hv h=>by
  rcases keyIs_shape hv with ⟨i,t,rfl,rfl⟩ | ⟨x,t,rfl,rfl⟩
  ·exact wpAny_pyHash_int h
  ·exact wpAny_pyHash_str h
 eqBool:=fun hu hv h=>by
  rcases keyIs_shape hu with ⟨i,t,rfl,rfl⟩ | ⟨x,t,rfl,rfl⟩
  ·rcases keyIs_shape hv with ⟨j,u,rfl,rfl⟩ | ⟨y,u,rfl,rfl⟩
   ·rw [key_ll] at h;exact wpAny_eqBool_int h
   ·rw [key_lr] at h;exact SeqAt.EqAt.int_str i t y u _ _ _ _ h
  ·rcases keyIs_shape hv with ⟨j,u,rfl,rfl⟩ | ⟨y,u,rfl,rfl⟩
   ·rw [key_rl] at h;exact SeqAt.EqAt.str_int x t j u _ _ _ _ h
   ·rw [key_rr] at h;exact wpAny_eqBool_str h
 «strs»:=fun k x t v h=>by
  rcases keyIs_shape h with ⟨i,u,rfl,e⟩ | ⟨y,u,rfl,e⟩
  ·exact nomatch e
  ·injection e with e1 _
   subst e1
   cases v <;> rfl
end L2
namespace L2
open PySem PySem.Spec PyProof.Rows
inductive V where
 | non | bl (b:Bool) | int (i:Int) | str (x:Str) | byt (b:Array UInt8) | flt (b:UInt64) | ref (a:Addr) | ty (n:String)
 deriving DecidableEq
def RelV:V→Value→Prop
 | .non,u=>u=Value.none
 | .bl b,u=>u=Value.bool b
 | .int i,u=>∃ t,u=Value.int i t
 | .str x,u=>∃ t,u=Value.str x t
 | .byt b,u=>∃ t,u=Value.bytes b t
 | .flt b,u=>∃ t,u=Value.float b t
 | .ref a,u=>u=Value.ref a
 | .ty n,u=>u=Value.type n
abbrev Vals:List V→List Value→Prop:=Paired RelV
theorem Vals.length {xs:List V} {us:List Value} (r:Vals xs us):xs.length=us.length:=Paired.length r
theorem Vals.get:∀ {xs:List V} {us:List Value} {i:Nat} {x:V},Vals xs us→xs[i]? = some x→∃ u,us[i]? = some u∧RelV x u
 | _,_,_,_,.nil,e=>by simp at e
 | _,_,0,_,.cons r _,e=>by simp at e;subst e;exact ⟨_,rfl,r⟩
 | _,_,i + 1,x,.cons _ t,e=>by
  obtain ⟨u,h1,h2⟩:=Vals.get (i:=i) (x:=x) t (by simpa using e)
  exact ⟨u,by simpa using h1,h2⟩
theorem Vals.set {x:V} {u:Value} (r:RelV x u):∀ {xs:List V} {us:List Value} (i:Nat),Vals xs us→Vals (xs.set i x) (us.set i u)
 | _,_,_,.nil=>.nil
 | _,_,0,.cons _ t=>.cons r t
 | _,_,i + 1,.cons q t=>.cons q (Vals.set r i t)
theorem Vals.append:∀ {xs ys:List V} {us ws:List Value},Vals xs us→Vals ys ws→Vals (xs++ys) (us++ws)
 | _,_,_,_,.nil,s=>s
 | _,_,_,_,.cons r t,s=>.cons r (Vals.append t s)
theorem Vals.take:∀ {xs:List V} {us:List Value} (n:Nat),Vals xs us→Vals (xs.take n) (us.take n)
 | _,_,0,_=>.nil
 | _,_,_ + 1,.nil=>.nil
 | _,_,n + 1,.cons r t=>.cons r (Vals.take n t)
theorem Vals.drop:∀ {xs:List V} {us:List Value} (n:Nat),Vals xs us→Vals (xs.drop n) (us.drop n)
 | _,_,0,r=>r
 | _,_,_ + 1,.nil=>.nil
 | _,_,n + 1,.cons _ t=>Vals.drop n t
def RelO:Option V→Option Value→Prop
 | some v,some u=>RelV v u
 | none,none=>True
 | _,_=>False
def KV {κ:Type}:List (κ × V)→List (κ × Value)→Prop:=Paired fun (p:κ × V) (q:κ × Value)=>p.1=q.1∧RelV p.2 q.2
def kV:Key→V
 | .inl i=>.int i
 | .inr x=>.str x
inductive HO where
 | lst (xs:List V)
 | tup (xs:List V)
 | dK (kvs:List (Key × V)) | dT (kvs:List (List Key × V))
 | set (S:Int→Bool) (n:Nat)
 | ins (C dx:Addr) (fs:List (Str × V))
 | own (x:Addr)
 | xd (fs:List (Str × V))
 | met (f x:Addr)
 | rng (lo hi:Int)
 | frz (o:Obj) (u:HO)
 | tbl (ps:Array Value)
 | ext (φ:Heap→Prop)
abbrev Hp:=Addr→Option HO
def upd (H:Hp) (a:Addr) (o:HO):Hp:=fun b=>if b=a then some o else H b
theorem upd_same {H:Hp} {a:Addr} {o:HO}:upd H a o a=some o:=by unfold upd;rw [if_pos rfl]
theorem upd_ne {H:Hp} {a b:Addr} {o:HO} (h:b≠a):upd H a o b=H b:=by unfold upd;rw [if_neg h]
theorem upd_upd {H:Hp} {a:Addr} {o u:HO}:upd (upd H a o) a u=upd H a u:=by
 funext b;unfold upd;split <;> rfl
theorem ne_of {H:Hp} {a b:Addr} {o u:HO} (h:H a=some o) (h':H b=some u) (d:o≠u):a≠b:=by
 intro e;subst e;rw [h] at h';exact d (Option.some.inj h')
theorem ne_of_none {H:Hp} {a b:Addr} {o:HO} (h:H a=some o) (h':H b=none):a≠b:=by
 intro e;subst e;rw [h] at h';cases h'
section
variable (P:Program) (w:World)
def ObjOk (H:Hp) (h:Heap) (a:Addr):HO→Prop
 | .lst xs=>xs.length≤sizeLine∧∃ (its:List Value) (n:Nat),Vals xs its∧h.get? a=some { cls:=.type "list",data:=.seq its.toArray n }
 | .tup xs=>xs.length≤sizeLine∧∃ its:List Value,Vals xs its∧IsTup h a its.toArray
 | .dK kvs=>kvs.length≤sizeLine∧(a == sysModules)=false∧∃ vs,KV kvs vs∧h.DictOf (mixKind P w) a vs
 | .dT kvs=>kvs.length≤sizeLine∧(a == sysModules)=false∧∃ xs:List (List Key × Addr × Value),
   Paired (fun (p:List Key × V) (q:List Key × Addr × Value)=>p.1=q.1∧H q.2.1=some (.tup (p.1.map kV))∧RelV p.2 q.2.2) kvs xs ∧
   ∃ o es ep,h.get? a=some o∧o.ExactDict∧o.data = .dict es ep∧es.toList=xs.map (entryOfKey (tupleKind (mixKind P w)))∧(xs.map (·.1)).Nodup
 | .set S n=>h.SetOf (intKind P w) a S n
 | .ins C dx fs=>H dx=some (.own a)∧fs.length≤1000∧dx≠a∧h.get? a=some (PySem.W.instObj C dx) ∧
   ∃ mA,h.Ns1 dx mA∧(∀ f,RelO (fs.lookup f) (mA f))∧PySem.Within mA (fs.map (·.1))
 | .own _=>∃ o,h.get? a=some o
 | .xd fs=>∃ mA,h.Ns1 a mA∧∀ f,RelO (fs.lookup f) (mA f)
 | .rng lo hi=>∃ t u v,h.get? a=some { cls:=.type "range",data:=.fields #[.int lo t,.int hi u,.int 1 v] }
 | .frz o u=>h.get? a=some o∧ObjOk H h a u
 | .tbl ps=>h.get? a=some { cls:=.none,data:=.fields ps }
 | .met f x=>h.get? a=some (PySem.W.methodObj (.ref f) (.ref x))
 | .ext φ=>φ h∧(∃ o,h.get? a=some o)∧∀ h1 h2:Heap,φ h1→(∀ o,h1.get? a=some o→h2.get? a=some o)→φ h2
def HOk (H:Hp) (h:Heap):Prop:=∀ a o,H a=some o→ObjOk P w H h a o
end
section
variable {P:Program} {w:World} {H H':Hp} {h h':Heap} {a:Addr} {o:HO}
theorem ObjOk.lt (x:ObjOk P w H h a o):a<h.objs.size:=by
 cases o with
 | lst xs=>obtain ⟨_,_,_,_,e⟩:=x;exact Heap.lt_size e
 | tup xs=>obtain ⟨_,_,_,p⟩:=x;exact p.lt
 | dK kvs=>obtain ⟨_,_,_,_,o,_,_,e,_⟩:=x;exact Heap.lt_size e
 | dT kvs=>obtain ⟨_,_,_,_,o,_,_,e,_⟩:=x;exact Heap.lt_size e
 | set S n=>obtain ⟨o,_,_,_,e,_⟩:=x;exact Heap.lt_size e
 | ins C dx fs=>obtain ⟨_,_,_,e,_⟩:=x;exact Heap.lt_size e
 | own y=>obtain ⟨_,e⟩:=x;exact Heap.lt_size e
 | xd fs=>obtain ⟨_,⟨_,_,_,e,_⟩,_⟩:=x;exact Heap.lt_size e
 | rng lo hi=>obtain ⟨_,_,_,e⟩:=x;exact Heap.lt_size e
 | frz ob u=>obtain ⟨e,_⟩:=x;exact Heap.lt_size e
 | tbl ps=>exact Heap.lt_size (show h.get? a=some _ from x)
 | met f y=>exact Heap.lt_size (show h.get? a=some _ from x)
 | ext φ=>obtain ⟨_,⟨_,e⟩,_⟩:=x;exact Heap.lt_size e
theorem Paired.mapP {α β:Type} {F G:α→β→Prop}:∀ {l₁:List α} {l₂:List β},Paired F l₁ l₂→(∀ a b,F a b→G a b)→Paired G l₁ l₂
 | _,_,.nil,_=>.nil
 | _,_,.cons r t,f=>.cons (f _ _ r) (Paired.mapP t f)
theorem ObjOk.stay (x:ObjOk P w H h a o) (k:∀ b u,(b=a∨H b=some (.own a))→h.get? b=some u→h'.get? b=some u)
  (ho:∀ b,H b=some (.own a)→H' b=some (.own a)) (ht:∀ b xs,H b=some (.tup xs)→H' b=some (.tup xs)):ObjOk P w H' h' a o:=by
 induction o with
 | lst xs=>obtain ⟨z,its,n,r,e⟩:=x;exact ⟨z,its,n,r,k _ _ (.inl rfl) e⟩
 | tup xs=>obtain ⟨z,its,r,ob,e,c⟩:=x;exact ⟨z,its,r,ob,k _ _ (.inl rfl) e,c⟩
 | dK kvs=>obtain ⟨z,y,vs,r,ob,es,ep,e,c⟩:=x;exact ⟨z,y,vs,r,ob,es,ep,k _ _ (.inl rfl) e,c⟩
 | dT kvs =>
  obtain ⟨z,y,xs,r,ob,es,ep,e,c⟩:=x
  exact ⟨z,y,xs,Paired.mapP r fun p q z=>⟨z.1,ht _ _ z.2.1,z.2.2⟩,ob,es,ep,k _ _ (.inl rfl) e,c⟩
 | set S n=>obtain ⟨ob,es,ep,t,e,c⟩:=x;exact ⟨ob,es,ep,t,k _ _ (.inl rfl) e,c⟩
 | ins C dx fs =>
  obtain ⟨d,z,ne,e,mA,⟨od,es,ep,e2,c⟩,r⟩:=x
  exact ⟨ho _ d,z,ne,k _ _ (.inl rfl) e,mA,⟨od,es,ep,k _ _ (.inr d) e2,c⟩,r⟩
 | own y=>obtain ⟨ob,e⟩:=x;exact ⟨ob,k _ _ (.inl rfl) e⟩
 | xd fs=>obtain ⟨mA,⟨od,es,ep,e,c⟩,r⟩:=x;exact ⟨mA,⟨od,es,ep,k _ _ (.inl rfl) e,c⟩,r⟩
 | rng lo hi=>obtain ⟨t,u,v,e⟩:=x;exact ⟨t,u,v,k _ _ (.inl rfl) e⟩
 | frz ob u ih=>obtain ⟨e,q⟩:=x;exact ⟨k _ _ (.inl rfl) e,ih q⟩
 | tbl ps =>
  have e:h.get? a=some { cls:=.none,data:=.fields ps }:=x
  show h'.get? a=some { cls:=.none,data:=.fields ps }
  exact k a _ (.inl rfl) e
 | met f y =>
  have e:h.get? a=some (PySem.W.methodObj (.ref f) (.ref y)):=x
  show h'.get? a=some (PySem.W.methodObj (.ref f) (.ref y))
  exact k a _ (.inl rfl) e
 | ext φ=>obtain ⟨p,⟨o,e⟩,st⟩:=x;exact ⟨st _ _ p fun o q=>k _ _ (.inl rfl) q,⟨o,k _ _ (.inl rfl) e⟩,st⟩
theorem HOk.lt (x:HOk P w H h) (e:H a=some o):a<h.objs.size:=(x a o e).lt
theorem HOk.fresh (x:HOk P w H h) (e:h.objs.size≤a):H a=none:=by
 cases q:H a with
 | none=>rfl
 | some u=>exact absurd (Nat.lt_of_lt_of_le (x.lt q) e) (Nat.lt_irrefl _)
theorem HOk.kept (x:HOk P w H h) (k:∀ b u,h.get? b=some u→h'.get? b=some u):HOk P w H h':=fun a o e =>
 (x a o e).stay (fun b u _ q=>k b u q) (fun _ q=>q) fun _ _ q=>q
theorem HOk.laid (x:HOk P w H h) (k:∀ b u,h.get? b=some u→h'.get? b=some u) (hp:h.objs.size≤a) (new:ObjOk P w (upd H a o) h' a o):HOk P w (upd H a o) h':=fun b u e=>by
 have hn:=x.fresh hp
 by_cases hb:b=a
 ·subst hb;rw [upd_same] at e;cases e;exact new
 ·rw [upd_ne hb] at e
  exact (x b u e).stay (fun c v _ q=>k c v q) (fun c q=>by rw [upd_ne (ne_of_none q hn)];exact q) fun c xs q=>by rw [upd_ne (ne_of_none q hn)];exact q
end
def Rd (H:Hp) (a:Addr) (u:HO):Prop:=H a=some u∨∃ o,H a=some (.frz o u)
theorem Rd.ok {P:Program} {w:World} {H:Hp} {h:Heap} {a:Addr} {u:HO} (r:Rd H a u) (x:HOk P w H h):ObjOk P w H h a u:=by
 rcases r with r | ⟨o,r⟩
 ·exact x a u r
 ·obtain ⟨_,q⟩:=x a _ r
  exact q
def Mut:Option HO→Prop
 | some (.lst _)=>True
 | some (.dK _)=>True
 | some (.dT _)=>True
 | some (.set _ _)=>True
 | some (.ins _ _ _)=>True
 | some (.ext _)=>True
 | _=>False
section
variable {P:Program} {w:World} {H:Hp} {h h':Heap} {x e:Addr} {o':HO}
theorem HOk.write (ok:HOk P w H h) (mu:Mut (H x)) (he:e=x∨H e=some (.own x)) (k:∀ b u,b≠e→h.get? b=some u→h'.get? b=some u) (heo:∃ u,h'.get? e=some u)
  (new:ObjOk P w (upd H x o') h' x o'):HOk P w (upd H x o') h':=fun b u q=>by
 have nown:∀ c y,H c=some (.own y)→c≠x:=fun c y r z=>by subst z;rw [r] at mu;exact mu
 have ntup:∀ c xs,H c=some (.tup xs)→c≠x:=fun c xs r z=>by subst z;rw [r] at mu;exact mu
 by_cases hb:b=x
 ·subst hb;rw [upd_same] at q;cases q;exact new
 ·rw [upd_ne hb] at q
  by_cases hbe:b=e
  ·have q':H b=some (.own x):=by
    rcases he with z | z
    ·exact absurd (hbe.trans z) hb
    ·rw [hbe];exact z
   rw [q] at q';cases q'
   obtain ⟨v,hv⟩:=heo
   exact ⟨v,by rw [hbe];exact hv⟩
  ·refine (ok b u q).stay (fun c v hc r=>k c v ?_ r) (fun c r=>by rw [upd_ne (nown c b r)];exact r) fun c xs r=>by rw [upd_ne (ntup c xs r)];exact r
   rcases hc with rfl | hc
   ·exact hbe
   ·rintro rfl
    rcases he with z | z
    ·exact nown c b hc z
    ·rw [hc] at z;cases z;exact hb rfl
end
structure Un (fs ex:List Addr) (H H':Hp) (h h':Heap):Prop where
 keep:∀ b o,h.get? b=some o→H b=none→b ∉ fs→b ∉ ex→h'.get? b=some o
 slot:∀ b o,h.get? b=some o→H b=none→b∈fs→b ∉ ex→∃ sl,h'.get? b=some { o with slots:=sl }
 free:∀ b o,h.get? b=some o→H b=none→b ∉ ex→H' b=none
 there:∀ b o,h.get? b=some o→b ∉ ex→∃ o',h'.get? b=some o'
 tups:∀ b xs,H b=some (.tup xs)→H' b=some (.tup xs)
 frzs:∀ b o u,H b=some (.frz o u)→H' b=some (.frz o u)
 tbls:∀ b ps,H b=some (.tbl ps)→∃ more,H' b=some (.tbl (ps++more))
section
variable {fs fs' ex ex':List Addr} {H H1 H2:Hp} {h h1 h2 h':Heap} {a x e:Addr} {o:HO}
theorem Un.any (u:Un fs ex H H1 h h1) {b:Addr} {ob:Obj} (q:h.get? b=some ob) (n:H b=none) (hx:b ∉ ex):∃ sl,h1.get? b=some { ob with slots:=sl }:=by
 by_cases hb:b∈fs
 ·exact u.slot b ob q n hb hx
 ·exact ⟨ob.slots,u.keep b ob q n hb hx⟩
theorem Un.kept (k:∀ b u,h.get? b=some u→h'.get? b=some u):Un fs ex H H h h' :=
 ⟨fun b ob q _ _ _=>k b ob q,fun b ob q _ _ _=>⟨ob.slots,k b ob q⟩,fun _ _ _ n _=>n,fun b ob q _=>⟨ob,k b ob q⟩,fun _ _ q=>q,fun _ _ _ q=>q,fun _ ps q=>⟨#[],by rw [q];simp⟩⟩
theorem Un.refl:Un fs ex H H h h:=Un.kept fun _ _ q=>q
theorem Un.laid (k:∀ b u,h.get? b=some u→h'.get? b=some u) (hp:h.objs.size≤a) (hn:H a=none):Un fs ex H (upd H a o) h h' where
 keep:=fun b u q _ _ _=>k b u q
 slot:=fun b u q _ _ _=>⟨u.slots,k b u q⟩
 free:=fun b u q n _=>by rw [upd_ne (Nat.ne_of_lt (Nat.lt_of_lt_of_le (Heap.lt_size q) hp))];exact n
 there:=fun b u q _=>⟨u,k b u q⟩
 tups:=fun b xs q=>by rw [upd_ne (ne_of_none q hn)];exact q
 frzs:=fun b u xs q=>by rw [upd_ne (ne_of_none q hn)];exact q
 tbls:=fun b ps q=>⟨#[],by rw [upd_ne (ne_of_none q hn),q];simp⟩
theorem Un.write (mu:Mut (H x)) (he:e=x∨H e=some (.own x)) (k:∀ b u,b≠e→h.get? b=some u→h'.get? b=some u) (heo:∃ u,h'.get? e=some u):Un fs ex H (upd H x o) h h':=by
 have hx:∀ b,H b=none→b≠x:=fun b n z=>by subst z;rw [n] at mu;exact mu
 have hb:∀ b,H b=none→b≠e:=fun b n z=>by
  subst z
  rcases he with r | r
  ·exact hx b n r
  ·rw [n] at r;cases r
 have hm:∀ b u,H b=some u→¬ Mut (some u)→b≠x:=fun b u q nm z=>by subst z;rw [q] at mu;exact nm mu
 refine ⟨fun b u q n _ _=>k b u (hb b n) q,fun b u q n _ _=>⟨u.slots,k b u (hb b n) q⟩,fun b u q n _=>by rw [upd_ne (hx b n)];exact n,fun b u q _=>?_,
  fun b xs q=>by rw [upd_ne (hm b _ q fun z=>z)];exact q,fun b u xs q=>by rw [upd_ne (hm b _ q fun z=>z)];exact q,fun b ps q=>⟨#[],by rw [upd_ne (hm b _ q fun z=>z),q];simp⟩⟩
 by_cases hbe:b=e
 ·subst hbe;exact heo
 ·exact ⟨u,k b u hbe q⟩
end
def trk (h:Heap) (H:Hp):List Addr:=(List.range h.objs.size).filter fun a=>(H a).isSome
def hidT (h:Heap) (H:Hp):Heap:=PySem.W.hideAll h (trk h H)
theorem hidT_size (h:Heap) (H:Hp):(hidT h H).objs.size=h.objs.size:=PySem.W.hideAll_size _ _
theorem hidT_get {h:Heap} {H:Hp} {b:Addr} {o:Obj} (e:h.get? b=some o) (n:H b=none):(hidT h H).get? b=some o :=
 PySem.W.hideAll_get _ e fun hm=>by
  have q:(H b).isSome=true:=(List.mem_filter.mp hm).2
  rw [n] at q;simp at q
theorem of_hidT {h:Heap} {H:Hp} {b:Addr} {o:Obj} (e:(hidT h H).get? b=some o):h.get? b=some o∧H b=none:=by
 have e':h.get? b=some o:=PySem.W.of_hideAll (trk h H) e
 refine ⟨e',?_⟩
 cases q:H b with
 | none=>rfl
 | some x =>
  have hm:b∈trk h H:=List.mem_filter.mpr ⟨List.mem_range.mpr (Heap.lt_size e'),by simp [q]⟩
  have z:(hidT h H).get? b=none:=PySem.W.hideAll_none (trk h H) hm
  rw [z] at e;cases e
def allNews (g h:Heap) (L:Addr):List (Addr × Obj):=(List.range h.objs.size).filterMap fun a=>if a=L∨(g.get? a).isSome=true then none else (h.get? a).map fun o=>(a,o)
def rest (g h:Heap) (L d:Addr):List (Addr × Obj):=(allNews g h L).filter fun p=>decide (p.1≠d)
end L2
namespace L2
open PySem PySem.Spec PyProof.Rows
structure Mod (K:PySem.W.Frag) (mg:Str→Option Value) (base:Heap):Prop where
 kin:K.In base
 glob:base.Ns mainGlobals mg
 blt:∃ mb,base.Ns builtinsNs mb∧∀ x:Str,x≠"__name__"→mb x=bootBuiltins x
 nolimit:base.NoLimit
structure Cx where
 prog:Program
 w:World
 K:PySem.W.Frag
 mg:Str→Option Value
 base:Heap
 A:Around
 N:List Str
 s₀:Shared
 H₀:Hp
 env:Env
 outer:List Env
 stack:List Env
 ex:List Addr
 fn:Str→Bool
 calm:Bool
 pn:List (Addr × Obj)
 xe:Value→Shared→Prop
def frs (l:List Env):List Addr:=l.filterMap (·.frame)
abbrev Cx.fs (X:Cx):List Addr:=frs X.outer
def Vis (sc:Scope) (x:Str):Prop:=sc.names.lookup x=some .local∨sc.names.lookup x=some .cell∨sc.names.lookup x=some .free
def Loc (sc:Scope) (x:Str):Prop:=sc.names.lookup x=some .local∨sc.names.lookup x=some .cell
def Look (env:Env) (h:Heap) (m:Str→Option Value) (x:Str) (u:Value):Prop :=
 (env.kindOf x=some .local∧m x=some u)∨((env.kindOf x=some .cell∨env.kindOf x=some .free)∧∃ c,env.cells.lookup x=some c∧h.IsCell c (some u))
structure Cx.Ok (X:Cx):Prop where
 mod:Mod X.K X.mg X.base
 kind:X.env.scope.kind = .function
 glob:X.env.globals=mainGlobals
 blt:X.env.builtins=builtinsNs
 above:X.s₀.heap.objs.size≤X.env.locals
 inj:∀ x y c,X.env.cells.lookup x=some c→X.env.cells.lookup y=some c→x=y
 has:∀ x,(X.env.kindOf x=some .cell∨X.env.kindOf x=some .free)→∃ c,X.env.cells.lookup x=some c
 cab:∀ x c,X.fn x=true→X.env.cells.lookup x=some c→X.s₀.heap.objs.size≤c
 hd:X.calm=true→X.A.handled=none
 frames:X.A.frames=some X.stack
 stk:X.stack=X.outer∨(X.stack=X.env::X.outer∧X.env.frame=some X.env.locals)
 exf:∀ b∈X.ex,b≠X.env.locals∧∀ x c,X.env.cells.lookup x=some c→c≠b
 bs:∀ b o,X.base.get? b=some o→X.s₀.heap.get? b=some o∧X.H₀ b=none
 bsz:X.base.objs.size≤X.s₀.heap.objs.size
 noex:∀ b o,X.base.get? b=some o→b ∉ X.ex
 exfs:∀ b∈X.ex,b ∉ X.fs
 funs:X.s₀.heap.FunFrames X.base X.outer
 frf:∀ b∈X.fs,X.H₀ b=none
structure Inv (X:Cx) (pins:List (Addr × Obj)) (σ:List (Option V)) (H:Hp) (s:Shared):Prop where
 ok:X.Ok
 os:s.os=X.s₀.os
 bare:AllBare s.gens
 base:Un X.fs X.ex X.H₀ H X.s₀.heap s.heap
 loc:∃ m,s.heap.Ns X.env.locals m∧∀ (i:Nat) (x:Str) (v:V),X.N[i]? = some x→σ[i]? = some (some v)→Vis X.env.scope x→∃ u,RelV v u∧Look X.env s.heap m x u
 cell:∀ x c,X.env.cells.lookup x=some c→∃ v,s.heap.IsCell c v
 free:H X.env.locals=none
 freeC:∀ x c,X.env.cells.lookup x=some c→H c=none
 pin:∀ p∈X.pn++pins,s.heap.get? p.1=some p.2∧H p.1=none∧p.1≠X.env.locals∧p.1 ∉ X.fs∧∀ v,p.2.data≠.cell v
 hok:HOk X.prog X.w H s.heap
 len:σ.length=X.N.length
section
variable {X:Cx} {pins:List (Addr × Obj)} {σ:List (Option V)} {H H':Hp} {s:Shared} {h':Heap}
theorem Cx.Ok.nofr (ok:X.Ok) {b:Addr} {o:Obj} (e:X.base.get? b=some o):b ∉ X.fs:=fun hb=>by
 have:=(ok.funs.mem hb).1
 rw [e] at this;cases this
theorem Inv.bs (I:Inv X pins σ H s):∀ b o,X.base.get? b=some o→s.heap.get? b=some o∧H b=none:=fun b o e =>
 ⟨I.base.keep b o (I.ok.bs b o e).1 (I.ok.bs b o e).2 (I.ok.nofr e) (I.ok.noex b o e),I.base.free b o (I.ok.bs b o e).1 (I.ok.bs b o e).2 (I.ok.noex b o e)⟩
theorem Inv.bk (I:Inv X pins σ H s):∀ b o,X.base.get? b=some o→s.heap.get? b=some o:=fun b o e=>(I.bs b o e).1
theorem Inv.mod (I:Inv X pins σ H s):Mod X.K X.mg X.base:=I.ok.mod
theorem Inv.kIn (I:Inv X pins σ H s):X.K.In s.heap:=I.ok.mod.kin.keeps I.bk
theorem Inv.lt (I:Inv X pins σ H s):X.env.locals<s.heap.objs.size:=let ⟨_,hn,_⟩:=I.loc;hn.lt
theorem Inv.sz (I:Inv X pins σ H s):X.s₀.heap.objs.size≤s.heap.objs.size:=Nat.le_trans I.ok.above (Nat.le_of_lt I.lt)
theorem Inv.nofs (I:Inv X pins σ H s) {a:Addr} (h:s.heap.objs.size≤a):a ∉ X.fs:=fun hb=>by
 obtain ⟨_,o,ho,_⟩:=I.ok.funs.mem hb
 exact absurd (Nat.lt_of_lt_of_le (Heap.lt_size ho) (Nat.le_trans I.sz h)) (Nat.lt_irrefl _)
theorem Inv.cne (I:Inv X pins σ H s):∀ x c,X.env.cells.lookup x=some c→c≠X.env.locals:=fun x c e z=>by
 obtain ⟨v,o,ho,hd⟩:=I.cell x c e
 obtain ⟨m,⟨o',es,ep,ho',hd',_⟩,_⟩:=I.loc
 rw [z,ho'] at ho;cases ho;rw [hd'] at hd;cases hd
theorem Inv.funs (I:Inv X pins σ H s):s.heap.FunFrames X.base X.outer:=by
 have all:∀ (l:List Env),(∀ b∈frs l,b∈X.fs)→X.s₀.heap.FunFrames X.base l→s.heap.FunFrames X.base l:=by
  intro l
  induction l with
  | nil=>intro _ _;trivial
  | cons env r ih =>
   intro hs hl
   obtain ⟨hk,⟨L,o,hf,hn,ho,hd⟩,hr⟩:=hl
   have hL:L∈X.fs:=hs L (by unfold frs;rw [List.filterMap_cons,hf];exact List.mem_cons_self)
   obtain ⟨sl,e⟩:=I.base.slot L o ho (I.ok.frf L hL) hL fun z=>I.ok.exfs L z hL
   exact ⟨hk,⟨L,_,hf,hn,e,hd⟩,ih (fun b hb=>hs b (by unfold frs;rw [List.filterMap_cons,hf];exact List.mem_cons_of_mem _ hb)) hr⟩
 exact all X.outer (fun _ hb=>hb) I.ok.funs
theorem Inv.stack (I:Inv X pins σ H s):s.heap.FunFrames X.base X.stack:=by
 rcases I.ok.stk with e | ⟨e,hf⟩
 ·rw [e];exact I.funs
 ·rw [e]
  obtain ⟨m,hn,_⟩:=I.loc
  refine .cons (by rw [I.ok.kind];decide) hf hn ?_ I.funs
  exact Heap.get?_none_of_le (Nat.le_trans I.ok.bsz I.ok.above)
theorem Inv.stkSub (I:Inv X pins σ H s):∀ b∈frs X.stack,b∈X.env.locals::X.fs:=fun b hb=>by
 rcases I.ok.stk with e | ⟨e,hf⟩
 ·rw [e] at hb;exact List.mem_cons_of_mem _ hb
 ·rw [e] at hb
  unfold frs at hb
  rw [List.filterMap_cons,hf] at hb
  exact hb
theorem Inv.stkFree (I:Inv X pins σ H s):∀ b∈frs X.stack,H b=none:=fun b hb=>by
 rcases List.mem_cons.mp (I.stkSub b hb) with e | hb
 ·rw [e];exact I.free
 ·obtain ⟨_,o,ho,_⟩:=I.ok.funs.mem hb
  exact I.base.free b o ho (I.ok.frf b hb) fun z=>I.ok.exfs b z hb
theorem Inv.step {g':Array GenState} {t':Nat} {d':Drawn} {ch:List Addr} (I:Inv X pins σ H s)
  (hch:∀ b∈ch,(b∈X.ex∨X.s₀.heap.objs.size≤b)∧b≠X.env.locals∧(∀ x c,X.env.cells.lookup x=some c→c≠b)∧∀ p∈X.pn++pins,p.1≠b)
  (keep:∀ b o,b≠X.env.locals→b ∉ X.fs→b ∉ ch→s.heap.get? b=some o→H b=none→h'.get? b=some o)
  (slot:∀ b o,b≠X.env.locals→b∈X.fs→b ∉ ch→s.heap.get? b=some o→H b=none→∃ sl,h'.get? b=some { o with slots:=sl }) (free:∀ b o,b ∉ ch→s.heap.get? b=some o→H b=none→H' b=none)
  (there:∀ b o,b ∉ ch→s.heap.get? b=some o→∃ o',h'.get? b=some o')
  (tups:∀ b xs,H b=some (.tup xs)→H' b=some (.tup xs)) (frzs:∀ b o u,H b=some (.frz o u)→H' b=some (.frz o u)) (tbls:∀ b ps,H b=some (.tbl ps)→∃ more,H' b=some (.tbl (ps++more)))
  (ns:∀ m,s.heap.Ns X.env.locals m→h'.Ns X.env.locals m) (hok:HOk X.prog X.w H' h') (hg:AllBare g') :
  Inv X pins σ H' { s with heap:=h',gens:=g',drawn:=d',toks:=t' }:=by
 have neL:∀ b o,X.s₀.heap.get? b=some o→b≠X.env.locals:=fun b o e=>Nat.ne_of_lt (Nat.lt_of_lt_of_le (Heap.lt_size e) I.ok.above)
 have neC:∀ b o,X.s₀.heap.get? b=some o→b ∉ X.ex→b ∉ ch:=fun b o e hx hb=>by
  rcases (hch b hb).1 with z | z
  ·exact hx z
  ·exact absurd (Nat.lt_of_lt_of_le (Heap.lt_size e) z) (Nat.lt_irrefl _)
 have cellK:∀ x c,X.env.cells.lookup x=some c→∀ v,s.heap.IsCell c v→h'.IsCell c v:=fun x c e v ⟨o,ho,hd⟩=>by
  have nch:c ∉ ch:=fun z=>(hch c z).2.2.1 x c e rfl
  by_cases hc:c∈X.fs
  ·obtain ⟨sl,q⟩:=slot c o (I.cne x c e) hc nch ho (I.freeC x c e)
   exact ⟨_,q,hd⟩
  ·exact ⟨o,keep c o (I.cne x c e) hc nch ho (I.freeC x c e),hd⟩
 refine ⟨I.ok,I.os,hg,⟨fun b o e n hb hx=>?_,fun b o e n hb hx=>?_,fun b o e n hx=>?_,fun b o e hx=>?_,fun b xs e=>tups b xs (I.base.tups b xs e),fun b o xs e=>frzs b o xs (I.base.frzs b o xs e),fun b ps e=>?_⟩,?_,fun x c e=>?_,?_,fun x c e=>?_,fun p hp=>?_,hok,I.len⟩
 ·exact keep b o (neL b o e) hb (neC b o e hx) (I.base.keep b o e n hb hx) (I.base.free b o e n hx)
 ·obtain ⟨sl,e1⟩:=I.base.slot b o e n hb hx
  obtain ⟨sl',e2⟩:=slot b _ (neL b o e) hb (neC b o e hx) e1 (I.base.free b o e n hx)
  exact ⟨sl',e2⟩
 ·obtain ⟨o',e1⟩:=I.base.there b o e hx
  exact free b o' (neC b o e hx) e1 (I.base.free b o e n hx)
 ·obtain ⟨o',e1⟩:=I.base.there b o e hx
  exact there b o' (neC b o e hx) e1
 ·obtain ⟨m1,e1⟩:=I.base.tbls b ps e
  obtain ⟨m2,e2⟩:=tbls b _ e1
  exact ⟨m1++m2,by rw [e2,Array.append_assoc]⟩
 ·obtain ⟨m,hn,hl⟩:=I.loc
  refine ⟨m,ns m hn,fun i x v e1 e2 e3=>?_⟩
  obtain ⟨u,r,l⟩:=hl i x v e1 e2 e3
  refine ⟨u,r,?_⟩
  rcases l with l | ⟨k,c,e,z⟩
  ·exact .inl l
  ·exact .inr ⟨k,c,e,cellK x c e _ z⟩
 ·obtain ⟨v,z⟩:=I.cell x c e
  exact ⟨v,cellK x c e v z⟩
 ·obtain ⟨m,⟨o,_,_,ho,_⟩,_⟩:=I.loc
  exact free _ o (fun z=>(hch _ z).2.1 rfl) ho I.free
 ·obtain ⟨v,o,ho,hd⟩:=I.cell x c e
  exact free c o (fun z=>(hch c z).2.2.1 x c e rfl) ho (I.freeC x c e)
 ·obtain ⟨e,n,ne,nf,d⟩:=I.pin p hp
  have nch:p.1 ∉ ch:=fun z=>(hch p.1 z).2.2.2 p hp rfl
  exact ⟨keep p.1 p.2 ne nf nch e n,free p.1 p.2 nch e n,ne,nf,d⟩
theorem Inv.un {t':Nat} (I:Inv X pins σ H s) (u:Un X.fs [] H H' s.heap h') (hok:HOk X.prog X.w H' h'):Inv X pins σ H' { s with heap:=h',toks:=t' }:=by
 obtain ⟨m,⟨o,es,ep,ho,r⟩,_⟩:=id I.loc
 obtain ⟨sl,hL⟩:=u.any ho I.free (by simp)
 exact I.step (g':=s.gens) (d':=s.drawn) (ch:=[]) (fun _ z=>nomatch z) (fun b o _ hb _ e n=>u.keep b o e n hb (by simp)) (fun b o _ hb _ e n=>u.slot b o e n hb (by simp)) (fun b o _ e n=>u.free b o e n (by simp)) (fun b o _ e=>u.there b o e (by simp)) u.tups u.frzs u.tbls (fun m' hm=>by
  obtain ⟨o',es',ep',ho',r'⟩:=hm
  rw [ho] at ho';cases ho'
  exact ⟨_,es',ep',hL,r'⟩) hok I.bare
theorem Inv.call {g':Array GenState} {t':Nat} {d':Drawn} {ch:List Addr} (I:Inv X pins σ H s) (u:Un (frs X.stack) ch H H' s.heap h') (hok:HOk X.prog X.w H' h') (hg:AllBare g')
  (hch:∀ b∈ch,(b∈X.ex∨X.s₀.heap.objs.size≤b)∧b≠X.env.locals∧(∀ x c,X.env.cells.lookup x=some c→c≠b)∧∀ p∈X.pn++pins,p.1≠b) :
  Inv X pins σ H' { s with heap:=h',gens:=g',drawn:=d',toks:=t' }:=by
 obtain ⟨m,⟨o,es,ep,ho,r⟩,_⟩:=id I.loc
 obtain ⟨sl,hL⟩:=u.any ho I.free fun z=>(hch _ z).2.1 rfl
 exact I.step (ch:=ch) hch (fun b o hL hb hc e n=>u.keep b o e n (fun z=>(List.mem_cons.mp (I.stkSub b z)).elim hL hb) hc) (fun b o _ _ hc e n=>u.any e n hc) (fun b o hc e n=>u.free b o e n hc) (fun b o hc e=>u.there b o e hc) u.tups u.frzs u.tbls (fun m' hm=>by
  obtain ⟨o',es',ep',ho',r'⟩:=hm
  rw [ho] at ho';cases ho'
  exact ⟨_,es',ep',hL,r'⟩) hok hg
theorem Inv.turned {t':Nat} {it:Addr} (I:Inv X pins σ H s) (k:∀ b o,b≠it→s.heap.get? b=some o→h'.get? b=some o) (hn:H it=none) (hL:it≠X.env.locals)
  (h1:it∈X.ex∨X.s₀.heap.objs.size≤it) (h2:∀ x c,X.env.cells.lookup x=some c→c≠it) (h3:∀ p∈X.pn++pins,p.1≠it):Inv X pins σ H { s with heap:=h',toks:=t' }:=by
 have nit:∀ b u,H b=some u→b≠it:=fun b u e z=>by rw [z,hn] at e;cases e
 refine I.step (g':=s.gens) (d':=s.drawn) (ch:=[it]) (fun b hb=>?_) (fun b o _ _ hc e _=>k b o (fun z=>hc (by simp [z])) e) (fun b o _ _ hc e _=>⟨o.slots,k b o (fun z=>hc (by simp [z])) e⟩) (fun _ _ _ _ n=>n)
  (fun b o hc e=>⟨o,k b o (fun z=>hc (by simp [z])) e⟩) (fun _ _ e=>e) (fun _ _ _ e=>e) (fun b ps e=>⟨#[],by rw [e];simp⟩) (fun m hm=>?_) (fun b u e=>?_) I.bare
 ·have e:b=it:=by simpa using hb
  subst e
  exact ⟨h1,hL,h2,h3⟩
 ·obtain ⟨o,es,ep,ho,r⟩:=hm
  exact ⟨o,es,ep,k _ o (Ne.symm hL) ho,r⟩
 ·refine (I.hok b u e).stay (fun c v hc q=>k c v ?_ q) (fun _ q=>q) fun _ _ q=>q
  rcases hc with z | z
  ·rw [z];exact nit b u e
  ·exact nit c _ z
theorem Inv.tok (I:Inv X pins σ H s) (t:Nat):Inv X pins σ H { s with toks:=t }:=I.un (h':=s.heap) (t':=t) Un.refl I.hok
theorem Inv.kept {t':Nat} (I:Inv X pins σ H s) (k:∀ b u,s.heap.get? b=some u→h'.get? b=some u):Inv X pins σ H { s with heap:=h',toks:=t' }:=I.un (Un.kept k) (I.hok.kept k)
theorem Inv.laid {a:Addr} {o:HO} {t':Nat} (I:Inv X pins σ H s) (k:∀ b u,s.heap.get? b=some u→h'.get? b=some u) (hp:s.heap.objs.size≤a) (new:ObjOk X.prog X.w (upd H a o) h' a o) :
  Inv X pins σ (upd H a o) { s with heap:=h',toks:=t' }:=I.un (Un.laid k hp (I.hok.fresh hp)) (I.hok.laid k hp new)
theorem Inv.write {x e:Addr} {o:HO} {t':Nat} (I:Inv X pins σ H s) (mu:Mut (H x)) (he:e=x∨H e=some (.own x)) (k:∀ b u,b≠e→s.heap.get? b=some u→h'.get? b=some u) (heo:∃ u,h'.get? e=some u)
  (new:ObjOk X.prog X.w (upd H x o) h' x o):Inv X pins σ (upd H x o) { s with heap:=h',toks:=t' }:=I.un (Un.write mu he k heo) (I.hok.write mu he k heo new)
theorem Inv.pins_of {pins':List (Addr × Obj)} (I:Inv X pins σ H s) (h:∀ p∈pins',s.heap.get? p.1=some p.2∧H p.1=none∧p.1≠X.env.locals∧p.1 ∉ X.fs∧∀ v,p.2.data≠.cell v):Inv X pins' σ H s :=
 ⟨I.ok,I.os,I.bare,I.base,I.loc,I.cell,I.free,I.freeC,fun p hp=>(List.mem_append.mp hp).elim (fun z=>I.pin p (List.mem_append_left _ z)) (h p),I.hok,I.len⟩
theorem nodup_ix {N:List Str} (hN:N.Nodup) {i j:Nat} {x:Str} (a:N[i]? = some x) (b:N[j]? = some x):i=j:=by
 obtain ⟨h1,e1⟩:=List.getElem?_eq_some_iff.mp a
 obtain ⟨h2,e2⟩:=List.getElem?_eq_some_iff.mp b
 exact (List.getElem_inj hN).mp (e1.trans e2.symm)
theorem store_ok2 {M:Model} {A:Around} {E:Value→Shared→Prop} {i:Nat} {x:Str} {v:V} {u:Value} {Q:Unit→Shared→Prop} (I:Inv X pins σ H s) (hN:X.N.Nodup) (hi:X.N[i]? = some x) (hx:Loc X.env.scope x) (r:RelV v u)
  (h:∀ s',Inv X pins (σ.set i (some v)) H s'→(∃ a,Heap.SameBut a s.heap s'.heap∧(a=X.env.locals∨X.env.cells.lookup x=some a))→Q () s') (hf:X.fn x=true∨X.env.scope.names.lookup x=some .local:=by first | exact .inl rfl | exact .inr rfl | assumption):wpAny M A (storeName X.env x u) Q E s:=by
 obtain ⟨m,hn,hl⟩:=id I.loc
 have hcls:(X.env.scope.kind == .class || (X.env.scope.kind == .module && X.env.locals != X.env.globals))=false:=by rw [I.ok.kind];rfl
 have hiσ:i<σ.length:=by rw [I.len];exact (List.getElem?_eq_some_iff.mp hi).1
 have cne:=I.cne
 have tracked:∀ {a:Addr} {h':Heap},(∃ o,s.heap.get? a=some o∧H a=none)→Heap.SameBut a s.heap h'→HOk X.prog X.w H h':=fun {a h'} ha hs b ob e=>by
  obtain ⟨_,_,hfree⟩:=ha
  refine (I.hok b ob e).stay (fun c w' hc q=>(hs.2 c ?_).trans q) (fun _ q=>q) fun _ _ q=>q
  rintro rfl
  rcases hc with rfl | hc
  ·rw [hfree] at e;cases e
  ·rw [hfree] at hc;cases hc
 rcases hx with hk | hk
 ·refine wpAny_storeName_local hk hn (fun h' hn' hs=>?_) hcls
  obtain ⟨oL,_,_,hoL,_⟩:=id hn
  refine h _ ⟨I.ok,I.os,I.bare,⟨fun b o e n hb hx=>?_,fun b o e n hb hx=>?_,I.base.free,fun b o e hx=>?_,I.base.tups,I.base.frzs,I.base.tbls⟩,⟨_,hn',fun j y v' e1 e2 e3=>?_⟩,fun y c e=>?_,I.free,I.freeC,fun p hp=>?_,tracked ⟨oL,hoL,I.free⟩ hs,by simpa using I.len⟩ ⟨_,hs,.inl rfl⟩
  ·exact (hs.2 b (Nat.ne_of_lt (Nat.lt_of_lt_of_le (Heap.lt_size e) I.ok.above))).trans (I.base.keep b o e n hb hx)
  ·obtain ⟨sl,e1⟩:=I.base.slot b o e n hb hx
   exact ⟨sl,(hs.2 b (Nat.ne_of_lt (Nat.lt_of_lt_of_le (Heap.lt_size e) I.ok.above))).trans e1⟩
  ·obtain ⟨o',e1⟩:=I.base.there b o e hx
   exact ⟨o',(hs.2 b (Nat.ne_of_lt (Nat.lt_of_lt_of_le (Heap.lt_size e) I.ok.above))).trans e1⟩
  ·by_cases hj:j=i
   ·subst hj
    rw [hi] at e1;cases e1
    rw [List.getElem?_set_self hiσ] at e2
    cases e2
    exact ⟨u,r,.inl ⟨hk,by simp⟩⟩
   ·rw [List.getElem?_set_ne (Ne.symm hj)] at e2
    obtain ⟨u',r',q⟩:=hl j y v' e1 e2 e3
    refine ⟨u',r',?_⟩
    rcases q with ⟨k,e⟩ | ⟨k,c,e,z⟩
    ·refine .inl ⟨k,?_⟩
     have:y≠x:=fun e=>hj (nodup_ix hN e1 (e ▸ hi))
     simp [this,e]
    ·exact .inr ⟨k,c,e,z.sameBut hs (cne y c e)⟩
  ·obtain ⟨w',z⟩:=I.cell y c e
   exact ⟨w',z.sameBut hs (cne y c e)⟩
  ·obtain ⟨e,n,ne,nf,d⟩:=I.pin p hp
   exact ⟨(hs.2 p.1 ne).trans e,n,ne,nf,d⟩
 ·have hfn:X.fn x=true:=by
   rcases hf with z | z
   ·exact z
   ·rw [z] at hk;cases hk
  obtain ⟨c,hc⟩:=I.ok.has x (.inl hk)
  obtain ⟨w',z⟩:=I.cell x c hc
  refine wpAny_storeName_cell I.ok.kind hk hc z (fun h' hc' hs=>?_)
  obtain ⟨oc,hoc,hocd⟩:=id z
  refine h { s with heap:=h' } ⟨I.ok,I.os,I.bare,⟨fun b o e n hb hx=>?_,fun b o e n hb hx=>?_,I.base.free,fun b o e hx=>?_,I.base.tups,I.base.frzs,I.base.tbls⟩,⟨m,hn.sameBut hs (Ne.symm (cne x c hc)),fun j y v' e1 e2 e3=>?_⟩,fun y c' e=>?_,I.free,I.freeC,fun p hp=>?_,tracked ⟨oc,hoc,I.freeC x c hc⟩ hs,by simpa using I.len⟩ ⟨c,hs,.inr hc⟩
  ·exact (hs.2 b (Nat.ne_of_lt (Nat.lt_of_lt_of_le (Heap.lt_size e) (I.ok.cab x c hfn hc)))).trans (I.base.keep b o e n hb hx)
  ·obtain ⟨sl,e1⟩:=I.base.slot b o e n hb hx
   exact ⟨sl,(hs.2 b (Nat.ne_of_lt (Nat.lt_of_lt_of_le (Heap.lt_size e) (I.ok.cab x c hfn hc)))).trans e1⟩
  ·obtain ⟨o',e1⟩:=I.base.there b o e hx
   exact ⟨o',(hs.2 b (Nat.ne_of_lt (Nat.lt_of_lt_of_le (Heap.lt_size e) (I.ok.cab x c hfn hc)))).trans e1⟩
  ·by_cases hj:j=i
   ·subst hj
    rw [hi] at e1;cases e1
    rw [List.getElem?_set_self hiσ] at e2
    cases e2
    exact ⟨u,r,.inr ⟨.inl hk,c,hc,hc'⟩⟩
   ·rw [List.getElem?_set_ne (Ne.symm hj)] at e2
    obtain ⟨u',r',q⟩:=hl j y v' e1 e2 e3
    refine ⟨u',r',?_⟩
    rcases q with q | ⟨k,c',e,z'⟩
    ·exact .inl q
    ·refine .inr ⟨k,c',e,z'.sameBut hs ?_⟩
     rintro rfl
     exact hj (nodup_ix hN e1 (I.ok.inj _ _ _ e hc ▸ hi))
  ·by_cases hcc:c'=c
   ·subst hcc;exact ⟨_,hc'⟩
   ·obtain ⟨w2,z2⟩:=I.cell y c' e
    exact ⟨w2,z2.sameBut hs hcc⟩
  ·obtain ⟨e,n,ne,nf,d⟩:=I.pin p hp
   refine ⟨(hs.2 p.1 ?_).trans e,n,ne,nf,d⟩
   intro q
   rw [q,hoc] at e
   have q':oc=p.2:=Option.some.inj e
   exact d w' (by rw [← q'];exact hocd)
theorem store_ok {M:Model} {A:Around} {E:Value→Shared→Prop} {i:Nat} {x:Str} {v:V} {u:Value} {Q:Unit→Shared→Prop} (I:Inv X pins σ H s) (hN:X.N.Nodup) (hi:X.N[i]? = some x) (hx:Loc X.env.scope x) (r:RelV v u)
  (h:∀ s',Inv X pins (σ.set i (some v)) H s'→Q () s') (hf:X.fn x=true∨X.env.scope.names.lookup x=some .local:=by first | exact .inl rfl | exact .inr rfl | assumption):wpAny M A (storeName X.env x u) Q E s :=
 store_ok2 I hN hi hx r (fun s' I' _=>h s' I') hf
theorem Inv.call' {s':Shared} {ch:List Addr} (I:Inv X pins σ H s) (ho:s'.os=s.os) (u:Un (frs X.stack) ch H H' s.heap s'.heap) (hok:HOk X.prog X.w H' s'.heap) (hg:AllBare s'.gens)
  (hch:∀ b∈ch,(b∈X.ex∨X.s₀.heap.objs.size≤b)∧b≠X.env.locals∧(∀ x c,X.env.cells.lookup x=some c→c≠b)∧∀ p∈X.pn++pins,p.1≠b):Inv X pins σ H' s':=by
 obtain ⟨h',g',d',t',o'⟩:=s'
 have e:o'=s.os:=ho
 subst e
 exact I.call (g':=g') (t':=t') (d':=d') u hok hg hch
end
abbrev XK:=Value→Option Addr→Hp→Prop
abbrev St:=List (Option V)
abbrev VK:=V→Hp→Prop
abbrev TE:=St→Hp→VK→Prop
abbrev TT:=St→Hp→(Bool→Hp→Prop)→Prop
abbrev TA:=St→Hp→(List V→Hp→Prop)→Prop
structure Ends where
 nx:St→Hp→Prop
 rt:VK
 bk:St→Hp→Prop:=fun _ _=>False
 ct:St→Hp→Prop:=fun _ _=>False
abbrev TS:=Ends→St→Hp→Prop
def EP (X:Cx) (pins:List (Addr × Obj)) (σ:St) (Q:VK) (u:Value) (s':Shared):Prop:=∃ v H',Inv X pins σ H' s'∧RelV v u∧Q v H'
def TP (X:Cx) (pins:List (Addr × Obj)) (σ:St) (Q:Bool→Hp→Prop) (b:Bool) (s':Shared):Prop:=∃ H',Inv X pins σ H' s'∧Q b H'
def AP (X:Cx) (pins:List (Addr × Obj)) (σ:St) (Q:List V→Hp→Prop) (us:List Value) (s':Shared):Prop:=∃ vs H',Inv X pins σ H' s'∧Vals vs us∧Q vs H'
def SP (X:Cx) (pins:List (Addr × Obj)) (D:Ends) (f:Flow) (s':Shared):Prop :=
 match f with
 | .next=>∃ σ' H',Inv X pins σ' H' s'∧D.nx σ' H'
 | .brk=>∃ σ' H',Inv X pins σ' H' s'∧D.bk σ' H'
 | .cont=>∃ σ' H',Inv X pins σ' H' s'∧D.ct σ' H'
 | .ret u=>∃ v σ' H',Inv X pins σ' H' s'∧RelV v u∧D.rt v H'
def PE (X:Cx) (e:Expr) (t:TE):Prop :=
 ∀ (pins:List (Addr × Obj)) (s:Shared) (σ:St) (H:Hp) (Q:VK),Inv X pins σ H s→t σ H Q→wpAny (model X.prog X.w) X.A (eval e X.env) (EP X pins σ Q) X.xe s
def PT (X:Cx) (e:Expr) (t:TT):Prop :=
 ∀ (pins:List (Addr × Obj)) (s:Shared) (σ:St) (H:Hp) (Q:Bool→Hp→Prop),Inv X pins σ H s→t σ H Q→wpAny (model X.prog X.w) X.A (isTrue e X.env (eval e X.env)) (TP X pins σ Q) X.xe s
def PW (X:Cx) (e:Expr) (t:TT):Prop :=
 ∀ (whole:Sem Value) (pins:List (Addr × Obj)) (s:Shared) (σ:St) (H:Hp) (Q:Bool→Hp→Prop),Inv X pins σ H s→t σ H Q→wpAny (model X.prog X.w) X.A (isTrue e X.env whole) (TP X pins σ Q) X.xe s
theorem PW.pt {X:Cx} {e:Expr} {t:TT} (h:PW X e t):PT X e t:=h _
def PA (X:Cx) (es:List Expr) (t:TA):Prop :=
 ∀ (pos:Pos) (pins:List (Addr × Obj)) (s:Shared) (σ:St) (H:Hp) (Q:List V→Hp→Prop),Inv X pins σ H s→t σ H Q→wpAny (model X.prog X.w) X.A (spliced (backTo pos (starEach es X.env))) (AP X pins σ Q) X.xe s
def PS (X:Cx) (st:Stmt) (t:TS):Prop :=
 ∀ (pins:List (Addr × Obj)) (s:Shared) (σ:St) (H:Hp) (D:Ends),Inv X pins σ H s→t D σ H→wpAny (model X.prog X.w) X.A (exec st X.env) (SP X pins D) X.xe s
def PSs (X:Cx) (st:List Stmt) (t:TS):Prop :=
 ∀ (pins:List (Addr × Obj)) (s:Shared) (σ:St) (H:Hp) (D:Ends),Inv X pins σ H s→t D σ H→wpAny (model X.prog X.w) X.A (execs st X.env) (SP X pins D) X.xe s
theorem thn {α:Type} {t:Sem α} {Q Q':α→Shared→Prop} {M:Model} {A:Around} {E:Value→Shared→Prop} {s:Shared} (h:wpAny M A t Q E s) (hQ:∀ a s,Q a s→Q' a s):wpAny M A t Q' E s:=wpAny_mono h hQ fun _ _ x=>x
end L2
namespace L2
open PySem PySem.Spec PyProof.Rows
section
variable {X:Cx}
theorem bin {a b:Expr} {ta tb:TE} (ha:PE X a ta) (hb:PE X b tb) {pins:List (Addr × Obj)} {s:Shared} {σ:St} {H:Hp} {R:V→V→Hp→Prop} (I:Inv X pins σ H s) (h:ta σ H fun x H1=>tb σ H1 fun y H2=>R x y H2)
  {α:Type} {Q:α→Shared→Prop} {f:Value→Value→Sem α}
  (hf:∀ v u s2 x y H2,Inv X pins σ H2 s2→RelV x v→RelV y u→R x y H2→wpAny (model X.prog X.w) X.A (f v u) Q X.xe s2) :
  wpAny (model X.prog X.w) X.A (eval a X.env) (fun v s₁=>wpAny (model X.prog X.w) X.A (eval b X.env) (fun u s₂=>wpAny (model X.prog X.w) X.A (f v u) Q X.xe s₂) X.xe s₁) X.xe s:=by
 refine thn (ha pins s σ H _ I h) fun v s1 ⟨x,H1,I1,r1,q1⟩=>?_
 refine thn (hb pins s1 σ H1 _ I1 q1) fun u s2 ⟨y,H2,I2,r2,q2⟩=>?_
 exact hf v u s2 x y H2 I2 r1 r2 q2
def tVar (i:Nat):TE:=fun σ H Q=>∃ v,σ[i]? = some (some v)∧Q v H
def tC (v:V):TE:=fun _ H Q=>Q v H
theorem pe_var {i:Nat} {x:Str} {pos:Pos} (hN:X.N[i]? = some x) (hv:Vis X.env.scope x) (hd:(x == ("__debug__":Str))=false:=by decide) (hcd:(x == ("__classdict__":Str))=false:=by decide):PE X (.Name x pos) (tVar i):=by
 intro pins s σ H Q I h
 obtain ⟨v,e,h⟩:=h
 obtain ⟨m,hn,hl⟩:=I.loc
 obtain ⟨u,r,l⟩:=hl i x v hN e hv
 have fin:EP X pins σ Q u s:=⟨v,H,I,r,h⟩
 rcases l with ⟨hk,hm⟩ | ⟨hk,c,hc,hcell⟩
 ·exact wpAny_Name (wpAny_loadName_local I.ok.kind hk hn hm fin) hd
 ·rcases hk with hk | hk
  ·exact wpAny_Name (wpAny_loadName_cell I.ok.kind hk hc hcell fin) hd
  ·exact wpAny_Name (wpAny_loadName_free I.ok.kind hk hc hcell fin hcd) hd
theorem pe_int {i j pos}:PE X (.Constant (.int i) j pos) (tC (.int i)):=fun _ _ _ H _ I h=>wpAny_Constant_int ⟨.int i,H,I.tok _,⟨_,rfl⟩,h⟩
theorem pe_bl {b j pos}:PE X (.Constant (.bool b) j pos) (tC (.bl b)):=fun _ _ _ H _ I h=>Constant_bool ⟨.bl b,H,I,rfl,h⟩
theorem pe_non {j pos}:PE X (.Constant .none j pos) (tC .non):=fun _ _ _ H _ I h=>Constant_none ⟨.non,H,I,rfl,h⟩
theorem pe_str {x j pos}:PE X (.Constant (.str x) j pos) (tC (.str x)):=fun _ _ _ H _ I h=>Calls.Constant_str ⟨.str x,H,I.tok _,⟨_,rfl⟩,h⟩
def Gl (X:Cx) (x:Str):Prop:=X.env.kindOf x=some .globalImplicit
theorem ld_glob {E:Value→Shared→Prop} {pins:List (Addr × Obj)} {s:Shared} {σ:St} {H:Hp} {x:Str} {u:Value} {pos:Pos} {Q:Value→Shared→Prop} (I:Inv X pins σ H s) (hg:Gl X x) (hm:X.mg x=some u) (h:Q u s)
  (hd:(x == ("__debug__":Str))=false:=by decide):wpAny (model X.prog X.w) X.A (eval (.Name x pos) X.env) Q E s :=
 Calls.Name_function_global I.ok.kind hg (Calls.loadGlobal_global (by rw [I.ok.glob];exact I.mod.glob.keeps I.bk) hm h) hd
theorem ld_blt {E:Value→Shared→Prop} {pins:List (Addr × Obj)} {s:Shared} {σ:St} {H:Hp} {x:Str} {u:Value} {pos:Pos} {Q:Value→Shared→Prop} (I:Inv X pins σ H s) (hg:Gl X x) (hm:X.mg x=none) (hv:bootBuiltins x=some u) (h:Q u s)
  (hn:x≠"__name__":=by decide) (hd:(x == ("__debug__":Str))=false:=by decide):wpAny (model X.prog X.w) X.A (eval (.Name x pos) X.env) Q E s:=by
 obtain ⟨mb,h1,h2⟩:=I.mod.blt
 exact Calls.Name_function_global I.ok.kind hg (Calls.loadGlobal_builtin (by rw [I.ok.glob];exact I.mod.glob.keeps I.bk) hm (by rw [I.ok.blt];exact h1.keeps I.bk) ((h2 x hn).trans hv) h) hd
theorem pe_glob {x:Str} {v:V} {u:Value} {pos:Pos} (hg:Gl X x) (hm:X.mg x=some u) (r:RelV v u) (hd:(x == ("__debug__":Str))=false:=by decide):PE X (.Name x pos) (tC v) :=
 fun _ _ _ H _ I h=>ld_glob I hg hm ⟨v,H,I,r,h⟩ hd
theorem pe_bltn {x:Str} {v:V} {u:Value} {pos:Pos} (hg:Gl X x) (hm:X.mg x=none) (hv:bootBuiltins x=some u) (r:RelV v u) (hn:x≠"__name__":=by decide) (hd:(x == ("__debug__":Str))=false:=by decide):PE X (.Name x pos) (tC v) :=
 fun _ _ _ H _ I h=>ld_blt I hg hm hv ⟨v,H,I,r,h⟩ hn hd
def t2I (ta tb:TE) (k:Int→Int→Hp→Prop):St→Hp→Prop:=fun σ H=>ta σ H fun x H1=>tb σ H1 fun y H2=>∃ i j,x = .int i∧y = .int j∧k i j H2
variable {a b:Expr} {ta tb:TE} {pos:Pos}
def PC (X:Cx) (op:CmpOp) (a b:Expr) (t:TE):Prop :=
 ∀ (pins:List (Addr × Obj)) (s:Shared) (σ:St) (H:Hp) (Q:VK),Inv X pins σ H s→t σ H Q →
  wpAny (model X.prog X.w) X.A (eval a X.env) (fun v s₁=>wpAny (model X.prog X.w) X.A (eval b X.env) (fun u s₂=>wpAny (model X.prog X.w) X.A (compareOp op v u) (EP X pins σ Q) X.xe s₂) X.xe s₁) X.xe s
theorem nobehind (b:Expr) {op:CmpOp} (h:op≠.In) (h2:op≠.NotIn):behindInMarks op b=false:=by
 have e1:(op == CmpOp.In)=false:=by cases op <;> first | rfl | exact absurd rfl h
 have e2:(op == CmpOp.NotIn)=false:=by cases op <;> first | rfl | exact absurd rfl h2
 cases b <;> simp [behindInMarks,e1,e2]
def tCmp (p:Int→Int→Bool) (ta tb:TE):TE:=fun σ H Q=>t2I ta tb (fun i j H2=>Q (.bl (p i j)) H2) σ H
abbrev tLt:TE→TE→TE:=tCmp fun i j=>decide (i<j)
abbrev tLe:TE→TE→TE:=tCmp fun i j=>decide (i≤j)
abbrev tGt:TE→TE→TE:=tCmp fun i j=>decide (j<i)
abbrev tGe:TE→TE→TE:=tCmp fun i j=>decide (j≤i)
abbrev tEqI:TE→TE→TE:=tCmp fun i j=>decide (i=j)
abbrev tNeI:TE→TE→TE:=tCmp fun i j=>!decide (i=j)
theorem pc_int {op:CmpOp} {p:Int→Int→Bool} (ha:PE X a ta) (hb:PE X b tb)
  (rule:∀ (i j:Int) (t u:Tok) (Q:Value→Shared→Prop) (s:Shared),Q (.bool (p i j)) s→wpAny (model X.prog X.w) X.A (compareOp op (.int i t) (.int j u)) Q X.xe s):PC X op a b (tCmp p ta tb):=by
 intro pins s σ H Q I h
 refine bin ha hb I h fun v u s2 x y H2 I2 rx ry q=>?_
 obtain ⟨i,j,rfl,rfl,q⟩:=q
 obtain ⟨t,rfl⟩:=rx
 obtain ⟨t',rfl⟩:=ry
 exact rule i j t t' _ s2 ⟨.bl _,H2,I2,rfl,q⟩
theorem pc_lt (ha:PE X a ta) (hb:PE X b tb):PC X .Lt a b (tLt ta tb):=pc_int ha hb fun _ _ _ _ _ _ h=>lt_int h
theorem pc_le (ha:PE X a ta) (hb:PE X b tb):PC X .LtE a b (tLe ta tb):=pc_int ha hb fun _ _ _ _ _ _ h=>le_int h
theorem pc_gt (ha:PE X a ta) (hb:PE X b tb):PC X .Gt a b (tGt ta tb):=pc_int ha hb fun _ _ _ _ _ _ h=>gt_int h
theorem pc_ge (ha:PE X a ta) (hb:PE X b tb):PC X .GtE a b (tGe ta tb):=pc_int ha hb fun _ _ _ _ _ _ h=>ge_int h
theorem pc_eqI (ha:PE X a ta) (hb:PE X b tb):PC X .Eq a b (tEqI ta tb):=pc_int ha hb fun _ _ _ _ _ _ h=>eq_int (by rw [Bool.beq_eq_decide_eq];exact h)
theorem pc_neI (ha:PE X a ta) (hb:PE X b tb):PC X .NotEq a b (tNeI ta tb):=pc_int ha hb fun _ _ _ _ _ _ h=>ne_int (by rw [bne,Bool.beq_eq_decide_eq];exact h)
def tIsN (ta:TE):TE:=fun σ H Q=>ta σ H fun x H1=>Q (.bl (decide (x = .non))) H1
def tNotN (ta:TE):TE:=fun σ H Q=>ta σ H fun x H1=>Q (.bl (!decide (x = .non))) H1
theorem RelV.none_iff {x:V} {v:Value} (r:RelV x v):(v == Value.none)=decide (x = .non):=by
 cases x with
 | non=>cases r;rfl
 | bl _=>cases r;rfl
 | int _=>obtain ⟨t,rfl⟩:=r;rfl
 | str _=>obtain ⟨t,rfl⟩:=r;rfl
 | byt _=>obtain ⟨t,rfl⟩:=r;rfl
 | flt _=>obtain ⟨t,rfl⟩:=r;rfl
 | ref _=>cases r;rfl
 | ty _=>cases r;rfl
theorem pc_isN {j pos'} (ha:PE X a ta):PC X .Is a (.Constant .none j pos') (tIsN ta):=by
 intro pins s σ H Q I h
 refine thn (ha pins s σ H _ I h) fun v s1 ⟨x,H1,I1,r1,q1⟩=>?_
 exact Constant_none (is_none_gen ⟨.bl _,H1,I1,by rw [r1.none_iff];rfl,q1⟩)
theorem pc_notN {j pos'} (ha:PE X a ta):PC X .IsNot a (.Constant .none j pos') (tNotN ta):=by
 intro pins s σ H Q I h
 refine thn (ha pins s σ H _ I h) fun v s1 ⟨x,H1,I1,r1,q1⟩=>?_
 exact Constant_none (isnot_none_gen ⟨.bl _,H1,I1,by rw [r1.none_iff];rfl,q1⟩)
def tB (t:TE):TT:=fun σ H Q=>t σ H fun x H1=>∃ c,x = .bl c∧Q c H1
theorem pe_cmp {op:CmpOp} {t:TE} (h:PC X op a b t) (h1:behindInMarks op b=false:=by first | exact nobehind _ (by decide) (by decide) | rfl):PE X (.Compare a [op] [b] pos) t:=fun pins s σ H Q I hw=>wpAny_Compare1 (h pins s σ H Q I hw) h1
theorem pt_cmp {op:CmpOp} {t:TE} (h:PC X op a b t) (h1:behindInMarks op b=false:=by first | exact nobehind _ (by decide) (by decide) | rfl):PT X (.Compare a [op] [b] pos) (tB t):=by
 intro pins s σ H Q I hw
 refine wpAny_isTrue_Compare1 (thn (h pins s σ H _ I hw) fun v s1 h1=>thn h1 fun u s2 h2=>thn h2 fun c s3 ⟨x,H1,I1,r1,q1⟩=>?_) h1
 obtain ⟨d,rfl,q⟩:=q1
 cases r1
 exact wpAny_truthy_bool ⟨H1,I1,q⟩
theorem pt_val {e:Expr} {t:TE} (h:PE X e t) (he:∀ whole,isTrue e X.env whole=(do let v ← whole;standAt e.pos;holding [v] (truthy v)):=by intro _;rfl):PT X e (tB t):=by
 intro pins s σ H Q I hw
 refine isTrue_plain (thn (h pins s σ H _ I hw) fun v s1 ⟨x,H1,I1,r1,q1⟩=>?_) (he _)
 obtain ⟨d,rfl,q⟩:=q1
 cases r1
 exact wpAny_truthy_bool ⟨H1,I1,q⟩
variable {tA tB':TT} {rest:List Expr}
def tAnd (t u:TT):TT:=fun σ H Q=>t σ H fun c H1=>if c=true then u σ H1 Q else Q false H1
def tOr (t u:TT):TT:=fun σ H Q=>t σ H fun c H1=>if c=true then Q true H1 else u σ H1 Q
def tNot (t:TT):TT:=fun σ H Q=>t σ H fun c H1=>Q (!c) H1
theorem pw_and1 (ha:PT X a tA):PW X (.BoolOp .And [a] pos) tA:=by
 intro wh pins s σ H Q I h
 refine isTrue_and (thn (ha pins s σ H Q I h) fun c s1 e=>?_)
 cases c with
 | true=>exact isTrue_and_nil e
 | false=>exact e
theorem pw_or1 (ha:PT X a tA):PW X (.BoolOp .Or [a] pos) tA:=by
 intro wh pins s σ H Q I h
 refine isTrue_or (thn (ha pins s σ H Q I h) fun c s1 e=>?_)
 cases c with
 | false=>exact isTrue_or_nil e
 | true=>exact e
theorem pw_and (ha:PT X a tA) (hb:PW X (.BoolOp .And (b::rest) pos) tB'):PW X (.BoolOp .And (a::b::rest) pos) (tAnd tA tB'):=by
 intro wh pins s σ H Q I h
 refine isTrue_and (thn (ha pins s σ H _ I h) fun c s1 ⟨H1,I1,q1⟩=>?_)
 cases c with
 | true=>exact hb wh pins s1 σ H1 Q I1 q1
 | false=>exact ⟨H1,I1,q1⟩
theorem pw_or (ha:PT X a tA) (hb:PW X (.BoolOp .Or (b::rest) pos) tB'):PW X (.BoolOp .Or (a::b::rest) pos) (tOr tA tB'):=by
 intro wh pins s σ H Q I h
 refine isTrue_or (thn (ha pins s σ H _ I h) fun c s1 ⟨H1,I1,q1⟩=>?_)
 cases c with
 | true=>exact ⟨H1,I1,q1⟩
 | false=>exact hb wh pins s1 σ H1 Q I1 q1
theorem pt_not (ha:PT X a tA):PT X (.UnaryOp .Not a pos) (tNot tA):=by
 intro pins s σ H Q I h
 exact isTrue_not (ha pins s σ H (fun c H1=>Q (!c) H1) I h)
def tAndV (ta tb:TE):TE:=fun σ H Q=>ta σ H fun x H1=>∃ c,x = .bl c∧if c=true then tb σ H1 Q else Q (.bl false) H1
def tNotV (ta:TE):TE:=fun σ H Q=>ta σ H fun x H1=>∃ c,x = .bl c∧Q (.bl (!c)) H1
theorem pe_one {op} {t:TE} (h:PE X a t):PE X (.BoolOp op [a] pos) t:=fun pins s σ H Q I hw=>BoolOp_one (h pins s σ H Q I hw)
theorem pe_and (ha:PE X a ta) (hb:PE X (.BoolOp .And (b::rest) pos) tb):PE X (.BoolOp .And (a::b::rest) pos) (tAndV ta tb):=by
 intro pins s σ H Q I h
 refine BoolOp_and (thn (ha pins s σ H _ I h) fun v s1 ⟨x,H1,I1,r1,q1⟩=>?_)
 obtain ⟨c,rfl,q1⟩:=q1
 cases r1
 refine wpAny_truthy_bool ?_
 cases c with
 | true=>exact hb pins s1 σ H1 Q I1 q1
 | false=>exact ⟨.bl false,H1,I1,rfl,q1⟩
theorem pe_not (ha:PE X a ta):PE X (.UnaryOp .Not a pos) (tNotV ta):=by
 intro pins s σ H Q I h
 refine UnaryOp_ (thn (ha pins s σ H _ I h) fun v s1 ⟨x,H1,I1,r1,q1⟩=>?_)
 obtain ⟨c,rfl,q1⟩:=q1
 cases r1
 exact not_of (wpAny_truthy_bool ⟨.bl (!c),H1,I1,rfl,q1⟩)
def tIf (t:TT) (ta tb:TE):TE:=fun σ H Q=>t σ H fun c H1=>if c=true then ta σ H1 Q else tb σ H1 Q
theorem pe_ifExp {c:Expr} (hc:PT X c tA) (ha:PE X a ta) (hb:PE X b tb):PE X (.IfExp c a b pos) (tIf tA ta tb):=by
 intro pins s σ H Q I h
 refine wpAny_IfExp (thn (hc pins s σ H _ I h) fun d s1 ⟨H1,I1,q1⟩=>?_)
 cases d with
 | true=>exact ha pins s1 σ H1 Q I1 q1
 | false=>exact hb pins s1 σ H1 Q I1 q1
end
end L2
namespace L2
open PySem PySem.Spec PyProof.Rows
def SqL (K:PySem.W.Frag) (H:Hp) (a:Addr) (xs:List V):Prop :=
 Rd H a (.lst xs) ∨
  ∃ (o:Obj) (its:Array Value) (n:Nat),K.lookup a=some o∧o.cls = .type "list"∧o.dict=none∧o.data = .seq its n∧its.size≤sizeLine∧Vals xs its.toList
def SqT (K:PySem.W.Frag) (H:Hp) (a:Addr) (xs:List V):Prop :=
 Rd H a (.tup xs) ∨
  ∃ (o:Obj) (its:Array Value) (n:Nat),K.lookup a=some o∧o.cls = .type "tuple"∧o.data = .seq its n∧its.size≤sizeLine∧Vals xs its.toList
def absV:Value→Option V
 | .none=>some .non
 | .bool b=>some (.bl b)
 | .int i _=>some (.int i)
 | .str x _=>some (.str x)
 | .bytes b _=>some (.byt b)
 | .float b _=>some (.flt b)
 | .ref a=>some (.ref a)
 | .type n=>some (.ty n)
 | _=>none
theorem RelV.abs {x:V} {u:Value} (r:RelV x u):absV u=some x:=by
 cases x with
 | non=>cases r;rfl
 | bl _=>cases r;rfl
 | int _=>obtain ⟨t,rfl⟩:=r;rfl
 | str _=>obtain ⟨t,rfl⟩:=r;rfl
 | byt _=>obtain ⟨t,rfl⟩:=r;rfl
 | flt _=>obtain ⟨t,rfl⟩:=r;rfl
 | ref _=>cases r;rfl
 | ty _=>cases r;rfl
theorem RelV.inj {x y:V} {u:Value} (r:RelV x u) (q:RelV y u):x=y:=Option.some.inj (r.abs.symm.trans q.abs)
theorem Vals.inj:∀ {xs ys:List V} {us:List Value},Vals xs us→Vals ys us→xs=ys
 | _,_,_,.nil,.nil=>rfl
 | _,_,_,.cons r t,.cons r' t'=>by rw [r.inj r',Vals.inj t t']
section
variable {X:Cx} {pins:List (Addr × Obj)} {σ:St} {H:Hp} {s:Shared} {a:Addr} {xs ys:List V}
theorem SqL.of {K:PySem.W.Frag} (h:H a=some (.lst xs)):SqL K H a xs:=.inl (.inl h)
theorem SqT.of {K:PySem.W.Frag} (h:H a=some (.tup xs)):SqT K H a xs:=.inl (.inl h)
theorem Inv.list (I:Inv X pins σ H s) (h:SqL X.K H a xs):∃ its:List Value,Vals xs its∧PlainL s.heap a its.toArray∧xs.length≤sizeLine:=by
 rcases h with h | ⟨o,its,n,hk,hc,hd,hs,hz,r⟩
 ·obtain ⟨z,its,n,r,e⟩:=h.ok I.hok
  exact ⟨its,r,⟨_,n,e,rfl,rfl,rfl⟩,z⟩
 ·refine ⟨its.toList,r,⟨o,n,I.kIn a o hk,hc,hd,by simpa using hs⟩,?_⟩
  have e:=r.length
  simp only [Array.length_toList] at e
  omega
theorem Inv.tuple (I:Inv X pins σ H s) (h:SqT X.K H a xs):∃ its:List Value,Vals xs its∧IsTup s.heap a its.toArray∧xs.length≤sizeLine:=by
 rcases h with h | ⟨o,its,n,hk,hc,hs,hz,r⟩
 ·obtain ⟨z,its,r,p⟩:=h.ok I.hok
  exact ⟨its,r,p,z⟩
 ·refine ⟨its.toList,r,⟨o,I.kIn a o hk,hc,n,by simpa using hs⟩,?_⟩
  have e:=r.length
  simp only [Array.length_toList] at e
  omega
theorem Inv.list_inj (I:Inv X pins σ H s) (h:SqL X.K H a xs) (h':SqL X.K H a ys):xs=ys:=by
 obtain ⟨its,r,⟨o,n,e,_,_,d⟩,_⟩:=I.list h
 obtain ⟨its',r',⟨o',n',e',_,_,d'⟩,_⟩:=I.list h'
 rw [e] at e';cases e'
 rw [d] at d'
 injection d' with d1 _
 have:its=its':=by simpa using congrArg Array.toList d1
 subst this
 exact r.inj r'
theorem Inv.tuple_inj (I:Inv X pins σ H s) (h:SqT X.K H a xs) (h':SqT X.K H a ys):xs=ys:=by
 obtain ⟨its,r,⟨o,e,_,n,d⟩,_⟩:=I.tuple h
 obtain ⟨its',r',⟨o',e',_,n',d'⟩,_⟩:=I.tuple h'
 rw [e] at e';cases e'
 rw [d] at d'
 injection d' with d1 _
 have:its=its':=by simpa using congrArg Array.toList d1
 subst this
 exact r.inj r'
end
abbrev Cx.wish (X:Cx) (E:Value→Shared→Prop):Cx:={ X with xe:=E }
abbrev Cx.nox (X:Cx):Cx:=X.wish fun _ _=>False
theorem Cx.Ok.wish {X:Cx} (ok:X.Ok) (E:Value→Shared→Prop):(X.wish E).Ok :=
 ⟨ok.mod,ok.kind,ok.glob,ok.blt,ok.above,ok.inj,ok.has,ok.cab,ok.hd,ok.frames,ok.stk,ok.exf,ok.bs,ok.bsz,ok.noex,ok.exfs,ok.funs,ok.frf⟩
theorem Cx.Ok.unwish {X:Cx} {E:Value→Shared→Prop} (ok:(X.wish E).Ok):X.Ok :=
 ⟨ok.mod,ok.kind,ok.glob,ok.blt,ok.above,ok.inj,ok.has,ok.cab,ok.hd,ok.frames,ok.stk,ok.exf,ok.bs,ok.bsz,ok.noex,ok.exfs,ok.funs,ok.frf⟩
section
variable {X:Cx} {pins:List (Addr × Obj)} {σ:St} {H:Hp} {s:Shared} {E:Value→Shared→Prop}
theorem Inv.wish (I:Inv X pins σ H s) (E:Value→Shared→Prop):Inv (X.wish E) pins σ H s:=⟨I.ok.wish E,I.os,I.bare,I.base,I.loc,I.cell,I.free,I.freeC,I.pin,I.hok,I.len⟩
theorem Inv.unwish (I:Inv (X.wish E) pins σ H s):Inv X pins σ H s:=⟨I.ok.unwish,I.os,I.bare,I.base,I.loc,I.cell,I.free,I.freeC,I.pin,I.hok,I.len⟩
theorem SP.unwish {D:Ends} {f:Flow} {s':Shared} (h:SP (X.wish E) pins D f s'):SP X pins D f s':=by
 cases f with
 | next=>obtain ⟨σ',H',I,q⟩:=h;exact ⟨σ',H',I.unwish,q⟩
 | brk=>obtain ⟨σ',H',I,q⟩:=h;exact ⟨σ',H',I.unwish,q⟩
 | cont=>obtain ⟨σ',H',I,q⟩:=h;exact ⟨σ',H',I.unwish,q⟩
 | ret u=>obtain ⟨v,σ',H',I,r,q⟩:=h;exact ⟨v,σ',H',I.unwish,r,q⟩
theorem PSs.nox {st:List Stmt} {t:TS} (h:PSs X.nox st t):PSs X st t:=fun pins s σ H D I hw =>
 wpAny_mono (h pins s σ H D (I.wish _) hw) (fun _ _ q=>q.unwish) fun _ _ z=>False.elim z
end
section
variable {X:Cx} {st:Stmt} {rest:List Stmt} {t u:TS} {e:Expr} {te:TE} {pos:Pos}
def tNext:TS:=fun D σ H=>D.nx σ H
def tSeq (t u:TS):TS:=fun D σ H=>t { D with nx:=u D } σ H
theorem pss_nil:PSs X [] tNext:=fun _ _ σ H _ I h=>wpAny_execs_nil ⟨σ,H,I,h⟩
theorem pss_cons (h1:PS X st t) (h2:PSs X rest u):PSs X (st::rest) (tSeq t u):=by
 intro pins s σ H D I h
 refine wpAny_execs_cons (thn (h1 pins s σ H { D with nx:=u D } I h) fun f s1 q=>?_)
 cases f with
 | next =>
  obtain ⟨σ',H',I',q⟩:=q
  exact h2 pins s1 σ' H' D I' q
 | ret v=>exact q
 | brk=>exact q
 | cont=>exact q
theorem pss_one (h1:PS X st t):PSs X [st] t:=by
 intro pins s σ H D I h
 refine wpAny_execs_cons (thn (h1 pins s σ H D I h) fun f s1 q=>?_)
 cases f with
 | next=>exact wpAny_execs_nil q
 | ret v=>exact q
 | brk=>exact q
 | cont=>exact q
theorem Inv.quiet {pins:List (Addr × Obj)} {σ:St} {H:Hp} {s:Shared} (I:Inv X pins σ H s):interactive X.env=false:=by simp [interactive,I.ok.kind]
def tDrop (te:TE):TS:=fun D σ H=>te σ H fun _ H1=>D.nx σ H1
theorem ps_expr (he:PE X e te) (hs:swapsWith e none pos.line X.env=pure false:=by rfl):PS X (.Expr e pos) (tDrop te):=by
 intro pins s σ H D I h
 exact wpAny_Expr_any (thn (he pins s σ H _ I h) fun v s1 ⟨x,H1,I1,r1,q1⟩=>⟨σ,H1,I1,q1⟩) I.quiet hs
def tRet (te:TE):TS:=fun D σ H=>te σ H D.rt
theorem ps_ret (he:PE X e te):PS X (.Return (some e) pos) (tRet te):=by
 intro pins s σ H D I h
 exact wpAny_Return_some (thn (he pins s σ H _ I h) fun v s1 ⟨x,H1,I1,r1,q1⟩=>⟨x,σ,H1,I1,r1,q1⟩)
def tIfS (c:TT) (t u:TS):TS:=fun D σ H=>c σ H fun b H1=>if b=true then t D σ H1 else u D σ H1
theorem ps_if {c:Expr} {a b:List Stmt} {tc:TT} (hc:PT X c tc) (ha:PSs X a t) (hb:PSs X b u):PS X (.If c a b pos) (tIfS tc t u):=by
 intro pins s σ H D I h
 refine wpAny_If (thn (hc pins s σ H _ I h) fun d s1 ⟨H1,I1,q1⟩=>?_)
 cases d with
 | true=>exact ha pins s1 σ H1 D I1 q1
 | false=>exact hb pins s1 σ H1 D I1 q1
end
abbrev TG:=V→St→Hp→(St→Hp→Prop)→Prop
abbrev TGs:=List V→St→Hp→(St→Hp→Prop)→Prop
def PG (X:Cx) (target:Expr) (t:TG):Prop :=
 ∀ (pins:List (Addr × Obj)) (s:Shared) (σ:St) (H:Hp) (v:V) (u:Value) (Q:St→Hp→Prop),Inv X pins σ H s→RelV v u→t v σ H Q →
  wpAny (model X.prog X.w) X.A (assign target X.env u) (fun _ s'=>∃ σ' H',Inv X pins σ' H' s'∧Q σ' H') X.xe s
def PGs (X:Cx) (ts:List Expr) (t:TGs):Prop :=
 ∀ (pins:List (Addr × Obj)) (s:Shared) (σ:St) (H:Hp) (vs:List V) (us:List Value) (Q:St→Hp→Prop),Inv X pins σ H s→Vals vs us→t vs σ H Q →
  wpAny (model X.prog X.w) X.A (assignInOrder ((assignEach ts X.env).map (·.2)) us) (fun _ s'=>∃ σ' H',Inv X pins σ' H' s'∧Q σ' H') X.xe s
abbrev TSet:=V→V→V→Hp→(Hp→Prop)→Prop
def PSet (X:Cx) (t:TSet):Prop :=
 ∀ (pins:List (Addr × Obj)) (s:Shared) (σ:St) (H:Hp) (o i v:V) (ov iv u:Value) (Q:Hp→Prop),Inv X pins σ H s→RelV o ov→RelV i iv→RelV v u→t o i v H Q →
  wpAny (model X.prog X.w) X.A (setItem ov iv u) (fun _ s'=>∃ H',Inv X pins σ H' s'∧Q H') X.xe s
section
variable {X:Cx} {pos:Pos}
def gName (i:Nat):TG:=fun v σ H Q=>Q (σ.set i (some v)) H
theorem pg_name {i:Nat} {x:Str} (hN:X.N.Nodup) (hi:X.N[i]? = some x) (hx:Loc X.env.scope x) (hf:X.fn x=true∨X.env.scope.names.lookup x=some .local:=by first | exact .inl rfl | exact .inr rfl | assumption):PG X (.Name x pos) (gName i):=by
 intro pins s σ H v u Q I r h
 exact wpAny_assign_Name (store_ok I hN hi hx r (fun s' I'=>⟨_,H,I',h⟩) hf)
def gNil:TGs:=fun vs σ H Q=>vs=[]∧Q σ H
def gCons (t:TG) (u:TGs):TGs:=fun vs σ H Q=>∃ v r,vs=v::r∧t v σ H fun σ' H'=>u r σ' H' Q
theorem pgs_nil:PGs X [] gNil:=by
 intro pins s σ H vs us Q I r h
 obtain ⟨e,h⟩:=h
 subst e
 cases r
 exact assignInOrder_nil ⟨σ,H,I,h⟩
theorem pgs_cons {e:Expr} {es:List Expr} {t:TG} {u:TGs} (h1:PG X e t) (h2:PGs X es u)
  (hs:(assignEach (e::es) X.env).map (·.2)=assign e X.env::(assignEach es X.env).map (·.2):=by rfl):PGs X (e::es) (gCons t u):=by
 intro pins s σ H vs us Q I r h
 obtain ⟨v,vr,e1,h⟩:=h
 subst e1
 cases r with
 | cons r rr =>
  rw [hs]
  refine assignInOrder_cons (thn (h1 pins s σ H _ _ _ I r h) fun _ s1 ⟨σ1,H1,I1,q1⟩=>?_)
  exact h2 pins s1 σ1 H1 _ _ Q I1 rr q1
def gTup (K:PySem.W.Frag) (n:Nat) (t:TGs):TG:=fun v σ H Q=>∃ a xs,v = .ref a∧SqT K H a xs∧xs.length=n∧t xs σ H Q
theorem pg_tup {es:List Expr} {k:Nat} {t:TGs} {n:Nat} (hc:X.calm=true) (h:PGs X es t)
  (hn:(assignEach es X.env).length=n:=by rfl) (hst:(assignEach es X.env).findIdx? (·.1)=none:=by rfl):PG X (.Tuple es k pos) (gTup X.K n t):=by
 intro pins s σ H v u Q I r hw
 obtain ⟨a,xs,e1,hq,hl,hw⟩:=hw
 subst e1
 cases r
 obtain ⟨its,rv,ht,hz⟩:=I.tuple hq
 refine assign_Tuple_tuple (I.ok.hd hc) ht (by simp [hn,← hl,rv.length]) hst fun h' hx=>?_
 have I1:Inv X pins σ H { s with heap:=h' }:=I.kept (t':=s.toks) fun b o e=>hx b o (Nat.ne_of_lt (Heap.lt_size e)) e
 exact h pins _ σ H xs _ Q I1 (by simpa using rv) hw
def gSub (to ti:TE) (t:TSet):TG:=fun v σ H Q=>to σ H fun o H1=>ti σ H1 fun i H2=>t o i v H2 fun H3=>Q σ H3
theorem pg_sub {o i:Expr} {to ti:TE} {t:TSet} (ho:PE X o to) (hi:PE X i ti) (hs:PSet X t)
  (ha:∀ v,assign (.Subscript o i pos) X.env v=(do
   let ov ← holding [v] (eval o X.env)
   let iv ← holding [v,ov] (eval i X.env)
   standAt pos
   holding [v,ov,iv] (setItem ov iv v)
   release [v,ov,iv] []):=by intro _;rfl):PG X (.Subscript o i pos) (gSub to ti t):=by
 intro pins s σ H v u Q I r h
 rw [ha]
 refine wpAny_bind (wpAny_holding (thn (ho pins s σ H _ I h) fun ov s1 ⟨x,H1,I1,r1,q1⟩=>?_))
 refine wpAny_bind (wpAny_holding (thn (hi pins s1 σ H1 _ I1 q1) fun iv s2 ⟨y,H2,I2,r2,q2⟩=>?_))
 refine wpAny_bind (wpAny_standAt (wpAny_bind (wpAny_holding (thn (hs pins s2 σ H2 x y v ov iv u _ I2 r1 r2 r q2) fun _ s3 ⟨H3,I3,q3⟩=>?_))))
 exact wpAny_release ⟨σ,H3,I3,q3⟩
def tAsg (te:TE) (g:TG):TS:=fun D σ H=>te σ H fun x H1=>g x σ H1 D.nx
theorem ps_asg {tg e:Expr} {te:TE} {g:TG} (he:PE X e te) (hg:PG X tg g) (hs:swapsWithSole [tg] e pos.line X.env=pure false:=by rfl) (hw:swappedStores [tg] e X.env=pure none:=by rfl)
  (h1:(assignEach [tg] X.env).map (·.2)=[assign tg X.env]:=by rfl):PS X (.Assign [tg] e pos) (tAsg te g):=by
 intro pins s σ H D I h
 refine wpAny_Assign_stores (thn (he pins s σ H _ I h) fun v s1 ⟨x,H1,I1,r1,q1⟩=>?_) hs hw
 rw [h1]
 exact thn (hg pins s1 σ H1 x v _ I1 r1 q1) fun _ s2 q=>q
theorem ps_set {i:Nat} {x:Str} {e:Expr} {te:TE} {pos':Pos} (hN:X.N.Nodup) (hi:X.N[i]? = some x) (hx:Loc X.env.scope x) (he:PE X e te) (hs:swapsWith e (some (.Name x pos')) pos.line X.env=pure false:=by rfl) (hf:X.fn x=true∨X.env.scope.names.lookup x=some .local:=by first | exact .inl rfl | exact .inr rfl | assumption) :
  PS X (.Assign [.Name x pos'] e pos) (tAsg te (gName i)):=by
 intro pins s σ H D I h
 refine wpAny_Assign_Name (thn (he pins s σ H _ I h) fun v s1 ⟨y,H1,I1,r1,q1⟩=>?_) hs
 exact store_ok I1 hN hi hx r1 (fun s2 I2=>⟨_,H1,I2,q1⟩) hf
def tPar (i j:Nat) (ta:TA):TS:=fun D σ H=>ta σ H fun vs H1=>∃ v w,vs=[v,w]∧D.nx ((σ.set i (some v)).set j (some w)) H1
theorem ps_par {i j:Nat} {x y:Str} {a b:Expr} {ta:TA} {px py pt:Pos} {kt k2 pt2} (hc:X.calm=true) (hN:X.N.Nodup) (hi:X.N[i]? = some x) (hj:X.N[j]? = some y) (hij:i≠j)
  (hx:X.env.scope.names.lookup x=some .local) (hy:X.env.scope.names.lookup y=some .local) (ha:PA X [a,b] ta)
  (hw:swappedStores [.Tuple [.Name x px,.Name y py] kt pt] (.Tuple [a,b] k2 pt2) X.env=pure (some [x,y]))
  (hs:swapsWithSole [.Tuple [.Name x px,.Name y py] kt pt] (.Tuple [a,b] k2 pt2) pos.line X.env=pure false:=by rfl) :
  PS X (.Assign [.Tuple [.Name x px,.Name y py] kt pt] (.Tuple [a,b] k2 pt2) pos) (tPar i j ta):=by
 intro pins s σ H D I h
 rw [exec_Assign_arm]
 refine wpAny_bind (wpAny_standAt ?_)
 rw [hs]
 refine wpAny_bind (wpAny_pure ?_)
 rw [if_neg (by decide)]
 refine wpAny_bind (Tuple_ (thn (ha _ pins s σ H _ I h) fun us s1 ⟨vs,H1,I1,r1,q1⟩=>?_))
 obtain ⟨v,w,e1,q1⟩:=q1
 subst e1
 obtain ⟨u1,u2,rfl,rv,rw'⟩:∃ u1 u2,us=[u1,u2]∧RelV v u1∧RelV w u2:=by
  cases r1 with
  | cons p q =>
   cases q with
   | cons p' q' =>
    cases q'
    exact ⟨_,_,rfl,p,p'⟩
 refine wpAny_newObj_type ?_ (by show 2≤sizeLine;decide)
 have I2:Inv X pins σ H1 { s1 with heap:=s1.heap.push { cls:=.type "tuple",data:=.seq [u1,u2].toArray } }:=I1.kept (t':=s1.toks) fun b o e=>Heap.get?_push_of_some _ e
 rw [hw]
 refine wpAny_bind (wpAny_pure ?_)
 show wpAny (model X.prog X.w) X.A (do rule "assign.swapped-stores";let items ← unpackItems (.ref s1.heap.objs.size) 2 none;assignInOrder [fun v=>bindName X.env y v,fun v=>bindName X.env x v] items.reverse;pure Flow.next) _ _ _
 refine wpAny_bind (wpAny_rule (wpAny_bind (unpackItems_tuple (items:=#[u1,u2]) (I.ok.hd hc) (IsTup.new s1.heap _) fun h' hx'=>?_)))
 have I3:=I2.kept (h':=h') (t':=s1.toks) fun b o e=>hx' b o (Nat.ne_of_lt (Heap.lt_size e)) e
 show wpAny _ _ (assignInOrder [fun v=>bindName X.env y v,fun v=>bindName X.env x v] [u2,u1] >>= fun _=>pure Flow.next) _ _ _
 refine wpAny_bind (assignInOrder_cons (wpAny_bindName (store_ok I3 hN hj (.inl hy) rw' (fun s2 I4=>?_) (.inr hy))))
 refine assignInOrder_cons (wpAny_bindName (store_ok I4 hN hi (.inl hx) rv (fun s3 I5=>assignInOrder_nil (wpAny_pure ?_)) (.inr hx)))
 rw [List.set_comm _ _ (Ne.symm hij)] at I5
 exact ⟨_,H1,I5,q1⟩
end
section
variable {X:Cx} {pos:Pos}
def tWhile (c:TT) (tb:TS):TS:=fun D σ H=>∃ W:Nat→St→Hp→Prop,(∃ m,W m σ H)∧∀ m σ H,W m σ H →
 c σ H fun b H1=>if b=true then ∃ N:St→Hp→Prop,(∀ σ' H',N σ' H'→∃ m',m'<m∧W m' σ' H')∧tb { D with nx:=N,ct:=N,bk:=D.nx } σ H1 else D.nx σ H1
theorem ps_while {c:Expr} {body:List Stmt} {tc:TT} {tb:TS} (hp:PassesOwn (model X.prog X.w) X.A X.env X.xe) (hc:PT X c tc) (hb:PSs X body tb):PS X (.While c body [] pos) (tWhile tc tb):=by
 intro pins s σ H D I h
 obtain ⟨W,⟨m0,w0⟩,turn⟩:=h
 refine wpAny_While (codeAny_whileLoop (fun n s'=>∃ σ' H',Inv X pins σ' H' s'∧W n σ' H') ?_ m0 ⟨σ,H,I,w0⟩)
 rintro n s1 ⟨σ1,H1,I1,w1⟩
 refine wpAny_passesOwn hp (thn (hc pins s1 σ1 H1 _ I1 (turn n σ1 H1 w1)) fun b s2 ⟨H2,I2,q2⟩=>?_)
 cases b with
 | true =>
  obtain ⟨N,hN,q2⟩:=q2
  rw [if_pos rfl]
  refine wpAny_passesOwn hp (thn (hb pins s2 σ1 H2 _ I2 q2) fun f s3 q3=>?_)
  cases f with
  | next =>
   obtain ⟨σ3,H3,I3,n3⟩:=q3
   obtain ⟨m',hm,w3⟩:=hN σ3 H3 n3
   exact ⟨m',hm,σ3,H3,I3,w3⟩
  | cont =>
   obtain ⟨σ3,H3,I3,n3⟩:=q3
   obtain ⟨m',hm,w3⟩:=hN σ3 H3 n3
   exact ⟨m',hm,σ3,H3,I3,w3⟩
  | brk=>exact q3
  | ret v=>exact q3
 | false =>
  rw [if_neg Bool.false_ne_true]
  exact wpAny_execs_nil ⟨σ1,H2,I2,q2⟩
end
structure It where
 go:Nat→Hp→Prop
 yld:Nat→Hp→V→Hp→Prop
 stop:Nat→Hp→Prop
def FpOk (X:Cx) (pins:List (Addr × Obj)) (H:Hp) (b:Addr):Prop :=
 H b=none∧b≠X.env.locals∧b ∉ X.fs∧(b∈X.ex∨X.s₀.heap.objs.size≤b)∧(∀ x c,X.env.cells.lookup x=some c→c≠b)∧∀ p∈X.pn++pins,p.1≠b
theorem Inv.fpOk {X:Cx} {pins:List (Addr × Obj)} {σ:St} {H H':Hp} {s:Shared} {b:Addr} (I:Inv X pins σ H s) (hb:s.heap.objs.size≤b) (hn:H' b=none):FpOk X pins H' b:=by
 refine ⟨hn,Nat.ne_of_gt (Nat.lt_of_lt_of_le I.lt hb),I.nofs hb,.inr (Nat.le_trans I.sz hb),fun x c e z=>?_,fun p hp z=>?_⟩
 ·obtain ⟨v,q⟩:=I.cell x c e
  exact absurd (Nat.lt_of_lt_of_le q.lt (by rw [z];exact hb)) (Nat.lt_irrefl _)
 ·exact absurd (Nat.lt_of_lt_of_le (Heap.lt_size (I.pin p hp).1) (by rw [z];exact hb)) (Nat.lt_irrefl _)
structure Turn (P:Program) (w:World) (K:PySem.W.Frag) (tg:Expr) (J:It) (fp:List Addr) (it:Addr) (tn:Nat→Heap→Prop):Prop where
 mem:it∈fp
 obj:∀ i h,tn i h→∀ b∈fp,∃ o,h.get? b=some o∧∀ v,o.data≠.cell v
 keep:∀ i h h',tn i h→(∀ b∈fp,∀ o,h.get? b=some o→h'.get? b=some o)→tn i h'
 item:∀ (X:Cx),X.prog=P→X.w=w→X.K=K→X.calm=true→∀ (i:Nat) (pins:List (Addr × Obj)) (s:Shared) (σ:St) (H:Hp) (E:Value→Shared→Prop),Inv X pins σ H s→(∀ b∈fp,FpOk X pins H b)→tn i s.heap→J.go i H →
  wpAny (model P w) X.A (pyNext (.ref it)) (fun r s1=>∃ u,r=some u ∧
   wpAny (model P w) X.A (letOwnedTupleGo tg (.ref it) u) (fun _ s2=>∃ x H',Inv X pins σ H' s2∧RelV x u∧J.yld i H x H'∧tn (i + 1) s2.heap∧∀ b∈fp,H' b=none) E s1) E s
 done:∀ (X:Cx),X.prog=P→X.w=w→X.K=K→X.calm=true→∀ (i:Nat) (pins:List (Addr × Obj)) (s:Shared) (σ:St) (H:Hp) (E:Value→Shared→Prop),Inv X pins σ H s→(∀ b∈fp,FpOk X pins H b)→tn i s.heap→J.stop i H →
  wpAny (model P w) X.A (pyNext (.ref it)) (fun r s1=>r=none∧Inv X pins σ H s1) E s
 self:∀ (A:Around) (i:Nat) (s:Shared) (Q:Value→Shared→Prop) (E:Value→Shared→Prop),tn i s.heap→Q (.ref it) s→wpAny (model P w) A (pyIter (.ref it)) Q E s
abbrev TI:=St→Hp→(It→Hp→Prop)→Prop
def PIE (X:Cx) (pins:List (Addr × Obj)) (σ:St) (tg:Expr) (R:It→Hp→Prop) (itv:Value) (s2:Shared):Prop :=
 ∃ (it:Addr) (fp:List Addr) (tn:Nat→Heap→Prop) (J:It) (H':Hp),itv = .ref it∧Inv X pins σ H' s2∧Turn X.prog X.w X.K tg J fp it tn∧tn 0 s2.heap∧(∀ b∈fp,FpOk X pins H' b)∧R J H'
def PI (X:Cx) (tg iter:Expr) (wi:TI):Prop :=
 ∀ (pins:List (Addr × Obj)) (s:Shared) (σ:St) (H:Hp) (R:It→Hp→Prop),Inv X pins σ H s→wi σ H R →
  wpAny (model X.prog X.w) X.A (eval iter X.env) (fun v s1=>wpAny (model X.prog X.w) X.A (pyIter v) (PIE X pins σ tg R) X.xe s1) X.xe s
theorem go_of {M : Model} {A : Around} {E : Value → Shared → Prop} {s : Shared} {tg : Expr} {it : Addr} {u : Value} {o : Obj} {n : String} {vs : Array Value} {Q : Unit → Shared → Prop} (ho : s.heap.get? it = some o) (hc : o.cls = .type n) (hd : o.data = .fields vs)
    (hn : ["enumerate", "zip", "dict_itemiterator", "dict_reverseitemiterator", "odict_iterator", "itertools.zip_longest", "itertools.pairwise"].contains n = false) (hQ : Q () s) : wpAny M A (letOwnedTupleGo tg (.ref it) u) Q E s := by
  unfold letOwnedTupleGo
  cases tg <;> first
    | exact wpAny_pure hQ
    | (cases u <;> first
        | exact wpAny_pure hQ
        | (refine wpAny_bind (wpAny_load ho ?_)
           rw [hc, hd]
           show wpAny M A (if (["enumerate", "zip", "dict_itemiterator", "dict_reverseitemiterator", "odict_iterator", "itertools.zip_longest", "itertools.pairwise"].contains n && vs[0]? == some (rawInt _)) = true then _ else _) Q E s
           rw [if_neg (by intro h; rw [hn, Bool.false_and] at h; cases h)]
           exact wpAny_pure hQ))
def Itl (K:PySem.W.Frag) (a:Addr):It :=
 ⟨fun i H=>∃ xs x,SqL K H a xs∧xs[i]? = some x,fun i H x H'=>H'=H∧∀ xs,SqL K H a xs→xs[i]? = some x,fun i H=>∃ xs,SqL K H a xs∧xs.length≤i⟩
def Itt (K:PySem.W.Frag) (a:Addr):It :=
 ⟨fun i H=>∃ xs x,SqT K H a xs∧xs[i]? = some x,fun i H x H'=>H'=H∧∀ xs,SqT K H a xs→xs[i]? = some x,fun i H=>∃ xs,SqT K H a xs∧xs.length≤i⟩
def Itr (lo:Int) (n:Nat):It:=⟨fun i _=>i<n,fun i H x H'=>H'=H∧x = .int (lo + i),fun i _=>n≤i⟩
theorem turn_list {P:Program} {w:World} {K:PySem.W.Frag} {tg:Expr} (a it:Addr):Turn P w K tg (Itl K a) [it] it (fun i h=>h.IsListIter it a i) where
 mem:=by simp
 obj:=fun i h st b hb=>by
  have e:b=it:=by simpa using hb
  subst e
  obtain ⟨o,e,c,d⟩:=st
  exact ⟨o,e,fun v z=>by rw [d] at z;cases z⟩
 keep:=fun i h h' st k=>st.at fun o e=>k it (by simp) o e
 item:=by
  intro X hP hw hK hc i pins s σ H E I hf st hg
  subst hP hw hK
  obtain ⟨xs,x,hq,hx⟩:=hg
  obtain ⟨its,rv,p,hz⟩:=I.list hq
  obtain ⟨u,hu,ru⟩:=rv.get hx
  obtain ⟨f0,f1,f2,f3,f4,f5⟩:=hf it (by simp)
  refine wpAny_pyNext_list_item st p.isList (x:=u) (by simpa using hu) fun h' st' sb=>?_
  have I1:Inv X pins σ H { s with heap:=h' }:=I.turned (t':=s.toks) (fun b o hb e=>(sb.2 b hb).trans e) f0 f1 f3 f4 f5
  obtain ⟨o,e,c,d⟩:=id st'
  exact ⟨u,rfl,go_of (s:={ s with heap:=h' }) e c d (by decide) ⟨x,H,I1,ru,⟨rfl,fun ys hy=>by rw [I.list_inj hy hq];exact hx⟩,st',fun b hb=>(hf b hb).1⟩⟩
 done:=by
  intro X hP hw hK hc i pins s σ H E I hf st hg
  subst hP hw hK
  obtain ⟨xs,hq,hx⟩:=hg
  obtain ⟨its,rv,p,hz⟩:=I.list hq
  obtain ⟨f0,f1,f2,f3,f4,f5⟩:=hf it (by simp)
  have hl:=rv.length
  exact wpAny_pyNext_list_end (I.ok.hd hc) st p.isList (by simp;omega) fun h' eb=>⟨rfl,I.turned (t':=s.toks) (fun b o hb e=>eb b o hb e) f0 f1 f3 f4 f5⟩
 self:=fun _ _ _ _ _ st h=>wpAny_pyIter_listiter st h
theorem turn_tuple {P:Program} {w:World} {K:PySem.W.Frag} {tg:Expr} (a it:Addr):Turn P w K tg (Itt K a) [it] it (fun i h=>h.IsTupleIter it a i) where
 mem:=by simp
 obj:=fun i h st b hb=>by
  have e:b=it:=by simpa using hb
  subst e
  obtain ⟨o,e,c,d⟩:=st
  exact ⟨o,e,fun v z=>by rw [d] at z;cases z⟩
 keep:=fun i h h' st k=>st.at fun o e=>k it (by simp) o e
 item:=by
  intro X hP hw hK hc i pins s σ H E I hf st hg
  subst hP hw hK
  obtain ⟨xs,x,hq,hx⟩:=hg
  obtain ⟨its,rv,p,hz⟩:=I.tuple hq
  obtain ⟨u,hu,ru⟩:=rv.get hx
  obtain ⟨f0,f1,f2,f3,f4,f5⟩:=hf it (by simp)
  refine wpAny_pyNext_tuple_item st (show s.heap.IsTuple a its.toArray from p) (x:=u) (by simpa using hu) fun h' st' sb=>?_
  have I1:Inv X pins σ H { s with heap:=h' }:=I.turned (t':=s.toks) (fun b o hb e=>(sb.2 b hb).trans e) f0 f1 f3 f4 f5
  obtain ⟨o,e,c,d⟩:=id st'
  exact ⟨u,rfl,go_of (s:={ s with heap:=h' }) e c d (by decide) ⟨x,H,I1,ru,⟨rfl,fun ys hy=>by rw [I.tuple_inj hy hq];exact hx⟩,st',fun b hb=>(hf b hb).1⟩⟩
 done:=by
  intro X hP hw hK hc i pins s σ H E I hf st hg
  subst hP hw hK
  obtain ⟨xs,hq,hx⟩:=hg
  obtain ⟨its,rv,p,hz⟩:=I.tuple hq
  obtain ⟨f0,f1,f2,f3,f4,f5⟩:=hf it (by simp)
  have hl:=rv.length
  exact wpAny_pyNext_tuple_end (I.ok.hd hc) st (show s.heap.IsTuple a its.toArray from p) (by simp;omega) fun h' eb=>⟨rfl,I.turned (t':=s.toks) (fun b o hb e=>eb b o hb e) f0 f1 f3 f4 f5⟩
 self:=fun _ _ _ _ _ st h=>wpAny_pyIter_tupleiter st h
theorem turn_range {P:Program} {w:World} {K:PySem.W.Frag} {tg:Expr} (it:Addr) (lo:Int) (n:Nat):Turn P w K tg (Itr lo n) [it] it (fun i h=>IsRangeIter h it (lo + (i:Nat) * 1) ((n:Int) - (i:Nat)) 1) where
 mem:=by simp
 obj:=fun i h st b hb=>by
  have e:b=it:=by simpa using hb
  subst e
  exact ⟨_,st,fun v z=>by
   have z':Data.fields _=Data.cell v:=z
   cases z'⟩
 keep:=fun i h h' st k=>k it (by simp) _ st
 item:=by
  intro X hP hw hK hc i pins s σ H E I hf st hg
  subst hP hw hK
  obtain ⟨f0,f1,f2,f3,f4,f5⟩:=hf it (by simp)
  have W:=Walks.range (prog:=X.prog) (w:=X.w) (I.ok.hd hc) it lo 1 n
  refine W.item i s _ _ hg st fun v h' tk hv st' kk=>?_
  obtain ⟨t,rfl⟩:=hv
  have I1:Inv X pins σ H { s with heap:=h',toks:=tk }:=I.turned (fun b o hb e=>kk b o (by simpa using hb) e) f0 f1 f3 f4 f5
  refine ⟨_,rfl,go_of (s:={ s with heap:=h',toks:=tk }) (n:="range_iterator") st' rfl rfl (by decide) ⟨.int (lo + i),H,I1,⟨t,?_⟩,⟨rfl,rfl⟩,st',fun b hb=>(hf b hb).1⟩⟩
  rw [Int.mul_one]
 done:=by
  intro X hP hw hK hc i pins s σ H E I hf st hg
  subst hP hw hK
  obtain ⟨f0,f1,f2,f3,f4,f5⟩:=hf it (by simp)
  exact wpAny_pyNext_range_end (I.ok.hd hc) st (by have:n≤i:=hg;omega) fun h' eb=>⟨rfl,I.turned (t':=s.toks) (fun b o hb e=>eb b o hb e) f0 f1 f3 f4 f5⟩
 self:=fun _ _ _ _ _ st h=>wpAny_pyIter_rangeiter st h
end L2
namespace L2
open PySem PySem.Spec PyProof.Rows
section
variable {X:Cx} {tg:Expr}
def iList (K:PySem.W.Frag) (tl:TE):TI:=fun σ H R=>tl σ H fun x H1=>∃ a,x = .ref a∧(∃ xs,SqL K H1 a xs)∧R (Itl K a) H1
def iTup (K:PySem.W.Frag) (tl:TE):TI:=fun σ H R=>tl σ H fun x H1=>∃ a,x = .ref a∧(∃ xs,SqT K H1 a xs)∧R (Itt K a) H1
theorem pi_list {l:Expr} {tl:TE} (hl:PE X l tl):PI X tg l (iList X.K tl):=by
 intro pins s σ H R I h
 refine thn (hl pins s σ H _ I h) fun v s1 ⟨x,H1,I1,r1,q1⟩=>?_
 obtain ⟨a,e,⟨xs,hq⟩,q⟩:=q1
 subst e
 cases r1
 obtain ⟨its,rv,p,hz⟩:=I1.list hq
 refine wpAny_pyIter_list p.isList ?_
 refine ⟨s1.heap.objs.size,[s1.heap.objs.size],_,_,H1,rfl,I1.kept (t':=s1.toks) fun b o e=>Heap.get?_push_of_some _ e,turn_list a _,⟨_,Heap.get?_push_size _ rfl,rfl,rfl⟩,fun b hb=>?_,q⟩
 have e:b=s1.heap.objs.size:=by simpa using hb
 subst e
 exact I1.fpOk (Nat.le_refl _) (I1.hok.fresh (Nat.le_refl _))
theorem pi_tup {l:Expr} {tl:TE} (hl:PE X l tl):PI X tg l (iTup X.K tl):=by
 intro pins s σ H R I h
 refine thn (hl pins s σ H _ I h) fun v s1 ⟨x,H1,I1,r1,q1⟩=>?_
 obtain ⟨a,e,⟨xs,hq⟩,q⟩:=q1
 subst e
 cases r1
 obtain ⟨its,rv,p,hz⟩:=I1.tuple hq
 refine wpAny_pyIter_tuple (show s1.heap.IsTuple a its.toArray from p) ?_
 refine ⟨s1.heap.objs.size,[s1.heap.objs.size],_,_,H1,rfl,I1.kept (t':=s1.toks) fun b o e=>Heap.get?_push_of_some _ e,turn_tuple a _,⟨_,Heap.get?_push_size _ rfl,rfl,rfl⟩,fun b hb=>?_,q⟩
 have e:b=s1.heap.objs.size:=by simpa using hb
 subst e
 exact I1.fpOk (Nat.le_refl _) (I1.hok.fresh (Nat.le_refl _))
theorem range_it {pins:List (Addr × Obj)} {σ:St} {H:Hp} {s:Shared} {R:It→Hp→Prop} {E:Value→Shared→Prop} {lo hi:Int} {t u v:Tok} {tk:Nat} (I:Inv X pins σ H s) (h1:-(2 ^ 62)≤lo) (h2:lo<2 ^ 62) (h3:-(2 ^ 62)≤hi) (h4:hi<2 ^ 62)
  (q:R (Itr lo (hi - lo).toNat) H):wpAny (model X.prog X.w) X.A (pyIter (.ref s.heap.objs.size)) (PIE X pins σ tg R) E { s with heap:=s.heap.push { cls:=.type "range",data:=.fields #[.int lo t,.int hi u,.int 1 v] },toks:=tk }:=by
 refine wpAny_pyIter_range (IsRange.new ..) (small_one h1 h2 h3 h4) ?_
 have I1:Inv X pins σ H { s with heap:=s.heap.push { cls:=.type "range",data:=.fields #[.int lo t,.int hi u,.int 1 v] },toks:=tk }:=I.kept fun b o e=>Heap.get?_push_of_some _ e
 refine ⟨(s.heap.push { cls:=.type "range",data:=.fields #[.int lo t,.int hi u,.int 1 v] }).objs.size,[(s.heap.push { cls:=.type "range",data:=.fields #[.int lo t,.int hi u,.int 1 v] }).objs.size],_,_,H,rfl,
  I1.kept (t':=tk) fun b o e=>Heap.get?_push_of_some _ e,turn_range _ lo (hi - lo).toNat,?_,fun b hb=>?_,q⟩
 ·have e1:lo + ((0:Nat):Int) * 1=lo:=by simp
  have e2:(((hi - lo).toNat:Nat):Int) - ((0:Nat):Int)=Builtin.Range.rangeSize lo hi 1:=by rw [rangeSize_one];split <;> omega
  show IsRangeIter _ _ (lo + ((0:Nat):Int) * 1) ((((hi - lo).toNat:Nat):Int) - ((0:Nat):Int)) 1
  rw [e1,e2]
  exact Heap.get?_push_size _ rfl
 ·have e:b=(s.heap.push { cls:=.type "range",data:=.fields #[.int lo t,.int hi u,.int 1 v] }).objs.size:=by simpa using hb
  subst e
  exact I1.fpOk (Nat.le_refl _) (I1.hok.fresh (Nat.le_refl _))
def iRng1 (ta:TA):TI:=fun σ H R=>ta σ H fun vs H1=>∃ j:Int,vs=[.int j]∧-(2 ^ 62)≤j∧j<2 ^ 62∧R (Itr 0 j.toNat) H1
theorem pi_range1 {a:Expr} {ta:TA} {p pos:Pos} (hg:Gl X "range") (hm:X.mg "range" = none) (ha:PA X [a] ta) (hs:starEach [a] X.env=[(false,eval a X.env)]:=by rfl):PI X tg (.Call (.Name "range" p) [a] [] pos) (iRng1 ta):=by
 intro pins s σ H R I h
 refine Call_ (ld_blt I hg hm boot_range (PyProof.Rows.callWith_type1 (thn (ha pos pins s σ H _ I h) fun us s1 ⟨vs,H1,I1,r1,q1⟩=>?_) hs rfl))
 obtain ⟨j,e,q1,q2,q⟩:=q1
 subst e
 cases r1 with
 | cons r rr =>
  cases rr
  obtain ⟨t,rfl⟩:=r
  exact call_range_1 (range_it I1 (by omega) (by omega) q1 q2 (by simpa using q))
def tFor (wi:TI) (g:TG) (tb:TS):TS:=fun D σ H=>wi σ H fun J H1=>∃ W:Nat→Nat→St→Hp→Prop,(∃ m,W 0 m σ H1)∧∀ i m σ H,W i m σ H →
 (J.stop i H∧D.nx σ H)∨(J.go i H∧∃ N:St→Hp→Prop,(∀ σ' H',N σ' H'→∃ m',m'<m∧W (i + 1) m' σ' H')∧∀ x H',J.yld i H x H'→g x σ H' fun σ2 H2=>tb { D with nx:=N,ct:=N,bk:=D.nx } σ2 H2)
def pinsAt (fp:List Addr) (h:Heap):List (Addr × Obj):=fp.filterMap fun b=>(h.get? b).map fun o=>(b,o)
theorem mem_pinsAt {fp:List Addr} {h:Heap} {b:Addr} {o:Obj} (hb:b∈fp) (e:h.get? b=some o):(b,o)∈pinsAt fp h:=List.mem_filterMap.mpr ⟨b,hb,by rw [e];rfl⟩
theorem of_pinsAt {fp:List Addr} {h:Heap} {p:Addr × Obj} (hp:p∈pinsAt fp h):p.1∈fp∧h.get? p.1=some p.2:=by
 obtain ⟨b,hb,e⟩:=List.mem_filterMap.mp hp
 cases q:h.get? b with
 | none=>rw [q] at e;cases e
 | some o =>
  rw [q] at e
  have e':(b,o)=p:=Option.some.inj e
  subst e'
  exact ⟨hb,q⟩
theorem Inv.pinned {pins:List (Addr × Obj)} {σ:St} {H:Hp} {s:Shared} {fp:List Addr} (I:Inv X pins σ H s) (hf:∀ b∈fp,FpOk X pins H b) (ho:∀ b∈fp,∃ o,s.heap.get? b=some o∧∀ v,o.data≠.cell v):Inv X (pins++pinsAt fp s.heap) σ H s :=
 I.pins_of fun p hp=>(List.mem_append.mp hp).elim (fun z=>I.pin p (List.mem_append_right _ z)) fun z=>by
  obtain ⟨hb,e⟩:=of_pinsAt z
  obtain ⟨f0,f1,f2,_⟩:=hf p.1 hb
  obtain ⟨o,e',d⟩:=ho p.1 hb
  rw [e] at e';cases e'
  exact ⟨e,f0,f1,f2,d⟩
theorem Inv.unpinned {pins pl:List (Addr × Obj)} {σ:St} {H:Hp} {s:Shared} (I:Inv X (pins++pl) σ H s):Inv X pins σ H s:=I.pins_of fun p hp=>I.pin p (List.mem_append_right _ (List.mem_append_left _ hp))
theorem ps_for {iter:Expr} {body:List Stmt} {wi:TI} {g:TG} {tb:TS} {pos:Pos} (hp:PassesOwn (model X.prog X.w) X.A X.env X.xe) (hc:X.calm=true) (hi:PI X tg iter wi) (hg:PG X tg g) (hb:PSs X body tb)
  (hs:∀ x,foldedSetIterable iter X.env x=pure x:=by intro _;rfl):PS X (.For tg iter body [] pos) (tFor wi g tb):=by
 intro pins s σ H D I h
 refine wpAny_For (thn (hi pins s σ H _ I h) fun v s1 h1=>thn h1 fun itv s2 h2=>?_) hs
 obtain ⟨it,fp,tn,J,H2,e,I2,T,st2,f2,W,⟨m0,w0⟩,turn⟩:=h2
 subst e
 have stat:∀ {H':Hp},(∀ b∈fp,H' b=none)→∀ b∈fp,FpOk X pins H' b:=fun hn b hb=>⟨hn b hb,(f2 b hb).2⟩
 refine codeAny_forLoop_any (fun n s'=>∃ i σ' H',Inv X pins σ' H' s'∧tn i s'.heap∧(∀ b∈fp,H' b=none)∧W i n σ' H') ?_ m0 ⟨0,σ,H2,I2,st2,fun b hb=>(f2 b hb).1,w0⟩
 rintro n s3 ⟨i,σ3,H3,I3,st3,fr3,w3⟩
 rcases turn i n σ3 H3 w3 with ⟨stop,qn⟩ | ⟨go,N,hN,step⟩
 ·refine wpAny_passesOwn hp (thn (T.done X rfl rfl rfl hc i pins s3 σ3 H3 X.xe I3 (stat fr3) st3 stop) fun r s4 ⟨hr,I4⟩=>?_)
  subst hr
  exact wpAny_execs_nil ⟨σ3,H3,I4,qn⟩
 ·refine wpAny_passesOwn hp (thn (T.item X rfl rfl rfl hc i pins s3 σ3 H3 X.xe I3 (stat fr3) st3 go) fun r s4 ⟨u,hr,h4⟩=>?_)
  subst hr
  refine wpAny_passesOwn hp (thn h4 fun _ s5 ⟨x,H5,I5,r5,y5,st5,fr5⟩=>?_)
  have I5':=I5.pinned (stat fr5) (T.obj _ _ st5)
  refine wpAny_passesOwn hp (thn (hg _ s5 σ3 H5 x u _ I5' r5 (step x H5 y5)) fun _ s6 ⟨σ6,H6,I6,q6⟩=>?_)
  refine wpAny_passesOwn hp (thn (hb _ s6 σ6 H6 _ I6 q6) fun f s7 q7=>?_)
  have again:∀ {σ7:St} {H7:Hp},Inv X (pins++pinsAt fp s5.heap) σ7 H7 s7→N σ7 H7→∃ m,m<n∧∃ i σ' H',Inv X pins σ' H' s7∧tn i s7.heap∧(∀ b∈fp,H' b=none)∧W i m σ' H':=fun {σ7 H7} I7 n7=>by
   obtain ⟨m',hm,w7⟩:=hN σ7 H7 n7
   refine ⟨m',hm,i + 1,σ7,H7,I7.unpinned,T.keep _ _ _ st5 fun b hb o e=>(I7.pin (b,o) (List.mem_append_right _ (List.mem_append_right _ (mem_pinsAt hb e)))).1,fun b hb=>?_,w7⟩
   obtain ⟨o,e,d⟩:=T.obj _ _ st5 b hb
   exact (I7.pin (b,o) (List.mem_append_right _ (List.mem_append_right _ (mem_pinsAt hb e)))).2.1
  cases f with
  | next=>obtain ⟨σ7,H7,I7,n7⟩:=q7;exact again I7 n7
  | cont=>obtain ⟨σ7,H7,I7,n7⟩:=q7;exact again I7 n7
  | brk=>obtain ⟨σ7,H7,I7,q7⟩:=q7;exact ⟨σ7,H7,I7.unpinned,q7⟩
  | ret v=>obtain ⟨x7,σ7,H7,I7,r7,q7⟩:=q7;exact ⟨x7,σ7,H7,I7.unpinned,r7,q7⟩
end
theorem for_list {K:PySem.W.Frag} {a:Addr} {xs:List V} {g:TG} {tb:TS} {D:Ends} {σ:St} {H:Hp} (Pv:Nat→St→Hp→Prop) (h0:Pv 0 σ H) (hl:∀ i σ H,i≤xs.length→Pv i σ H→SqL K H a xs)
  (hs:∀ i x σ H,xs[i]? = some x→Pv i σ H→g x σ H fun σ2 H2=>tb { D with nx:=Pv (i + 1),ct:=Pv (i + 1),bk:=D.nx } σ2 H2) (hd:∀ σ H,Pv xs.length σ H→D.nx σ H) :
  ∃ W:Nat→Nat→St→Hp→Prop,(∃ m,W 0 m σ H)∧∀ i m σ H,W i m σ H →
   ((Itl K a).stop i H∧D.nx σ H)∨((Itl K a).go i H∧∃ N:St→Hp→Prop,(∀ σ' H',N σ' H'→∃ m',m'<m∧W (i + 1) m' σ' H')∧∀ x H',(Itl K a).yld i H x H'→g x σ H' fun σ2 H2=>tb { D with nx:=N,ct:=N,bk:=D.nx } σ2 H2):=by
 refine ⟨fun i m σ H=>m=xs.length - i∧i≤xs.length∧Pv i σ H,⟨xs.length,by simp,Nat.zero_le _,h0⟩,?_⟩
 rintro i m σ H ⟨rfl,hi,p⟩
 have q:=hl i σ H hi p
 by_cases hlt:i<xs.length
 ·refine .inr ⟨⟨xs,xs[i],q,by simp [hlt]⟩,Pv (i + 1),fun σ' H' p'=>⟨xs.length - (i + 1),by omega,rfl,hlt,p'⟩,fun x H' y=>?_⟩
  obtain ⟨e,y⟩:=y
  subst e
  exact hs i x σ _ (y xs q) p
 ·have e:i=xs.length:=by omega
  subst e
  exact .inl ⟨⟨xs,q,Nat.le_refl _⟩,hd σ H p⟩
theorem for_tup {K:PySem.W.Frag} {a:Addr} {xs:List V} {g:TG} {tb:TS} {D:Ends} {σ:St} {H:Hp} (Pv:Nat→St→Hp→Prop) (h0:Pv 0 σ H) (hl:∀ i σ H,i≤xs.length→Pv i σ H→SqT K H a xs)
  (hs:∀ i x σ H,xs[i]? = some x→Pv i σ H→g x σ H fun σ2 H2=>tb { D with nx:=Pv (i + 1),ct:=Pv (i + 1),bk:=D.nx } σ2 H2) (hd:∀ σ H,Pv xs.length σ H→D.nx σ H) :
  ∃ W:Nat→Nat→St→Hp→Prop,(∃ m,W 0 m σ H)∧∀ i m σ H,W i m σ H →
   ((Itt K a).stop i H∧D.nx σ H)∨((Itt K a).go i H∧∃ N:St→Hp→Prop,(∀ σ' H',N σ' H'→∃ m',m'<m∧W (i + 1) m' σ' H')∧∀ x H',(Itt K a).yld i H x H'→g x σ H' fun σ2 H2=>tb { D with nx:=N,ct:=N,bk:=D.nx } σ2 H2):=by
 refine ⟨fun i m σ H=>m=xs.length - i∧i≤xs.length∧Pv i σ H,⟨xs.length,by simp,Nat.zero_le _,h0⟩,?_⟩
 rintro i m σ H ⟨rfl,hi,p⟩
 have q:=hl i σ H hi p
 by_cases hlt:i<xs.length
 ·refine .inr ⟨⟨xs,xs[i],q,by simp [hlt]⟩,Pv (i + 1),fun σ' H' p'=>⟨xs.length - (i + 1),by omega,rfl,hlt,p'⟩,fun x H' y=>?_⟩
  obtain ⟨e,y⟩:=y
  subst e
  exact hs i x σ _ (y xs q) p
 ·have e:i=xs.length:=by omega
  subst e
  exact .inl ⟨⟨xs,q,Nat.le_refl _⟩,hd σ H p⟩
theorem for_range {lo:Int} {n:Nat} {g:TG} {tb:TS} {D:Ends} {σ:St} {H:Hp} (Pv:Nat→St→Hp→Prop) (h0:Pv 0 σ H)
  (hs:∀ i σ H,i<n→Pv i σ H→g (.int (lo + i)) σ H fun σ2 H2=>tb { D with nx:=Pv (i + 1),ct:=Pv (i + 1),bk:=D.nx } σ2 H2) (hd:∀ σ H,Pv n σ H→D.nx σ H) :
  ∃ W:Nat→Nat→St→Hp→Prop,(∃ m,W 0 m σ H)∧∀ i m σ H,W i m σ H →
   ((Itr lo n).stop i H∧D.nx σ H)∨((Itr lo n).go i H∧∃ N:St→Hp→Prop,(∀ σ' H',N σ' H'→∃ m',m'<m∧W (i + 1) m' σ' H')∧∀ x H',(Itr lo n).yld i H x H'→g x σ H' fun σ2 H2=>tb { D with nx:=N,ct:=N,bk:=D.nx } σ2 H2):=by
 refine ⟨fun i m σ H=>m=n - i∧i≤n∧Pv i σ H,⟨n,by simp,Nat.zero_le _,h0⟩,?_⟩
 rintro i m σ H ⟨rfl,hi,p⟩
 by_cases hlt:i<n
 ·refine .inr ⟨hlt,Pv (i + 1),fun σ' H' p'=>⟨n - (i + 1),by omega,rfl,hlt,p'⟩,fun x H' y=>?_⟩
  obtain ⟨e,y⟩:=y
  subst e y
  exact hs i σ _ hlt p
 ·have e:i=n:=by omega
  subst e
  exact .inl ⟨Nat.le_refl _,hd σ H p⟩
end L2
namespace L2
open PySem PySem.Spec PyProof.Rows
abbrev R2:=V→V→Hp→VK→Prop
def OpR (X:Cx) (f:Value→Value→Sem Value) (r:R2):Prop :=
 ∀ (pins:List (Addr × Obj)) (s:Shared) (σ:St) (H:Hp) (x y:V) (v u:Value) (Q:VK),Inv X pins σ H s→RelV x v→RelV y u→r x y H Q →
  wpAny (model X.prog X.w) X.A (f v u) (EP X pins σ Q) X.xe s
def UnR (X:Cx) (f:Value→Sem Value) (r:V→Hp→VK→Prop):Prop :=
 ∀ (pins:List (Addr × Obj)) (s:Shared) (σ:St) (H:Hp) (x:V) (v:Value) (Q:VK),Inv X pins σ H s→RelV x v→r x H Q →
  wpAny (model X.prog X.w) X.A (f v) (EP X pins σ Q) X.xe s
def CallR (X:Cx) (f:Value) (r:List V→Hp→VK→Prop):Prop :=
 ∀ (pins:List (Addr × Obj)) (s:Shared) (σ:St) (H:Hp) (xs:List V) (us:List Value) (Q:VK),Inv X pins σ H s→Vals xs us→r xs H Q →
  wpAny (model X.prog X.w) X.A (call f us) (EP X pins σ Q) X.xe s
def tOp (r:R2) (ta tb:TE):TE:=fun σ H Q=>ta σ H fun x H1=>tb σ H1 fun y H2=>r x y H2 Q
def tUn (r:V→Hp→VK→Prop) (ta:TE):TE:=fun σ H Q=>ta σ H fun x H1=>r x H1 Q
def rI (C:Int→Int→Prop) (g:Int→Int→V):R2:=fun x y H Q=>∃ i j,x = .int i∧y = .int j∧C i j∧Q (g i j) H
def rI0 (g:Int→Int→V):R2:=fun x y H Q=>∃ i j,x = .int i∧y = .int j∧Q (g i j) H
def rU (g:Int→V):V→Hp→VK→Prop:=fun x H Q=>∃ i,x = .int i∧Q (g i) H
section
variable {X:Cx} {a b c:Expr} {ta tb tc:TE} {pos:Pos}
theorem binT (ha:PE X a ta) (hb:PE X b tb) {pins:List (Addr × Obj)} {s:Shared} {σ:St} {H:Hp} {R:V→V→Hp→Prop} (I:Inv X pins σ H s)
  (h:ta σ H fun x H1=>tb σ H1 fun y H2=>R x y H2) {Q:Value→Shared→Prop} {f:Value→Value→Sem Value}
  (hf:∀ v u s2 x y H2,Inv X pins σ H2 s2→RelV x v→RelV y u→R x y H2→wpAny (model X.prog X.w) X.A (f v u) Q X.xe s2) :
  wpAny (model X.prog X.w) X.A (eval a X.env) (fun v s₁=>wpAny (model X.prog X.w) X.A (eval b X.env) (fun u s₂=>wpAny (model X.prog X.w) X.A (f v u) Q X.xe s₂) X.xe s₁) X.xe s:=by
 refine thn (ha pins s σ H _ I h) fun v s1 ⟨x,H1,I1,r1,q1⟩=>?_
 refine thn (hb pins s1 σ H1 _ I1 q1) fun u s2 ⟨y,H2,I2,r2,q2⟩=>?_
 exact hf v u s2 x y H2 I2 r1 r2 q2
theorem pe_op {op:Operator} {r:R2} (ho:OpR X (binaryOp op) r) (ha:PE X a ta) (hb:PE X b tb):PE X (.BinOp a op b pos) (tOp r ta tb):=by
 intro pins s σ H Q I h
 exact wpAny_BinOp (binT ha hb I h fun v u s2 x y H2 I2 rx ry q=>ho pins s2 σ H2 x y v u Q I2 rx ry q)
theorem pe_un {op:UnaryOp} {r:V→Hp→VK→Prop} (ho:UnR X (unaryOp op) r) (ha:PE X a ta):PE X (.UnaryOp op a pos) (tUn r ta):=by
 intro pins s σ H Q I h
 exact UnaryOp_ (thn (ha pins s σ H _ I h) fun v s1 ⟨x,H1,I1,r1,q1⟩=>ho pins s1 σ H1 x v Q I1 r1 q1)
theorem opI {f:Value→Value→Sem Value} {C:Int→Int→Prop} {g:Int→Int→Int}
  (rule:∀ (i j:Int) (t u:Tok) (s:Shared) (Q:Value→Shared→Prop) (E:Value→Shared→Prop),C i j→Q (.int (g i j) s.toks) { s with toks:=s.toks + 1 }→wpAny (model X.prog X.w) X.A (f (.int i t) (.int j u)) Q E s) :
  OpR X f (rI C fun i j=>.int (g i j)):=by
 intro pins s σ H x y v u Q I rx ry h
 obtain ⟨i,j,rfl,rfl,hc,q⟩:=h
 obtain ⟨t,rfl⟩:=rx
 obtain ⟨t',rfl⟩:=ry
 exact rule i j t t' s _ _ hc ⟨.int (g i j),H,I.tok _,⟨_,rfl⟩,q⟩
theorem opI0 {f:Value→Value→Sem Value} {g:Int→Int→Int}
  (rule:∀ (i j:Int) (t u:Tok) (s:Shared) (Q:Value→Shared→Prop) (E:Value→Shared→Prop),Q (.int (g i j) s.toks) { s with toks:=s.toks + 1 }→wpAny (model X.prog X.w) X.A (f (.int i t) (.int j u)) Q E s) :
  OpR X f (rI0 fun i j=>.int (g i j)):=by
 intro pins s σ H x y v u Q I rx ry h
 obtain ⟨i,j,rfl,rfl,q⟩:=h
 obtain ⟨t,rfl⟩:=rx
 obtain ⟨t',rfl⟩:=ry
 exact rule i j t t' s _ _ ⟨.int (g i j),H,I.tok _,⟨_,rfl⟩,q⟩
def CMul (i j:Int):Prop:=(-(2 ^ 64)<i∧i<2 ^ 64)∨(-(2 ^ 64)<j∧j<2 ^ 64)
theorem CMul.ok {i j:Int} (h:CMul i j):IntMulOk i j:=by
 rcases h with ⟨h1,h2⟩ | ⟨h1,h2⟩
 ·exact .of_left (intBits_le_64 h1 h2)
 ·exact .of_right (intBits_le_64 h1 h2)
theorem op_add:OpR X (binaryOp .Add) (rI0 fun i j=>.int (i + j)):=opI0 fun _ _ _ _ _ _ _ q=>add_int q
theorem op_sub:OpR X (binaryOp .Sub) (rI0 fun i j=>.int (i - j)):=opI0 fun _ _ _ _ _ _ _ q=>sub_int q
theorem op_mod:OpR X (binaryOp .Mod) (rI (fun _ j=>0<j) fun i j=>.int (i % j)):=opI fun i j _ _ _ _ _ hc q=>by
 have h1:(0:Int)<j:=hc
 exact mod_int' (by omega) (by rw [Int.fmod_eq_emod_of_nonneg i (by omega)];exact q)
theorem unI {f:Value→Sem Value} {g:Int→Int}
  (rule:∀ (i:Int) (t:Tok) (s:Shared) (Q:Value→Shared→Prop) (E:Value→Shared→Prop),Q (.int (g i) s.toks) { s with toks:=s.toks + 1 }→wpAny (model X.prog X.w) X.A (f (.int i t)) Q E s) :
  UnR X f (rU fun i=>.int (g i)):=by
 intro pins s σ H x v Q I rx h
 obtain ⟨i,rfl,q⟩:=h
 obtain ⟨t,rfl⟩:=rx
 exact rule i t s _ _ ⟨.int (g i),H,I.tok _,⟨_,rfl⟩,q⟩
theorem un_neg:UnR X (unaryOp .USub) (rU fun i=>.int (-i)):=unI fun _ _ _ _ _ q=>neg_int q
end
def scal:V→V→Bool
 | .non,.non=>true | .non,.int _=>true | .int _,.non=>true | .non,.bl _=>true | .bl _,.non=>true | .non,.str _=>true | .str _,.non=>true
 | .int _,.int _=>true | .bl _,.bl _=>true | .str _,.str _=>true | .byt _,.byt _=>true
 | .int _,.str _=>true | .str _,.int _=>true | .bl _,.str _=>true | .str _,.bl _=>true
 | _,_=>false
def rEq:R2:=fun x y H Q=>scal x y=true∧Q (.bl (decide (x=y))) H
theorem dec_int {i j:Int}:decide (V.int i=V.int j)=(i == j):=by
 rw [Bool.eq_iff_iff]
 simp
theorem dec_bl {i j:Bool}:decide (V.bl i=V.bl j)=(i == j):=by
 rw [Bool.eq_iff_iff]
 simp
theorem dec_str {i j:Str}:decide (V.str i=V.str j)=(i == j):=by
 rw [Bool.eq_iff_iff]
 simp
theorem dec_byt {i j:Array UInt8}:decide (V.byt i=V.byt j)=(i.toList == j.toList):=by
 rw [Bool.eq_iff_iff]
 cases i
 cases j
 simp
section
variable {X:Cx} {a b c:Expr} {ta tb tc:TE} {pos:Pos}
theorem fin_bl {pins:List (Addr × Obj)} {σ:St} {H:Hp} {s:Shared} {Q:VK} {k k':Bool} (I:Inv X pins σ H s) (q:Q (.bl k) H) (e:k=k'):EP X pins σ Q (.bool k') s:=by
 subst e
 exact ⟨.bl k,H,I,rfl,q⟩
theorem op_eq:OpR X (compareOp .Eq) rEq:=by
 intro pins s σ H x y v u Q I rx ry h
 obtain ⟨hs,q⟩:=h
 cases x with
 | non =>
  cases rx
  cases y with
  | non=>cases ry;exact PySem.EqNone.eq_none_none (fin_bl I q (by simp))
  | bl j=>cases ry;exact PySem.EqNone.eq_none_bool (fin_bl I q (by simp))
  | int j=>obtain ⟨t',rfl⟩:=ry;exact PySem.EqNone.eq_none_int (fin_bl I q (by simp))
  | str j=>obtain ⟨t',rfl⟩:=ry;exact PySem.EqNone.eq_none_str (fin_bl I q (by simp))
  | _=>exact absurd (show false=true from hs) Bool.false_ne_true
 | bl i =>
  cases rx
  cases y with
  | non=>cases ry;exact PySem.EqNone.eq_bool_none (fin_bl I q (by simp))
  | bl j=>cases ry;exact eq_bool (fin_bl I q dec_bl)
  | str j=>obtain ⟨t',rfl⟩:=ry;exact PySem.EqMixed.eq_bool_str (fin_bl I q (by simp))
  | _=>exact absurd (show false=true from hs) Bool.false_ne_true
 | int i =>
  obtain ⟨t,rfl⟩:=rx
  cases y with
  | non=>cases ry;exact PySem.EqNone.eq_int_none (fin_bl I q (by simp))
  | int j=>obtain ⟨t',rfl⟩:=ry;exact eq_int (fin_bl I q dec_int)
  | str j=>obtain ⟨t',rfl⟩:=ry;exact PySem.EqMixed.eq_int_str (fin_bl I q (by simp))
  | _=>exact absurd (show false=true from hs) Bool.false_ne_true
 | str i =>
  obtain ⟨t,rfl⟩:=rx
  cases y with
  | non=>cases ry;exact PySem.EqNone.eq_str_none (fin_bl I q (by simp))
  | bl j=>cases ry;exact PySem.EqMixed.eq_str_bool (fin_bl I q (by simp))
  | int j=>obtain ⟨t',rfl⟩:=ry;exact PySem.EqMixed.eq_str_int (fin_bl I q (by simp))
  | str j=>obtain ⟨t',rfl⟩:=ry;exact eq_str (fin_bl I q dec_str)
  | _=>exact absurd (show false=true from hs) Bool.false_ne_true
 | byt i =>
  obtain ⟨t,rfl⟩:=rx
  cases y with
  | byt j=>obtain ⟨t',rfl⟩:=ry;exact PySem.W.eq_bytes (fin_bl I q dec_byt)
  | _=>exact absurd (show false=true from hs) Bool.false_ne_true
 | _=>cases y <;> exact absurd (show false=true from hs) Bool.false_ne_true
theorem nomark (b:Expr) {op:CmpOp} (h:op≠.In:=by decide) (h2:op≠.NotIn:=by decide):behindInMarks op b=false:=by
 have e1:(op == CmpOp.In)=false:=by cases op <;> first | rfl | exact absurd rfl h
 have e2:(op == CmpOp.NotIn)=false:=by cases op <;> first | rfl | exact absurd rfl h2
 cases b <;> simp [behindInMarks,e1,e2]
def tTest (t:TE):TT:=fun σ H Q=>t σ H fun x H'=>∃ k,x = .bl k∧Q k H'
theorem pt_cmpR {op:CmpOp} {r:R2} (ho:OpR X (compareOp op) r) (ha:PE X a ta) (hb:PE X b tb) (hm:behindInMarks op b=false):PT X (.Compare a [op] [b] pos) (tTest (tOp r ta tb)):=by
 intro pins s σ H Q I h
 refine wpAny_isTrue_Compare1 (thn (ha pins s σ H _ I h) fun v s1 ⟨x,H1,I1,r1,q1⟩=>thn (hb pins s1 σ H1 _ I1 q1) fun u s2 ⟨y,H2,I2,r2,q2⟩ =>
  thn (ho pins s2 σ H2 x y v u _ I2 r1 r2 q2) fun c s3 ⟨z,H3,I3,r3,k,e,q3⟩=>?_) hm
 subst e
 cases r3
 exact wpAny_truthy_bool ⟨H3,I3,q3⟩
theorem line63:(sizeLine:Nat)<2 ^ 63:=by rw [sizeLine_eq];decide
theorem vals1 {x:V} {us:List Value} (r:Vals [x] us):∃ u,us=[u]∧RelV x u:=by
 cases r with
 | cons r1 r2=>cases r2;exact ⟨_,rfl,r1⟩
theorem vals2 {x y:V} {us:List Value} (r:Vals [x,y] us):∃ u w',us=[u,w']∧RelV x u∧RelV y w':=by
 cases r with
 | cons r1 r2 =>
  cases r2 with
  | cons r3 r4=>cases r4;exact ⟨_,_,rfl,r1,r3⟩
theorem call_abs:CallR X (.builtin "abs") (fun xs H Q=>∃ i,xs=[.int i]∧Q (.int (if i<0 then -i else i)) H):=by
 intro pins s σ H xs us Q I r h
 obtain ⟨i,rfl,q⟩:=h
 obtain ⟨u,rfl,t,rfl⟩:=vals1 r
 exact call_abs_int fun u tk=>⟨.int (if i<0 then -i else i),H,I.tok _,⟨_,rfl⟩,q⟩
theorem call_min2 (hc:X.calm=true):CallR X (.builtin "min") (fun xs H Q=>∃ i j,xs=[.int i,.int j]∧Q (.int (if j<i then j else i)) H):=by
 intro pins s σ H xs us Q I r h
 obtain ⟨i,j,rfl,q⟩:=h
 obtain ⟨u,w',rfl,⟨t,rfl⟩,⟨t',rfl⟩⟩:=vals2 r
 refine min_two_ints (I.ok.hd hc) fun h' tk k=>⟨_,H,I.kept k,?_,q⟩
 by_cases hj:j<i
 ·rw [if_pos hj,if_pos hj];exact ⟨_,rfl⟩
 ·rw [if_neg hj,if_neg hj];exact ⟨_,rfl⟩
theorem call_int1:CallR X (.type "int") (fun xs H Q=>(∃ i,xs=[.int i]∧Q (.int i) H)∨∃ k,xs=[.bl k]∧Q (.int (if k then 1 else 0)) H):=by
 intro pins s σ H xs us Q I r h
 rcases h with ⟨i,rfl,q⟩ | ⟨k,rfl,q⟩
 ·obtain ⟨u,rfl,t,rfl⟩:=vals1 r
  exact call_int_int ⟨.int i,H,I,⟨_,rfl⟩,q⟩
 ·obtain ⟨u,rfl,r1⟩:=vals1 r
  cases r1
  exact call_int_bool ⟨.int (if k then 1 else 0),H,I.tok _,⟨_,rfl⟩,q⟩
end
end L2
namespace L2
open PySem PySem.Spec PyProof.Rows
structure ObjM (h:Heap) (x dx C:Addr) (mA:Str→Option Value):Prop where
 obj:h.get? x=some (PySem.W.instObj C dx)
 ns:h.Ns1 dx mA
 ne:dx≠x
theorem lookIn_ns {h:Heap} {dx:Addr} {mA:Str→Option Value} (n:h.Ns1 dx mA):∃ od,h.get? dx=some od∧∀ name,PySem.W.lookIn name od=some (mA name):=by
 obtain ⟨o,es,ep,ho,hd,hk,_,hm⟩:=n
 refine ⟨o,ho,fun name=>?_⟩
 have e:=hm name
 unfold nsFind findBy at e
 rw [← Array.find?_toList] at e
 unfold PySem.W.lookIn
 rw [hd]
 dsimp only
 split
 ·rename_i y q
  rw [q] at e
  exact congrArg some e
 ·rename_i q
  rw [q] at e
  have a:es.toList.any (·.refKey)=false:=by
   rw [List.any_eq_false]
   intro y hy
   obtain ⟨z,t,hkey⟩:=hk y (Array.mem_toList_iff.mp hy)
   simp [DictEntry.refKey,hkey]
  have a':¬ es.toList.any (·.refKey)=true:=by rw [a];exact Bool.false_ne_true
  rw [if_neg a']
  exact congrArg some e
theorem ObjM.look {h:Heap} {x dx C:Addr} {mA:Str→Option Value} (I:ObjM h x dx C mA):∃ od,PySem.W.InstAt h x (PySem.W.instObj C dx) C (some od)∧∀ name,PySem.W.lookIn name od=some (mA name) :=
 let ⟨od,ho,hl⟩:=lookIn_ns I.ns
 ⟨od,⟨I.obj,rfl,rfl,ho⟩,hl⟩
section
variable {prog:Program} {w:World} {A:Around} {E:Value→Shared→Prop} {s:Shared} {K:PySem.W.Frag} {x dx C f:Addr} {mA:Str→Option Value} {name:Str} {v:Value}
theorem get_map {expr:Bool} {Q:Value→Shared→Prop} (X:K.In s.heap) (I:ObjM s.heap x dx C mA) (hg:PySem.W.plainGet K C name=true) (hh:PySem.W.hasDictIn K C=true)
  (ha:PySem.W.findIn K (.ref C) name=some none) (hv:mA name=some v) (hv':PySem.W.handedIn v=true) (h:Q v { s with toks:=s.toks + 1 }) :
  wpAny (model prog w) A (getAttr (.ref x) name expr) Q E s:=by
 obtain ⟨od,J,hl⟩:=I.look
 exact PySem.W.get_value X J (PySem.W.plainGet_of hg).1 (PySem.W.findObj_own hh ha rfl (by rw [hl,hv])) hv' h
theorem get_meth {pl:Sem Bool} {Q:Value × List Value→Shared→Prop} (X:K.In s.heap) (I:ObjM s.heap x dx C mA) (hg:PySem.W.plainGet K C name=true)
  (hf:PySem.W.findIn K (.ref C) name=some (some (.ref f))) (ht:PySem.W.isFn K (.ref f)=true) (hv:mA name=none) (h:Q (.ref f,[.ref x]) s) :
  wpAny (model prog w) A (getMethod (.ref x) name pl) Q E s:=by
 obtain ⟨od,J,hl⟩:=I.look
 exact PySem.W.method_fn X J (PySem.W.plainGet_of hg).1 (PySem.W.plainGet_of hg).2 hf (beq_iff_eq.mp ht) (by show (PySem.W.lookIn name od).map (·.isSome)=some false;rw [hl,hv];rfl) h
theorem set_map {ns:List Str} {Q:Unit→Shared→Prop} (X:K.In s.heap) (I:ObjM s.heap x dx C mA)
  (hs:PySem.W.findIn K (.ref C) "__setattr__" = some (some (.builtin "object.__setattr__"))) (hp:PySem.W.plainOver K C=true) (ht:PySem.W.takerIn K C name=some none) (hh:PySem.W.hasDictIn K C=true)
  (hw:PySem.Within mA ns) (hsz:ns.length≤sizeLine)
  (h:∀ h',ObjM h' x dx C (fun y=>if y=name then some v else mA y)→Heap.SameBut dx s.heap h'→Q () { s with heap:=h',toks:=s.toks + 2 }) :
  wpAny (model prog w) A (setAttr (.ref x) name v) Q E s:=by
 obtain ⟨od,J,hl⟩:=I.look
 refine PySem.W.set_plain X J hs (PySem.W.osa_open (s:={ s with toks:=s.toks + 1 }) (r:=none) X J hp ht fun b=>?_)
 obtain ⟨cd,hc,hd'⟩:=PySem.W.any_some hh
 have hx:s.heap.get? x=some ⟨.ref C,some dx,.plain,#[]⟩:=I.obj
 refine wpAny_bind (wpAny_pure (wpAny_bind (wpAny_bind (wpAny_loadPart hx (wpAny_bind (PySem.W.Looks.here (s:={ s with toks:=s.toks + 1 }) (PySem.W.looks_clsIn X hc) ?_))))))
 rw [hd']
 refine wpAny_pure (a:=some dx) (wpAny_bind (wpAny_pure (wpAny_bind ?_)))
 refine wpAny_nsSet1 (s:={ s with toks:=s.toks + 1 }) I.ns fun h' hn2 hs2=>?_
 obtain ⟨oD,esD,epD,hoD,hdD,hcD⟩:=hn2.count (PySem.Within.cons name v hw)
 refine wpAny_bind (wpAny_lookBehind hoD (by rw [hdD];exact pastItsLine_dict (Nat.le_trans hcD (by rw [List.length_cons];omega))) ?_)
 exact wpAny_pure (h _ ⟨(hs2.2 _ (Ne.symm I.ne)).trans I.obj,hn2,I.ne⟩ hs2)
theorem make_map {R:Result→Shared→Prop} {vs:List Value} {kw:List (Str × Value)} (X:K.In s.heap) (hm:PySem.W.makesIn K C=true)
  (hi:PySem.W.findIn K (.ref C) "__init__" = some (some (.ref f))) (hf:PySem.W.typeIn K (.ref f)=some (.type "function"))
  (h:codeAny (model prog w) (A.under (.builtin "type.__call__" ⟨.ref C::vs,kw⟩)) (.call (.ref f) ⟨.ref (s.heap.objs.size + 1)::vs,kw⟩) (PySem.W.InitBack (s.heap.objs.size + 1) R)
   { s with heap:=(s.heap.push PySem.W.emptyDict).push (PySem.W.instObj C s.heap.objs.size) }) :
  codeAny (model prog w) A (.call (.ref C) ⟨vs,kw⟩) R s:=by
 obtain ⟨hh,g,d,t,os⟩:=s
 exact PySem.W.make_core (PySem.W.makes_of X hm) (PySem.W.looks_findIn X hi) (fun self=>PySem.W.bind_fn X self hf) (.inl rfl) h
end
def putF (f:Str) (v:V):List (Str × V)→List (Str × V)
 | []=>[(f,v)]
 | (g,x)::r=>if g=f then (g,v)::r else (g,x)::putF f v r
theorem lookup_putF (f g:Str) (v:V):∀ fs:List (Str × V),(putF f v fs).lookup g=if g=f then some v else fs.lookup g
 | []=>by
  show List.lookup g [(f,v)]=_
  by_cases h:g=f
  ·have hb:(g == f)=true:=beq_iff_eq.mpr h
   simp only [List.lookup,hb,if_pos h]
  ·have hb:(g == f)=false:=beq_eq_false_iff_ne.mpr h
   simp only [List.lookup,hb,if_neg h]
 | (k,x)::r=>by
  have ih:=lookup_putF f g v r
  rw [show putF f v ((k,x)::r)=(if k=f then (k,v)::r else (k,x)::putF f v r) from rfl]
  by_cases hk:k=f
  ·rw [if_pos hk]
   by_cases h:g=k
   ·have hb:(g == k)=true:=beq_iff_eq.mpr h
    simp only [List.lookup,hb,if_pos (h.trans hk)]
   ·have hb:(g == k)=false:=beq_eq_false_iff_ne.mpr h
    simp only [List.lookup,hb,if_neg (fun e:g=f=>h (e.trans hk.symm))]
  ·rw [if_neg hk]
   by_cases h:g=k
   ·have hb:(g == k)=true:=beq_iff_eq.mpr h
    simp only [List.lookup,hb,if_neg (fun e:g=f=>hk (h.symm.trans e))]
   ·have hb:(g == k)=false:=beq_eq_false_iff_ne.mpr h
    simp only [List.lookup,hb]
    exact ih
theorem keys_putF (f:Str) (v:V):∀ fs:List (Str × V),f∈(putF f v fs).map (·.1)∧∀ g,g∈fs.map (·.1)→g∈(putF f v fs).map (·.1)
 | []=>⟨by simp [putF],fun g h=>by simp at h⟩
 | (k,x)::r=>by
  obtain ⟨i1,i2⟩:=keys_putF f v r
  rw [show putF f v ((k,x)::r)=(if k=f then (k,v)::r else (k,x)::putF f v r) from rfl]
  by_cases hk:k=f
  ·rw [if_pos hk]
   subst hk
   exact ⟨by simp,fun g h=>by simpa using h⟩
  ·rw [if_neg hk]
   refine ⟨?_,fun g h=>?_⟩
   ·rw [List.map_cons]
    exact List.mem_cons_of_mem _ i1
   ·rw [List.map_cons] at h ⊢
    rcases List.mem_cons.mp h with e | e
    ·exact List.mem_cons.mpr (.inl e)
    ·exact List.mem_cons_of_mem _ (i2 g e)
theorem length_putF (f:Str) (v:V):∀ fs:List (Str × V),(putF f v fs).length≤fs.length + 1
 | []=>by simp [putF]
 | (k,x)::r=>by
  have ih:=length_putF f v r
  rw [show putF f v ((k,x)::r)=(if k=f then (k,v)::r else (k,x)::putF f v r) from rfl]
  by_cases hk:k=f
  ·rw [if_pos hk,List.length_cons,List.length_cons];omega
  ·rw [if_neg hk,List.length_cons,List.length_cons];omega
theorem RelO.some_of {v:V} {o:Option Value} (r:RelO (some v) o):∃ u,o=some u∧RelV v u:=by
 cases o with
 | none=>exact (show False from r).elim
 | some u=>exact ⟨u,rfl,r⟩
theorem RelO.none_of {o:Option Value} (r:RelO none o):o=none:=by
 cases o with
 | none=>rfl
 | some u=>exact (show False from r).elim
theorem handed_of {v:V} {u:Value} (r:RelV v u):PySem.W.handedIn u=true:=by
 cases v with
 | non=>cases (show u=Value.none from r);rfl
 | bl b=>cases (show u=Value.bool b from r);rfl
 | int i=>obtain ⟨t,e⟩:=(show ∃ t,u=Value.int i t from r);cases e;rfl
 | str x=>obtain ⟨t,e⟩:=(show ∃ t,u=Value.str x t from r);cases e;rfl
 | byt b=>obtain ⟨t,e⟩:=(show ∃ t,u=Value.bytes b t from r);cases e;rfl
 | flt b=>obtain ⟨t,e⟩:=(show ∃ t,u=Value.float b t from r);cases e;rfl
 | ref a=>cases (show u=Value.ref a from r);rfl
 | ty n=>cases (show u=Value.type n from r);rfl
section
variable {P:Program} {w:World} {H H':Hp} {h h':Heap} {a C dx:Addr} {fs fs':List (Str × V)}
theorem ins_get (hok:HOk P w H h) (e:H a=some (.ins C dx fs)):∃ mA,ObjM h a dx C mA∧(∀ f,RelO (fs.lookup f) (mA f))∧PySem.Within mA (fs.map (·.1))∧fs.length≤1000∧H dx=some (.own a):=by
 obtain ⟨d,z,ne,ob,mA,n,r,q⟩:=(show ObjOk P w H h a (.ins C dx fs) from hok a _ e)
 exact ⟨mA,⟨ob,n,ne⟩,r,q,z,d⟩
end
structure Cls (K:PySem.W.Frag) (C:Addr):Prop where
 pg:PySem.W.plainGet K C Str.empty=true
 hd:PySem.W.hasDictIn K C=true
 po:PySem.W.plainOver K C=true
 sa:PySem.W.findIn K (.ref C) "__setattr__" = some (some (.builtin "object.__setattr__"))
theorem Cls.get {K:PySem.W.Frag} {C:Addr} (c:Cls K C) (f:Str):PySem.W.plainGet K C f=true:=c.pg
def NoAttr (K:PySem.W.Frag) (C:Addr) (f:Str):Prop:=PySem.W.findIn K (.ref C) f=some none
theorem NoAttr.taker {K:PySem.W.Frag} {C:Addr} {f:Str} (n:NoAttr K C f):PySem.W.takerIn K C f=some none:=by
 unfold PySem.W.takerIn
 rw [show PySem.W.findIn K (.ref C) f=some none from n]
 rfl
structure Con (K:PySem.W.Frag) (C:Addr) (f:Str) (v:V) (u:Value):Prop where
 at_:PySem.W.findIn K (.ref C) f=some (some u)
 rel:RelV v u
 get:PySem.W.specialIn K u "__get__" = some none
 cp:PySem.W.copiedNames.contains f=false
structure Meth (K:PySem.W.Frag) (C:Addr) (m:Str) (f:Addr):Prop where
 at_:PySem.W.findIn K (.ref C) m=some (some (.ref f))
 fn:PySem.W.isFn K (.ref f)=true
 kp:PySem.W.keepIn K (.ref f)=true
section
variable {X:Cx} {pins:List (Addr × Obj)} {σ:St} {H:Hp} {s:Shared} {a C dx:Addr} {fs:List (Str × V)} {f:Str} {v:V} {A:Around} {E:Value→Shared→Prop}
theorem getattr_ok {b:Bool} {Q:Value→Shared→Prop} (I:Inv X pins σ H s) (e:H a=some (.ins C dx fs)) (c:Cls X.K C) (n:NoAttr X.K C f) (l:fs.lookup f=some v)
  (h:∀ u s',Inv X pins σ H s'→RelV v u→Q u s'):wpAny (model X.prog X.w) A (getAttr (.ref a) f b) Q E s:=by
 obtain ⟨mA,O,r,_,_,_⟩:=ins_get I.hok e
 obtain ⟨u,hu,ru⟩:=RelO.some_of (v:=v) (o:=mA f) (by rw [← l];exact r f)
 exact get_map I.kIn O (c.get f) c.hd n hu (handed_of ru) (h u _ (I.tok _) ru)
theorem getmeth_ok {m:Str} {g:Addr} {pl:Sem Bool} {Q:Value × List Value→Shared→Prop} (I:Inv X pins σ H s) (e:H a=some (.ins C dx fs)) (c:Cls X.K C) (k:Meth X.K C m g) (l:fs.lookup m=none)
  (h:Q (.ref g,[.ref a]) s):wpAny (model X.prog X.w) A (getMethod (.ref a) m pl) Q E s:=by
 obtain ⟨mA,O,r,_,_,_⟩:=ins_get I.hok e
 have hn:mA m=none:=RelO.none_of (by rw [← l];exact r m)
 exact get_meth I.kIn O (c.get m) k.at_ k.fn hn h
theorem setattr_ok {y:V} {u:Value} {Q:Unit→Shared→Prop} (I:Inv X pins σ H s) (e:H a=some (.ins C dx fs)) (c:Cls X.K C) (n:NoAttr X.K C f) (hl:fs.length<1000) (ry:RelV y u)
  (h:∀ s',Inv X pins σ (upd H a (.ins C dx (putF f y fs))) s'→Q () s'):wpAny (model X.prog X.w) A (setAttr (.ref a) f u) Q E s:=by
 obtain ⟨mA,O,r,wi,_,ho⟩:=ins_get I.hok e
 have hz:(fs.map (·.1)).length≤sizeLine:=by rw [List.length_map,sizeLine_eq];omega
 refine set_map I.kIn O c.sa c.po n.taker c.hd wi hz fun h' O' sb=>h _ ?_
 have hd:∃ o,h'.get? dx=some o:=let ⟨o,_,_,e',_⟩:=O'.ns;⟨o,e'⟩
 refine I.write (x:=a) (e:=dx) (by rw [e];exact True.intro) (.inr ho) (fun b q hb z=>(sb.2 b hb).trans z) hd ?_
 refine ⟨by rw [upd_ne O.ne];exact ho,?_,O.ne,O'.obj,_,O'.ns,fun g=>?_,fun g hg=>?_⟩
 ·have:=length_putF f y fs;omega
 ·show RelO ((putF f y fs).lookup g) (if g=f then some u else mA g)
  rw [lookup_putF]
  by_cases q:g=f
  ·rw [if_pos q,if_pos q];exact ry
  ·rw [if_neg q,if_neg q];exact r g
 ·by_cases q:g=f
  ·rw [q];exact (keys_putF f y fs).1
  ·refine (keys_putF f y fs).2 g (wi g fun z=>hg ?_)
   show (if g=f then some u else mA g)=none
   rw [if_neg q];exact z
theorem Inv.made (I:Inv X pins σ H s):Inv X pins σ (upd (upd H s.heap.objs.size (.own (s.heap.objs.size + 1))) (s.heap.objs.size + 1) (.ins C s.heap.objs.size []))
  { s with heap:=(s.heap.push PySem.W.emptyDict).push (PySem.W.instObj C s.heap.objs.size) }:=by
 have e1:(s.heap.push PySem.W.emptyDict).get? s.heap.objs.size=some PySem.W.emptyDict:=Heap.get?_push_size s.heap rfl
 have e2:((s.heap.push PySem.W.emptyDict).push (PySem.W.instObj C s.heap.objs.size)).get? (s.heap.objs.size + 1)=some (PySem.W.instObj C s.heap.objs.size):=by
  have:=Heap.get?_push_size (s.heap.push PySem.W.emptyDict) (o:=PySem.W.instObj C s.heap.objs.size) rfl
  rwa [Heap.size_push] at this
 have e3:(s.heap.push PySem.W.emptyDict).Ns s.heap.objs.size (fun _=>none):=⟨PySem.W.emptyDict,#[],_,e1,rfl,(fun e he=>absurd he (by simp)),fun _=>rfl⟩
 have I1:=I.laid (a:=s.heap.objs.size) (o:=.own (s.heap.objs.size + 1)) (h':=s.heap.push PySem.W.emptyDict) (t':=s.toks) (fun b u q=>Heap.get?_push_of_some _ q) (Nat.le_refl _) ⟨_,e1⟩
 refine I1.laid (a:=s.heap.objs.size + 1) (o:=.ins C s.heap.objs.size []) (t':=s.toks) (fun b u q=>Heap.get?_push_of_some _ q) (Nat.le_of_eq (Heap.size_push _ _)) ?_
 have ne:s.heap.objs.size≠s.heap.objs.size + 1:=Nat.ne_of_lt (Nat.lt_succ_self _)
 refine ⟨by rw [upd_ne ne,upd_same],Nat.zero_le _,ne,e2,fun _=>none,(Heap.Ns1.of_empty e3).at fun o q=>Heap.get?_push_of_some _ q,fun _=>True.intro,fun y hy=>absurd rfl hy⟩
theorem attr_of {prog:Program} {w:World} {env:Env} {e:Expr} {f:Str} {pos:Pos} {s:Shared} {Q:Value→Shared→Prop} (hb:attributeBase e f env (eval e env)=eval e env)
  (h:wpAny (model prog w) A (eval e env) (fun o s₁=>wpAny (model prog w) A (getAttr o f true) Q E s₁) E s):wpAny (model prog w) A (eval (.Attribute e f pos) env) Q E s :=
 Attribute_any_ h (by rw [arm_eval_Attribute,hb])
end
def tFld (K:PySem.W.Frag) (ta:TE) (f:Str):TE:=fun σ H Q=>ta σ H fun x H1=>∃ a C dx fs v,x = .ref a∧H1 a=some (.ins C dx fs)∧Cls K C∧NoAttr K C f∧fs.lookup f=some v∧Q v H1
def sFld (K:PySem.W.Frag) (ta tv:TE) (f:Str):TS:=fun D σ H=>tv σ H fun y H1=>ta σ H1 fun x H2=>∃ a C dx fs,x = .ref a∧H2 a=some (.ins C dx fs)∧Cls K C∧NoAttr K C f∧fs.length<1000 ∧
 D.nx σ (upd H2 a (.ins C dx (putF f y fs)))
section
variable {X:Cx} {o e value:Expr} {f:Str} {pos pos' tpos:Pos} {ta tv:TE}
theorem pe_fld (he:PE X e ta) (hb:attributeBase e f X.env (eval e X.env)=eval e X.env):PE X (.Attribute e f pos) (tFld X.K ta f):=by
 intro pins s σ H Q I h
 refine attr_of hb (thn (he pins s σ H _ I h) fun u s1 ⟨x,H1,I1,rx,a,C,dx,fs,v,ex,ea,c,n,l,q⟩=>?_)
 subst ex
 obtain rfl:u=Value.ref a:=rx
 exact getattr_ok I1 ea c n l fun u' s2 I2 ru=>⟨v,H1,I2,ru,q⟩
theorem ps_fld (ha:PE X o ta) (hv:PE X value tv) (hs:swapsWith value (some (.Attribute o f pos')) pos.line X.env=pure false):PS X (.Assign [.Attribute o f pos'] value pos) (sFld X.K ta tv f):=by
 intro pins s σ H D I h
 refine plainObj_wpAny_Assign_Attribute (thn (hv pins s σ H _ I h) fun u s1 ⟨y,H1,I1,ry,q⟩=>thn (ha pins s1 σ H1 _ I1 q) fun ov s2 ⟨x,H2,I2,rx,a,C,dx,fs,ex,ea,c,n,l,q2⟩=>?_) hs
 subst ex
 obtain rfl:ov=Value.ref a:=rx
 exact setattr_ok I2 ea c n l ry fun s3 I3=>⟨σ,_,I3,q2⟩
end
section
variable {X:Cx} {pins:List (Addr × Obj)} {σ:St} {H:Hp} {s:Shared} {A:Around} {E:Value→Shared→Prop} {Q:Value→Shared→Prop} {c:Value} {b:Bool}
inductive TyOf (K:PySem.W.Frag) (H:Hp):V→Value→Prop where
 | non:TyOf K H .non (.type "NoneType")
 | bl (x:Bool):TyOf K H (.bl x) (.type "bool")
 | int (i:Int):TyOf K H (.int i) (.type "int")
 | str (x:Str):TyOf K H (.str x) (.type "str")
 | flt (x:UInt64):TyOf K H (.flt x) (.type "float")
 | lst {a:Addr} {xs:List V} (e:H a=some (.lst xs)):TyOf K H (.ref a) (.type "list")
 | frz {a:Addr} {o:Obj} {xs:List V} (e:H a=some (.frz o (.lst xs))):TyOf K H (.ref a) (.type "list")
 | tup {a:Addr} {xs:List V} (e:H a=some (.tup xs)):TyOf K H (.ref a) (.type "tuple")
 | dK {a:Addr} {kvs:List (Key × V)} (e:H a=some (.dK kvs)):TyOf K H (.ref a) (.type "dict")
 | dT {a:Addr} {kvs:List (List Key × V)} (e:H a=some (.dT kvs)):TyOf K H (.ref a) (.type "dict")
 | ins {a C dx:Addr} {fs:List (Str × V)} (e:H a=some (.ins C dx fs)) (cl:Cls K C) (ha:PySem.W.findIn K (.ref C) "__class__" = some (some (.builtin "object.__class__")))
   (hn:PySem.W.specialIn K (.builtin "object.__class__") "__get__" = some (some (.builtin "getset_descriptor.__get__"))) (htk:PySem.W.takesIn K (.builtin "object.__class__")=some true)
   (hm:PySem.W.mroIn K C (.type "object")=some true):TyOf K H (.ref a) (.ref C)
theorem isinst_ok {x:V} {u t:Value} (I:Inv X pins σ H s) (rx:RelV x u) (ty:TyOf X.K H x t) (e:PySem.W.kitOne X.K t c=some b) (h:∀ tk,Q (.bool b) { s with toks:=tk }) :
  wpAny (model X.prog X.w) A (call (.builtin "isinstance") [u,c]) Q E s:=by
 cases ty with
 | non=>cases (show u=Value.none from rx);exact PySem.W.kia_one PySem.W.kitx_none I.kIn True.intro e (fun z=>nomatch z) h
 | bl y=>cases (show u=Value.bool y from rx);exact PySem.W.kia_one PySem.W.kitx_bool I.kIn True.intro e (fun z=>nomatch z) h
 | int i=>obtain ⟨t,q⟩:=(show ∃ t,u=Value.int i t from rx);cases q;exact PySem.W.kia_one PySem.W.kitx_int I.kIn True.intro e (fun z=>nomatch z) h
 | str y=>obtain ⟨t,q⟩:=(show ∃ t,u=Value.str y t from rx);cases q;exact PySem.W.kia_one PySem.W.kitx_str I.kIn True.intro e (fun z=>nomatch z) h
 | flt y=>obtain ⟨t,q⟩:=(show ∃ t,u=Value.float y t from rx);cases q;exact PySem.W.kia_one PySem.W.kitx_float I.kIn True.intro e (fun z=>nomatch z) h
 | @lst a xs ea =>
  cases (show u=Value.ref a from rx)
  obtain ⟨_,_,n,_,h1⟩:=(show ObjOk X.prog X.w H s.heap a (.lst xs) from I.hok a _ ea)
  exact PySem.W.kia_one PySem.W.kitx_list I.kIn ⟨_,h1,rfl⟩ e (fun z=>nomatch z) h
 | @frz a ob xs ea =>
  cases (show u=Value.ref a from rx)
  obtain ⟨_,_,_,n,_,h1⟩:=(show ObjOk X.prog X.w H s.heap a (.frz ob (.lst xs)) from I.hok a _ ea)
  exact PySem.W.kia_one PySem.W.kitx_list I.kIn ⟨_,h1,rfl⟩ e (fun z=>nomatch z) h
 | @tup a xs ea =>
  cases (show u=Value.ref a from rx)
  obtain ⟨_,_,_,p⟩:=(show ObjOk X.prog X.w H s.heap a (.tup xs) from I.hok a _ ea)
  obtain ⟨o,h1,h2,_⟩:=p
  exact PySem.W.kia_one PySem.W.kitx_tuple I.kIn ⟨o,h1,h2⟩ e (fun z=>nomatch z) h
 | @dK a kvs ea =>
  cases (show u=Value.ref a from rx)
  obtain ⟨_,_,vs,_,p⟩:=(show ObjOk X.prog X.w H s.heap a (.dK kvs) from I.hok a _ ea)
  obtain ⟨o,es,ep,h1,h2,_⟩:=p
  exact PySem.W.kia_one PySem.W.kitx_dict I.kIn ⟨o,h1,h2.1⟩ e (fun z=>nomatch z) h
 | @dT a kvs ea =>
  cases (show u=Value.ref a from rx)
  obtain ⟨_,_,xs,_,o,es,ep,h1,h2,_⟩:=(show ObjOk X.prog X.w H s.heap a (.dT kvs) from I.hok a _ ea)
  exact PySem.W.kia_one PySem.W.kitx_dict I.kIn ⟨o,h1,h2.1⟩ e (fun z=>nomatch z) h
 | @ins a C dx fs ea cl ha hn htk hm =>
  cases (show u=Value.ref a from rx)
  obtain ⟨mA,O,_⟩:=ins_get I.hok ea
  obtain ⟨od,J,_⟩:=O.look
  exact PySem.W.kia_one (PySem.W.kitx_own (cl.get _) cl.hd ha hn htk hm) I.kIn J e (fun z=>nomatch z) h
end
end L2
namespace L2
open PySem PySem.Spec PyProof.Rows
structure Room (k:Nat) (A:Around):Prop where
 hd:A.handled=none
 dp:A.depth + 3 * k + 5<recursionLimit
 un:A.units + 16 * k + 200<cLine
theorem Room.mono {j k:Nat} {A:Around} (r:Room k A) (h:j≤k):Room j A:=⟨r.hd,by have:=r.dp;omega,by have:=r.un;omega⟩
theorem Room.deeper {k:Nat} {A:Around} (r:Room (k + 1) A) (env:Env):Room k (A.deeper env) :=
 ⟨r.hd,by have:=r.dp;show A.depth + 1 + 3 * k + 5<_;omega,by have:=r.un;show A.units + 3 + 16 * k + 200<_;omega⟩
theorem make_depth {A:Around} {C:Addr} {us:List Value} {kw:List (Str × Value)}:(A.under (.builtin "type.__call__" ⟨.ref C::us,kw⟩)).depth=A.depth + 1:=by
 first | rfl | simp [Around.under,Code.weight,Code.isCreation,Code.isGuard,Code.isCaller,Code.frames,Code.isFrame,guardIds]
theorem make_units {A:Around} {C:Addr} {us:List Value} {kw:List (Str × Value)}:(A.under (.builtin "type.__call__" ⟨.ref C::us,kw⟩)).units=A.units + 1:=by
 first | rfl | simp [Around.under,Code.cUnits,Code.frames,Code.isFrame]
theorem Room.make {k:Nat} {A:Around} (r:Room (k + 1) A) (C:Addr) (us:List Value) (kw:List (Str × Value)):Room k (A.under (.builtin "type.__call__" ⟨.ref C::us,kw⟩)) :=
 ⟨r.hd,by have:=r.dp;rw [make_depth];omega,by have:=r.un;rw [make_units];omega⟩
theorem Room.depth {k:Nat} {A:Around} (r:Room k A):A.depth<recursionLimit:=by have:=r.dp;omega
theorem Room.units {k:Nat} {A:Around} (r:Room k A):A.units + 64<cLine:=by have:=r.un;omega
def tNil:TA:=fun _ H Q=>Q [] H
def tCons (ta:TE) (tr:TA):TA:=fun σ H Q=>ta σ H fun x H1=>tr σ H1 fun xs H2=>Q (x::xs) H2
section
variable {X:Cx} {e:Expr} {es:List Expr} {te:TE} {t:TA} {pos:Pos}
theorem pa_nil:PA X [] tNil:=fun _ _ _ _ H Q I h=>Calls.spliced_nil ⟨[],H,I,.nil,h⟩
theorem pa_cons (ha:PE X e te) (hr:PA X es t) (hs:starEach (e::es) X.env=(false,eval e X.env)::starEach es X.env:=by rfl):PA X (e::es) (tCons te t):=by
 intro pos pins s σ H Q I h
 rw [hs]
 show wpAny _ _ (spliced ((false,eval e X.env)::backTo pos (starEach es X.env))) _ _ s
 refine Calls.spliced_cons (thn (ha pins s σ H _ I h) fun u s1 ⟨x,H1,I1,r1,q1⟩=>?_)
 exact thn (hr pos pins s1 σ H1 _ I1 q1) fun us s2 ⟨xs,H2,I2,r2,q2⟩=>⟨x::xs,H2,I2,.cons r1 r2,q2⟩
def tTup (t:TA):TE:=fun σ H Q=>t σ H fun xs H1=>xs.length≤sizeLine∧∀ p,H1 p=none→Q (.ref p) (upd H1 p (.tup xs))
def tLst (t:TA):TE:=fun σ H Q=>t σ H fun xs H1=>xs.length≤sizeLine∧∀ p,H1 p=none→Q (.ref p) (upd H1 p (.lst xs))
theorem pe_tup {x1} (h:PA X es t):PE X (.Tuple es x1 pos) (tTup t):=by
 intro pins s σ H Q I hq
 refine wpAny_Tuple_spliced (thn (h pos pins s σ H _ I hq) fun us s1 ⟨xs,H1,I1,r,z,q⟩=>⟨by rw [← r.length];exact z,?_⟩)
 have hf:H1 s1.heap.objs.size=none:=I1.hok.fresh (Nat.le_refl _)
 refine ⟨.ref s1.heap.objs.size,upd H1 s1.heap.objs.size (.tup xs),I1.laid (t':=s1.toks) (fun b u e=>Heap.get?_push_of_some _ e) (Nat.le_refl _) ?_,rfl,q _ hf⟩
 exact ⟨z,us,r,⟨_,Heap.get?_push_size _ rfl,rfl,_,rfl⟩⟩
theorem pe_lst (h:PA X es t):PE X (.List es pos) (tLst t):=by
 intro pins s σ H Q I hq
 refine wpAny_List_spliced (thn (h pos pins s σ H _ I hq) fun us s1 ⟨xs,H1,I1,r,z,q⟩=>⟨by rw [← r.length];exact z,?_⟩)
 have hf:H1 s1.heap.objs.size=none:=I1.hok.fresh (Nat.le_refl _)
 refine ⟨.ref s1.heap.objs.size,upd H1 s1.heap.objs.size (.lst xs),I1.laid (t':=s1.toks) (fun b u e=>Heap.get?_push_of_some _ e) (Nat.le_refl _) ?_,rfl,q _ hf⟩
 exact ⟨z,us,0,r,Heap.get?_push_size _ rfl⟩
end
abbrev Sp:=List V→Hp→VK→XK→Prop
abbrev CXT:=List Env→Hp→Shared→XK→Value→Shared→Prop
structure Env0 (P:Program) (w:World) (K:PySem.W.Frag) (mg:Str→Option Value) (base:Heap) (A:Around) (outer:List Env) (s:Shared) (H:Hp):Prop where
 frames:A.frames=some outer
 mod:Mod K mg base
 bs:∀ b o,base.get? b=some o→s.heap.get? b=some o∧H b=none
 bsz:base.objs.size≤s.heap.objs.size
 funs:s.heap.FunFrames base outer
 frf:∀ b∈frs outer,H b=none
 hok:HOk P w H s.heap
 bare:AllBare s.gens
def CE (outer:List Env) (P:Program) (w:World) (H:Hp) (s:Shared) (Q:VK) (u:Value) (s':Shared):Prop :=
 ∃ v H',s'.os=s.os∧AllBare s'.gens∧Un (frs outer) [] H H' s.heap s'.heap∧HOk P w H' s'.heap∧RelV v u∧Q v H'
def CR (CX:CXT) (outer:List Env) (P:Program) (w:World) (H:Hp) (s:Shared) (Q:VK) (E:XK) (r:Result) (s':Shared):Prop :=
 match r with
 | .ok (.ret u)=>CE outer P w H s Q u s'
 | .ok _=>False
 | .error e=>CX outer H s E e s'
structure FnOk (P:Program) (w:World) (K:PySem.W.Frag) (mg:Str→Option Value) (base:Heap) (CX:CXT) (k:Nat) (f:Addr) (fd:FuncData) (ps:List Str) (sp:Sp):Prop where
 len:∀ vs H Q E,sp vs H Q E→vs.length=ps.length
 run:∀ (A:Around) (outer:List Env) (s:Shared) (H:Hp) (args:Args) (us:List Value) (vs:List V) (Q:VK) (E:XK),Room k A→Env0 P w K mg base A outer s H→BindsTo s fd args (ps.zip us)→Vals vs us→sp vs H Q E →
  codeAny (model P w) A (.call (.ref f) args) (CR CX outer P w H s Q E) s
theorem Env0.make {P:Program} {w:World} {K:PySem.W.Frag} {mg:Str→Option Value} {base:Heap} {A:Around} {outer:List Env} {s:Shared} {H:Hp} (e:Env0 P w K mg base A outer s H) (C:Addr) (us:List Value) (kw:List (Str × Value)) :
  Env0 P w K mg base (A.under (.builtin "type.__call__" ⟨.ref C::us,kw⟩)) outer s H:=⟨by first | exact e.frames | (simpa [Around.under,Code.envs,Code.isFrame,pushEnvs] using e.frames),e.mod,e.bs,e.bsz,e.funs,e.frf,e.hok,e.bare⟩
section
variable {X:Cx} {pins:List (Addr × Obj)} {σ:St} {H:Hp} {s s':Shared}
theorem Inv.env0 (I:Inv X pins σ H s):Env0 X.prog X.w X.K X.mg X.base X.A X.stack s H :=
 ⟨I.ok.frames,I.ok.mod,I.bs,Nat.le_trans I.ok.bsz I.sz,I.stack,I.stkFree,I.hok,I.bare⟩
theorem Inv.after {Q:VK} {u:Value} (I:Inv X pins σ H s) (h:CE X.stack X.prog X.w H s Q u s'):EP X pins σ Q u s':=by
 obtain ⟨v,H',os,bare,un,hok,r,q⟩:=h
 obtain ⟨hh,g,d,t,os'⟩:=s'
 obtain rfl:os'=s.os:=os
 exact ⟨v,H',I.call (h':=hh) (g':=g) (d':=d) (t':=t) (ch:=[]) un hok bare (fun b z=>absurd z (by simp)),r,q⟩
end
def tCall (sp:Sp) (dvs:List V) (E:XK) (t:TA):TE:=fun σ H Q=>t σ H fun vs H1=>sp (vs++dvs) H1 Q E
def Binds (K:PySem.W.Frag) (fd:FuncData) (ps:List Str) (ds:List Value):Prop :=
 ∀ (s:Shared) (us:List Value),K.In s.heap→(us++ds).length=ps.length→BindsTo s fd ⟨us,[]⟩ (ps.zip (us++ds))
theorem Binds.all {K:PySem.W.Frag} {fd:FuncData} {ps:List Str} (h:∀ us:List Value,us.length=ps.length→bindArgs fd ⟨us,[]⟩=pure (ps.zip us)):Binds K fd ps []:=fun s us _ hl=>by
 rw [List.append_nil] at hl ⊢
 exact .of_eq (h us hl)
def Passes (CX:CXT) (X:Cx) (E:XK):Prop:=∀ (pins:List (Addr × Obj)) (σ:St) (H:Hp) (s:Shared) (e:Value) (s':Shared),Inv X pins σ H s→CX X.stack H s E e s'→X.xe e s'
section
variable {X:Cx} {CX:CXT} {k:Nat} {f C:Addr} {fd:FuncData} {ps:List Str} {sp:Sp} {dvs:List V} {ds:List Value} {E:XK} {x m:Str} {p pos apos:Pos} {e o:Expr} {es:List Expr} {ta:TE} {t:TA}
theorem run_fn {pins:List (Addr × Obj)} {σ:St} {H:Hp} {s:Shared} {Q:VK} {us:List Value} {vs:List V} (F:FnOk X.prog X.w X.K X.mg X.base CX k f fd ps sp) (hr:Room k X.A) (hb:Binds X.K fd ps ds) (hd:Vals dvs ds) (hx:Passes CX X E)
  (I:Inv X pins σ H s) (r:Vals vs us) (h:sp (vs++dvs) H Q E):wpAny (model X.prog X.w) X.A (call (.ref f) us) (EP X pins σ Q) X.xe s:=by
 have r2:Vals (vs++dvs) (us++ds):=r.append hd
 have hl:(us++ds).length=ps.length:=by rw [← r2.length];exact F.len _ _ _ _ h
 refine wpAny_call (codeAny_mono (F.run X.A X.stack s H ⟨us,[]⟩ (us++ds) (vs++dvs) Q E hr I.env0 (hb s us I.kIn hl) r2 h) fun r s' hq=>?_)
 cases r with
 | error e=>exact hx pins σ H s e s' I hq
 | ok fl =>
  cases fl with
  | ret u=>exact I.after hq
  | next=>exact False.elim hq
  | brk=>exact False.elim hq
  | cont=>exact False.elim hq
theorem pe_call (F:FnOk X.prog X.w X.K X.mg X.base CX k f fd ps sp) (hr:Room k X.A) (hg:Gl X x) (hm:X.mg x=some (.ref f)) (hk:PySem.W.keepIn X.K (.ref f)=true) (hb:Binds X.K fd ps ds) (hd:Vals dvs ds) (hx:Passes CX X E)
  (ha:PA X (e::es) t) (hdb:(x == ("__debug__":Str))=false:=by decide) (he:starEach (e::es) X.env=(false,eval e X.env)::starEach es X.env:=by rfl) (hpl:(backTo pos (starEach es X.env)).any (·.1)=false:=by rfl) :
  PE X (.Call (.Name x p) (e::es) [] pos) (tCall sp dvs E t):=by
 intro pins s σ H Q I h
 refine wpAny_Call_Name_kw (ld_glob I hg hm ?_ hdb)
 refine PySem.W.callWith_K (h₀:=X.base) I.ok.mod.kin hk (thn (ha pos pins s σ H _ I h) fun us s1 ⟨vs,H1,I1,r,q⟩=>⟨I1.kIn,?_⟩) he hpl
 exact run_fn F hr hb hd hx I1 r q
structure Mk (K:PySem.W.Frag) (C f:Addr):Prop where
 makes:PySem.W.makesIn K C=true
 init:PySem.W.findIn K (.ref C) "__init__" = some (some (.ref f))
 fn:PySem.W.isFn K (.ref f)=true
 kp:PySem.W.keepIn K (.ref C)=true
end
section
variable {X:Cx} {CX:CXT} {k:Nat} {f C:Addr} {fd:FuncData} {ps ks:List Str} {sp:Sp} {E:XK} {x m:Str} {p pos apos kpos:Pos} {e o:Expr} {es:List Expr} {kws:List Keyword} {te ta:TE} {t tk:TA} {nm:Option Str}
structure KBinds (K:PySem.W.Frag) (fd:FuncData) (ps ks:List Str) (g:List Value→List Value→List Value) (gV:List V→List V→List V):Prop where
 to:∀ (s:Shared) (us ws:List Value),K.In s.heap→(g us ws).length=ps.length→BindsTo s fd ⟨us,ks.zip ws⟩ (ps.zip (g us ws))
 rel:∀ {vs:List V} {us:List Value} {zs:List V} {ws:List Value},Vals vs us→Vals zs ws→Vals (gV vs zs) (g us ws)
variable {g:List Value→List Value→List Value} {gV:List V→List V→List V}
end
structure FnScope (N P:List Str) (sc:Scope):Prop where
 kind:sc.kind = .function
 co:sc.isCoroutine=false
 gen:sc.isGenerator=false
 nd:N.Nodup
 pre:N.take P.length=P
 par:∀ x∈P,sc.names.lookup x=some .local∨sc.names.lookup x=some .cell
 nofree:∀ y∈sc.names,y.2≠.free
theorem bindL_out {kindOf:Str→Option NameKind} {x:Str}:∀ {binds:List (Str × Value)} {m:Str→Option Value},(∀ v,(x,v) ∉ binds)→bindL kindOf binds m x=m x
 | [],_,_=>rfl
 | (n,v)::r,m,h=>by
  unfold bindL
  rw [bindL_out fun w hw=>h w (List.mem_cons_of_mem _ hw)]
  split
  ·have:x≠n:=by rintro rfl;exact h v List.mem_cons_self
   simp [this]
  ·rfl
theorem bindC_out {kindOf:Str→Option NameKind} {x:Str}:∀ {binds:List (Str × Value)} {m:Str→Option Value},(∀ v,(x,v) ∉ binds)→bindC kindOf binds m x=m x
 | [],_,_=>rfl
 | (n,v)::r,m,h=>by
  unfold bindC
  rw [bindC_out fun w hw=>h w (List.mem_cons_of_mem _ hw)]
  split
  ·rfl
  ·have:x≠n:=by rintro rfl;exact h v List.mem_cons_self
   simp [this]
theorem bindL_get {kindOf:Str→Option NameKind} {x:Str} {v:Value}:∀ {P:List Str} {vs:List Value} {i:Nat} {m:Str→Option Value},P.Nodup→P[i]? = some x→vs[i]? = some v→kindOf x=some .local →
  bindL kindOf (P.zip vs) m x=some v
 | [],_,_,_,_,h,_,_=>by simp at h
 | _::_,[],_,_,_,_,h,_=>by simp at h
 | p::P,w::vs,0,m,nd,h1,h2,hk=>by
  simp at h1 h2;subst h1;subst h2
  show bindL kindOf ((p,w)::P.zip vs) m p=_
  unfold bindL
  rw [bindL_out fun v hv=>(List.nodup_cons.mp nd).1 (List.of_mem_zip hv).1,if_pos hk]
  simp
 | p::P,w::vs,i + 1,m,nd,h1,h2,hk=>by
  show bindL kindOf ((p,w)::P.zip vs) m x=_
  unfold bindL
  exact bindL_get (i:=i) (List.nodup_cons.mp nd).2 (by simpa using h1) (by simpa using h2) hk
theorem bindC_get {kindOf:Str→Option NameKind} {x:Str} {v:Value}:∀ {P:List Str} {vs:List Value} {i:Nat} {m:Str→Option Value},P.Nodup→P[i]? = some x→vs[i]? = some v→kindOf x≠some .local →
  bindC kindOf (P.zip vs) m x=some v
 | [],_,_,_,_,h,_,_=>by simp at h
 | _::_,[],_,_,_,_,h,_=>by simp at h
 | p::P,w::vs,0,m,nd,h1,h2,hk=>by
  simp at h1 h2;subst h1;subst h2
  show bindC kindOf ((p,w)::P.zip vs) m p=_
  unfold bindC
  rw [bindC_out fun v hv=>(List.nodup_cons.mp nd).1 (List.of_mem_zip hv).1,if_neg hk]
  simp
 | p::P,w::vs,i + 1,m,nd,h1,h2,hk=>by
  show bindC kindOf ((p,w)::P.zip vs) m x=_
  unfold bindC
  exact bindC_get (i:=i) (List.nodup_cons.mp nd).2 (by simpa using h1) (by simpa using h2) hk
def start (N:List Str) (vs:List V):St:=vs.map some++List.replicate (N.length - vs.length) none
def cxOf (CX:CXT) (P:Program) (w:World) (K:PySem.W.Frag) (mg:Str→Option Value) (base:Heap) (N:List Str) (qual:Str) (scope:Scope) (f:Addr) (cd:Value) (A:Around) (outer:List Env) (s:Shared) (H:Hp) (E:XK):Cx where
 prog:=P
 w:=w
 K:=K
 mg:=mg
 base:=base
 A:=A.deeper (envOfC qual scope s.heap.objs.size f cd)
 N:=N
 s₀:=s
 H₀:=H
 env:=envOfC qual scope s.heap.objs.size f cd
 outer:=outer
 stack:=envOfC qual scope s.heap.objs.size f cd::outer
 ex:=[]
 calm:=true
 fn:=fun _=>true
 pn:=[]
 xe:=fun e s'=>wpAny (model P w) (A.deeper (envOfC qual scope s.heap.objs.size f cd)) (leaving (envOfC qual scope s.heap.objs.size f cd) e) (fun _ s''=>CX outer H s E e s'') (fun e' s''=>CX outer H s E e' s'') s'
theorem cell_has {sc:Scope} {n:Nat} {x:Str} (h:sc.names.lookup x=some .cell):∃ c,(cellsFrom n sc.names []).lookup x=some c:=by
 have q:=PySem.W.cellsFrom_some sc.names n [] (.inl h)
 exact Option.isSome_iff_exists.mp q
theorem inv_start {CX:CXT} {P:Program} {w:World} {K:PySem.W.Frag} {mg:Str→Option Value} {base:Heap} {N ps:List Str} {qual:Str} {scope:Scope} {f:Addr} {cd:Value} {A:Around} {outer:List Env} {s s1:Shared} {H:Hp} {E:XK} {us:List Value} {vs:List V}
  (S:FnScope N ps scope) (hd:A.handled=none) (e0:Env0 P w K mg base A outer s H) (hl:vs.length=ps.length) (r:Vals vs us)
  (x:InCallC s s.heap.objs.size (bindL (envOfC qual scope s.heap.objs.size f cd).kindOf (ps.zip us) fun _=>none) (cellsFrom (s.heap.objs.size + 1) scope.names []) (bindC (envOfC qual scope s.heap.objs.size f cd).kindOf (ps.zip us) fun _=>none) s1) :
  Inv (cxOf CX P w K mg base N qual scope f cd A outer s H E) [] (start N vs) H s1:=by
 have hpl:ps.length≤N.length:=by have:=congrArg List.length S.pre;rw [List.length_take] at this;omega
 obtain ⟨h1,tk,rfl,hk⟩:=x.done
 have noA:∀ b:Addr,b ∉ (cxOf CX P w K mg base N qual scope f cd A outer s H E).ex:=fun b z=>absurd (show b∈([]:List Addr) from z) (by simp)
 refine ⟨⟨e0.mod,S.kind,rfl,rfl,Nat.le_refl _,fun y z c h1 h2=>?_,fun y hy=>?_,fun y c _ h=>?_,fun _=>hd,Around.frames_deeper e0.frames,.inr ⟨rfl,rfl⟩,fun b z=>absurd z (noA b),e0.bs,e0.bsz,fun b _ _=>noA b,fun b z=>absurd z (noA b),e0.funs,e0.frf⟩,
  rfl,e0.bare,Un.kept hk,⟨_,x.toInCall.ns,fun i y v h1 h2 h3=>?_⟩,fun y c h=>⟨_,x.cell y c h⟩,e0.hok.fresh (Nat.le_refl _),fun y c h=>?_,fun p hp=>absurd (show p∈([]:List (Addr × Obj)) from hp) (by simp),e0.hok.kept hk,?_⟩
 ·exact name_of_addr x.apart (PySem.mem_of_lookup h1) (PySem.mem_of_lookup h2)
 ·have hy:scope.names.lookup y=some .cell∨scope.names.lookup y=some .free:=hy
  rcases hy with hy | hy
  ·exact cell_has hy
  ·exact absurd rfl (S.nofree _ (PySem.mem_of_lookup hy))
 ·exact Nat.le_of_lt (x.above y c (PySem.mem_of_lookup h))
 ·have hi:i<vs.length:=by
   unfold start at h2
   by_cases hi:i<vs.length
   ·exact hi
   ·rw [List.getElem?_append_right (by simpa using hi)] at h2
    rw [List.getElem?_replicate] at h2
    split at h2 <;> cases h2
  have ha:vs[i]? = some v:=by
   unfold start at h2
   rw [List.getElem?_append_left (by simpa using hi),List.getElem?_map] at h2
   cases e:vs[i]? with
   | none=>rw [e] at h2;cases h2
   | some a=>rw [e] at h2;cases h2;rfl
  obtain ⟨u,hu,rv⟩:=r.get ha
  have hp:ps[i]? = some y:=by
   rw [← S.pre,List.getElem?_take_of_lt (by omega)];exact h1
  have ndP:ps.Nodup:=by rw [← S.pre];exact S.nd.sublist (List.take_sublist _ _)
  refine ⟨u,rv,?_⟩
  rcases S.par y (List.mem_of_getElem? hp) with k | k
  ·exact .inl ⟨k,bindL_get ndP hp hu k⟩
  ·obtain ⟨c,e⟩:=cell_has (n:=s.heap.objs.size + 1) k
   refine .inr ⟨.inl k,c,e,?_⟩
   have q:=x.cell y c e
   rw [bindC_get ndP hp hu (by show scope.names.lookup y≠_;rw [k];decide)] at q
   exact q
 ·exact e0.hok.fresh (Nat.le_of_lt (x.above y c (PySem.mem_of_lookup h)))
 ·unfold start
  show _=N.length
  rw [List.length_append,List.length_map,List.length_replicate]
  omega
theorem fn_of {CX:CXT} {P:Program} {w:World} {K:PySem.W.Frag} {mg:Str→Option Value} {base:Heap} {k:Nat} {f:Addr} {name qual:Str} {params:Arguments} {body:List Stmt} {scope:Scope} {dV kV doc pm cdv ct oc:Value} {an od:Option Addr}
  {osl:Array (Option Value)} {N ps:List Str} {sp:Sp} (lk:K.lookup f=some ⟨oc,od,.func (PySem.W.fnOf name qual params body scope dV kV doc pm an cdv ct),osl⟩) (hcd:PySem.W.codeIn K cdv qual=true) (S:FnScope N ps scope)
  (len:∀ vs H Q E,sp vs H Q E→vs.length=ps.length)
  (hbody:∀ (A:Around) (outer:List Env) (s:Shared) (H:Hp) (vs:List V) (Q:VK) (E:XK),Room k (A.deeper (envOfC qual scope s.heap.objs.size f cdv))→sp vs H Q E →
   ∃ t,PSs (cxOf CX P w K mg base N qual scope f cdv A outer s H E) body t∧t { nx:=fun _ H'=>Q .non H',rt:=Q } (start N vs) H) :
  FnOk P w K mg base CX (k + 1) f (PySem.W.fnOf name qual params body scope dV kV doc pm an cdv ct) ps sp:=by
 refine ⟨len,fun A outer s H args us vs Q E hr e0 hb r hsp=>?_⟩
 have hl:=len _ _ _ _ hsp
 have KX:K.In s.heap:=e0.mod.kin.keeps fun b o e=>(e0.bs b o e).1
 have lim:s.heap.NoLimit:=e0.mod.nolimit.keeps fun b o e=>(e0.bs b o e).1
 have hkind:∀ y∈ps.zip us,scope.names.lookup y.1=some .local∨(scope.names.lookup y.1=some .cell∧((cellsFrom (s.heap.objs.size + 1) scope.names []).lookup y.1).isSome=true):=fun ⟨n,v⟩ hy=>by
  rcases S.par n (List.of_mem_zip hy).1 with q | q
  ·exact .inl q
  ·exact .inr ⟨q,PySem.W.cellsFrom_some _ _ _ (.inl q)⟩
 refine codeAny_call_function hr.depth (KX _ _ lk) rfl S.co S.gen rfl (PySem.W.codeRec_of KX hcd) (hb _ _ _ _ ?_)
 refine wpAny_newFunctionEnv_cells S.kind hkind fun env he s1 x=>?_
 subst he
 refine ⟨lim.keeps x.toInCall.keep,codeAny_func ?_⟩
 obtain ⟨t,ht,hq⟩:=hbody A outer s H vs Q E (hr.deeper _) hsp
 have I:Inv (cxOf CX P w K mg base N qual scope f cdv A outer s H E) [] (start N vs) H s1:=inv_start S hr.hd e0 hl r x
 refine wpAny_mono (ht [] s1 (start N vs) H _ I hq) (fun fl s' hs=>?_) fun e s' hs=>hs
 have fin:∀ {σ':St} {H':Hp} {v:V} {u:Value},Inv (cxOf CX P w K mg base N qual scope f cdv A outer s H E) [] σ' H' s'→RelV v u→Q v H'→CE outer P w H s Q u s' :=
  fun {σ' H' v u} J rv q=>⟨v,H',J.os,J.bare,J.base,J.hok,rv,q⟩
 cases fl with
 | ret u =>
  obtain ⟨v,σ',H',J,rv,q⟩:=hs
  exact fin J rv q
 | next =>
  obtain ⟨σ',H',J,q⟩:=hs
  exact fin (v:=V.non) (u:=Value.none) J rfl q
 | brk =>
  obtain ⟨_,_,_,q⟩:=hs
  exact False.elim q
 | cont =>
  obtain ⟨_,_,_,q⟩:=hs
  exact False.elim q
end L2
namespace L2
open PySem PySem.Spec PyProof.Rows
section
variable {X:Cx} {x:Str} {p pos:Pos} {e:Expr} {es:List Expr} {t:TA} {id T:String} {r:List V→Hp→VK→Prop}
def tCB (r:List V→Hp→VK→Prop) (t:TA):TE:=fun σ H Q=>t σ H fun vs H1=>r vs H1 Q
theorem pe_callB (hc:CallR X (.builtin id) r) (hg:Gl X x) (hm:X.mg x=none) (hv:bootBuiltins x=some (.builtin id)) (ha:PA X (e::es) t) (hn:x≠"__name__":=by decide) (hdb:(x == ("__debug__":Str))=false:=by decide)
  (he:starEach (e::es) X.env=(false,eval e X.env)::starEach es X.env:=by rfl) (hpl:(backTo pos (starEach es X.env)).any (·.1)=false:=by rfl):PE X (.Call (.Name x p) (e::es) [] pos) (tCB r t):=by
 intro pins s σ H Q I h
 refine wpAny_Call_Name_kw (ld_blt I hg hm hv ?_ hn hdb)
 exact PyProof.Rows.callWith_builtin1 (thn (ha pos pins s σ H _ I h) fun us s1 ⟨vs,H1,I1,r1,q1⟩=>hc pins s1 σ H1 vs us Q I1 r1 q1) he hpl
theorem pe_callTy (hc:CallR X (.type T) r) (hg:Gl X x) (hm:X.mg x=none) (hv:bootBuiltins x=some (.type T)) (ha:PA X (e::es) t) (hn:x≠"__name__":=by decide) (hdb:(x == ("__debug__":Str))=false:=by decide)
  (he:starEach (e::es) X.env=(false,eval e X.env)::starEach es X.env:=by rfl) (hpl:(backTo pos (starEach es X.env)).any (·.1)=false:=by rfl):PE X (.Call (.Name x p) (e::es) [] pos) (tCB r t):=by
 intro pins s σ H Q I h
 refine wpAny_Call_Name_kw (ld_blt I hg hm hv ?_ hn hdb)
 exact PyProof.Rows.callWith_type1 (thn (ha pos pins s σ H _ I h) fun us s1 ⟨vs,H1,I1,r1,q1⟩=>hc pins s1 σ H1 vs us Q I1 r1 q1) he hpl
end
end L2
namespace HT
open PySem PyProof.Rows
def lexLt:List Int→List Int→Bool
 | [],[]=>false
 | [],_::_=>true
 | _::_,[]=>false
 | x::xs,y::ys=>if x=y then lexLt xs ys else decide (x<y)
section
open PySem.SeqAt
open PySem.AutoSeq1 (wpAny_loadPart')
open PySem.MeetsSeq PySem.MeetsSeq2 PySem.MeetsSeq3
end
section
variable {prog:Program} {w:World} {A:Around} {E:Value→Shared→Prop} {s:Shared}
theorem cat_tup {t b:Addr} {vs ws:List Value} {Q:Value→Shared→Prop} (ht:IsTup s.heap t vs.toArray) (hb:IsTup s.heap b ws.toArray) (hv:vs≠[])
  (h1:ws=[]→Q (.ref t) s) (h2:ws≠[]→Q (.ref s.heap.objs.size) { s with heap:=s.heap.push { cls:=.type "tuple",data:=.seq (vs++ws).toArray } })
  (hsz:vs.length + ws.length≤sizeLine):wpAny (model prog w) A (binaryOp .Add (.ref t) (.ref b)) Q E s:=by
 obtain ⟨⟨cls,dd,data,sl⟩,ho,hc,n,hd⟩:=id ht
 obtain ⟨⟨cls2,dd2,data2,sl2⟩,ho2,hc2,n2,hd2⟩:=id hb
 simp only at hc hd hc2 hd2
 subst hc hd hc2 hd2
 have e:vs.toArray++ws.toArray=(vs++ws).toArray:=by simp
 by_cases hw:ws=[]
 ·exact concat_meets ⟨_,ho,rfl⟩ ⟨_,ho2,rfl⟩ noFill_tuple_add seq_tuple_add PySem.F.slot_tuple_add PySem.F.entry_tuple_add (PySem.F.args_tuple_add_2 _ _)
   (tuple_addW1 t b vs.toArray ws.toArray n n2 dd dd2 sl sl2 (by simpa using hv) (by simp [hw])) ⟨ho,ho2,h1 hw⟩
 ·refine concat_meets ⟨_,ho,rfl⟩ ⟨_,ho2,rfl⟩ noFill_tuple_add seq_tuple_add PySem.F.slot_tuple_add PySem.F.entry_tuple_add (PySem.F.args_tuple_add_2 _ _)
   (tuple_addW2 t b vs.toArray ws.toArray n n2 dd dd2 sl sl2 (by simpa using hv) (by simpa using hw) (by rw [List.size_toArray,List.size_toArray];exact hsz)) ⟨ho,ho2,?_⟩
  rw [e]
  exact h2 hw
def sIx (n d:Nat):Option Int→Nat
 | none=>d
 | some v=>if v<0 then (v + (n:Int)).toNat else min v.toNat n
theorem sIx_le (n d:Nat) (hd:d≤n) (o:Option Int):sIx n d o≤n:=by
 cases o with
 | none=>exact hd
 | some v =>
  show (if v<0 then (v + (n:Int)).toNat else min v.toNat n)≤n
  by_cases hv:v<0
  ·rw [if_pos hv];omega
  ·rw [if_neg hv];exact Nat.min_le_right _ _
theorem clip_eq (v:Int) (n d:Nat):(if v<0 then max (v + (n:Int)) 0 else min v (n:Int))=((sIx n d (some v):Nat):Int):=by
 show (if v<0 then max (v + (n:Int)) 0 else min v (n:Int))=(((if v<0 then (v + (n:Int)).toNat else min v.toNat n):Nat):Int)
 by_cases hv:v<0
 ·simp only [if_pos hv];omega
 ·simp only [if_neg hv];omega
theorem adjust_gen (lo hi:Option Int) (n:Nat):Builtin.Slice.sliceAdjust lo hi 1 (n:Int)=(((sIx n 0 lo:Nat):Int),((sIx n n hi:Nat):Int)):=by
 have h1:¬ ((1:Int)<0):=by omega
 unfold Builtin.Slice.sliceAdjust
 simp only [h1,if_false]
 refine Prod.ext ?_ ?_
 ·cases lo with
  | none=>rfl
  | some v=>exact clip_eq v n 0
 ·cases hi with
  | none=>rfl
  | some v=>exact clip_eq v n n
theorem places_gen (i j:Nat):Builtin.Slice.slicePlaces (i:Int) (j:Int) 1=j - i:=by
 unfold Builtin.Slice.slicePlaces
 have h1:(1:Int) > 0:=by omega
 simp only [h1,if_true,Int.ediv_one]
 split <;> omega
theorem slicePart_ {v:Value} {o:Option Int} {Q:Option Int→Shared→Prop} (p:IsPart v o) (h:Q o s):wpAny (model prog w) A (Builtin.Slice.slicePartIndex v) Q E s:=by
 cases p with
 | none=>exact slicePart_none h
 | int i t=>exact slicePart_int h
theorem sliceApplied_gen {sl:Addr} {vl vu:Value} {lo hi:Option Int} {n:Nat} {Q:Int × Int × Nat→Shared→Prop} (hs:s.heap.IsSliceOf sl vl vu .none) (pl:IsPart vl lo) (pu:IsPart vu hi)
  (h:Q (((sIx n 0 lo:Nat):Int),1,sIx n n hi - sIx n 0 lo) s):wpAny (model prog w) A (Builtin.Slice.sliceApplied (.ref sl) (pure (n:Int))) Q E s:=by
 obtain ⟨os,hos,hcs,hds⟩:=id hs
 unfold Builtin.Slice.sliceApplied Builtin.Slice.sliceFields
 refine wpAny_bind (wpAny_bind (wpAny_field hos hds (x:=vl) rfl (wpAny_bind (wpAny_field hos hds (x:=vu) rfl (wpAny_bind (wpAny_field hos hds (x:=.none) rfl (wpAny_pure ?_)))))))
 refine wpAny_bind (slicePart_none ?_)
 show wpAny _ _ (if ((1:Int) == 0)=true then _ else _) _ _ s
 rw [if_neg (by decide)]
 refine wpAny_bind (slicePart_ pl (wpAny_bind (slicePart_ pu (wpAny_bind (wpAny_pure ?_)))))
 show wpAny _ _ (match Builtin.Slice.sliceAdjust lo hi 1 (n:Int) with | (lo,hi)=>pure (lo,(1:Int),Builtin.Slice.slicePlaces lo hi 1)) _ _ s
 rw [adjust_gen lo hi n]
 show wpAny _ _ (pure (((sIx n 0 lo:Nat):Int),(1:Int),Builtin.Slice.slicePlaces ((sIx n 0 lo:Nat):Int) ((sIx n n hi:Nat):Int) 1)) _ _ s
 rw [places_gen]
 exact wpAny_pure h
theorem pick_gen (xs:Array Value) (i k:Nat):((List.range k).filterMap fun (m:Nat)=>xs[((i:Int) + (m:Int) * 1).toNat]?).toArray=((xs.toList.drop i).take k).toArray:=by
 have e:(fun (m:Nat)=>xs[((i:Int) + (m:Int) * 1).toNat]?)=fun m=>xs[i + m]?:=by
  funext m
  have:((i:Int) + (m:Int) * 1).toNat=i + m:=by omega
  rw [this]
 rw [e]
 have:=pick_run xs i k
 rw [List.filterMap_map] at this
 have e2:((fun x=>xs[x]?) ∘ fun x=>i + x)=fun m=>xs[i + m]?:=rfl
 rw [e2] at this
 rw [this]
theorem getItem_tuple_cut {t sl:Addr} {items:Array Value} {vl vu:Value} {lo hi:Option Int} {Q:Value→Shared→Prop} (ht:IsTup s.heap t items) (hs:s.heap.IsSliceOf sl vl vu .none) (pl:IsPart vl lo) (pu:IsPart vu hi)
  (hw:¬ (sIx items.size 0 lo=0∧sIx items.size items.size hi=items.size))
  (h:Q (.ref s.heap.objs.size) { s with heap:=s.heap.push { cls:=.type "tuple",data:=.seq ((items.toList.drop (sIx items.size 0 lo)).take (sIx items.size items.size hi - sIx items.size 0 lo)).toArray } })
  (hsz:items.size≤sizeLine):wpAny (model prog w) A (getItem (.ref t) (.ref sl)) Q E s:=by
 have htake:sizeOk (.seq ((items.toList.drop (sIx items.size 0 lo)).take (sIx items.size items.size hi - sIx items.size 0 lo)).toArray):=by
  show ((items.toList.drop (sIx items.size 0 lo)).take (sIx items.size items.size hi - sIx items.size 0 lo)).toArray.size≤sizeLine
  rw [List.size_toArray,List.length_take,List.length_drop,Array.length_toList]
  omega
 have hj:sIx items.size items.size hi≤items.size:=sIx_le _ _ (Nat.le_refl _) hi
 obtain ⟨os,hos,hcs,hds⟩:=id hs
 have hTs:s.TypeIs (.ref sl) "slice":=⟨os,hos,hcs⟩
 unfold getItem
 try with_reducible refine wpAny_holding ?_
 first | refine wpAny_bind (wpAny_pure ?_) | skip
 refine wpAny_bind (wpAny_sequenceKey ht.typeIs (by decide) ?_)
 refine wpAny_bind (wpAny_callSpecial?_slot (name:=Str.ofString "__getitem__") ht.typeIs PyProof.Rows.slot_tuple_getitem
  (wpAny_call_entry PyProof.Rows.slot_tuple_getitem ht.typeIs entry_tuple_getitem ?_ (args_tuple_getitem _ _)))
 show wpAny _ _ (Builtin.Tuple.tupleItemsOf (.ref t) >>= _) _ _ s
 refine wpAny_bind (tupleItemsOf_ ht ?_)
 refine wpAny_bind (wpAny_typeOf hTs ?_)
 rw [if_pos (by decide)]
 refine wpAny_bind (sliceApplied_gen hs pl pu ?_)
 have hno:¬ ((((sIx items.size 0 lo:Nat):Int) == 0 && (1:Int) == 1 && (sIx items.size items.size hi - sIx items.size 0 lo) == items.size)=true):=by
  intro q
  rw [Bool.and_eq_true,Bool.and_eq_true] at q
  have q1:((sIx items.size 0 lo:Nat):Int)=0:=eq_of_beq q.1.1
  have q2:sIx items.size items.size hi - sIx items.size 0 lo=items.size:=eq_of_beq q.2
  exact hw ⟨by omega,by omega⟩
 show wpAny _ _ (if (((sIx items.size 0 lo:Nat):Int) == 0 && (1:Int) == 1 && (sIx items.size items.size hi - sIx items.size 0 lo) == items.size)=true then _ else _) _ _ s
 rw [if_neg hno,pick_gen]
 first
  | exact wpAny_bind (m:=Builtin.Tuple.tupleExact _) (wpAny_newObj_type (wpAny_pure ⟨_,rfl,wpAny_pure h⟩) htake)
  | exact wpAny_bind (m:=Builtin.Tuple.tupleExact _) (wpAny_newObj_type (wpAny_bind (wpAny_pure (wpAny_pure ⟨_,rfl,wpAny_pure h⟩))) htake)
  | exact wpAny_bind (wpAny_bind (m:=Builtin.Tuple.tupleExact _) (wpAny_newObj_type (wpAny_pure (wpAny_pure ⟨_,rfl,wpAny_pure h⟩)) htake))
  | exact wpAny_bind (wpAny_bind (m:=Builtin.Tuple.tupleExact _) (wpAny_newObj_type (wpAny_pure ⟨_,rfl,wpAny_pure h⟩) htake))
end
end HT
namespace L2
open PySem PySem.Spec PyProof.Rows
abbrev TO:=St→Hp→(Option Int→Hp→Prop)→Prop
def PO (X:Cx) (e:Option Expr) (t:TO):Prop :=
 ∀ (pins:List (Addr × Obj)) (s:Shared) (σ:St) (H:Hp) (Q:Option Int→Hp→Prop),Inv X pins σ H s→t σ H Q →
  wpAny (model X.prog X.w) X.A (evalPart e X.env) (fun u s'=>∃ o H',Inv X pins σ H' s'∧IsPart u o∧Q o H') X.xe s
def tNoPart:TO:=fun _ H Q=>Q none H
def tPart (t:TE):TO:=fun σ H Q=>t σ H fun x H1=>∃ i,x = .int i∧Q (some i) H1
theorem intsAre_of {ns:List Int}:∀ {us:List Value},Vals (ns.map V.int) us→IntsAre us ns:=by
 induction ns with
 | nil=>intro us r;rw [List.map_nil] at r;cases r;exact .nil
 | cons n ns ih =>
  intro us r
  rw [List.map_cons] at r
  cases r with
  | cons r1 r2 =>
   obtain ⟨t,e⟩:=r1
   subst e
   exact .cons n t (ih r2)
section
variable {X:Cx} {e:Expr} {te:TE} {lo hi:Option Expr} {tl th:TO} {pos p2:Pos}
theorem po_none:PO X none tNoPart:=by
 intro pins s σ H Q I h
 rw [evalPart_none]
 exact wpAny_pure ⟨none,H,I,.none,h⟩
theorem po_some (h:PE X e te):PO X (some e) (tPart te):=by
 intro pins s σ H Q I hw
 rw [evalPart_some]
 refine thn (h pins s σ H _ I hw) fun u s1 ⟨x,H1,I1,r1,q1⟩=>?_
 obtain ⟨i,rfl,q⟩:=q1
 obtain ⟨t,rfl⟩:=r1
 exact ⟨some i,H1,I1,.int i t,q⟩
def SlR (X:Cx) (r:V→Option Int→Option Int→Hp→VK→Prop):Prop :=
 ∀ (pins:List (Addr × Obj)) (s:Shared) (σ:St) (H:Hp) (x:V) (v vl vu:Value) (lo hi:Option Int) (sl:Addr) (Q:VK),Inv X pins σ H s→RelV x v→s.heap.IsSliceOf sl vl vu .none→IsPart vl lo→IsPart vu hi→r x lo hi H Q →
  ∃ T id,typeLookup (.type T) "__getitem__" = pure (some (.builtin id))∧s.TypeIs v T∧wpAny (model X.prog X.w) X.A (getItem v (.ref sl)) (EP X pins σ Q) X.xe s
def tSl (r:V→Option Int→Option Int→Hp→VK→Prop) (te:TE) (tl th:TO):TE:=fun σ H Q=>te σ H fun x H1=>tl σ H1 fun l H2=>th σ H2 fun u H3=>r x l u H3 Q
theorem pe_slice {r:V→Option Int→Option Int→Hp→VK→Prop} (hr:SlR X r) (he:PE X e te) (hl:PO X lo tl) (hu:PO X hi th):PE X (.Subscript e (.Slice lo hi none p2) pos) (tSl r te tl th):=by
 intro pins s σ H Q I h
 refine Subscript_ (thn (he pins s σ H _ I h) fun v s1 ⟨x,H1,I1,r1,q1⟩=>?_)
 refine wpAny_Slice (thn (hl pins s1 σ H1 _ I1 q1) fun vl s2 ⟨l,H2,I2,pl,q2⟩=>thn (hu pins s2 σ H2 _ I2 q2) fun vu s3 ⟨u,H3,I3,pu,q3⟩=>?_)
 rw [evalPart_none]
 refine wpAny_pure ?_
 have I4:Inv X pins σ H3 { s3 with heap:=s3.heap.push { cls:=.type "slice",data:=.fields #[vl,vu,.none] } }:=I3.kept (t':=s3.toks) fun b ob q=>Heap.get?_push_of_some _ q
 obtain ⟨T,id,hT,ht,hg⟩:=hr pins { s3 with heap:=s3.heap.push { cls:=.type "slice",data:=.fields #[vl,vu,.none] } } σ H3 x v vl vu l u s3.heap.objs.size Q I4 r1 (Heap.IsSliceOf.new ..) pl pu q3
 show wpAny (model X.prog X.w) X.A (subscriptTail e (.Slice lo hi none p2) v (.ref s3.heap.objs.size)) (EP X pins σ Q) X.xe { s3 with heap:=s3.heap.push { cls:=.type "slice",data:=.fields #[vl,vu,.none] } }
 exact tail_any (ops:=[.ref s3.heap.objs.size,v]) ht hT hg (by with_unfolding_all rfl)
def cutV (xs:List V) (lo hi:Option Int):List V:=(xs.drop (HT.sIx xs.length 0 lo)).take (HT.sIx xs.length xs.length hi - HT.sIx xs.length 0 lo)
theorem cutV_length (xs:List V) (lo hi:Option Int):(cutV xs lo hi).length≤xs.length:=by
 unfold cutV
 rw [List.length_take,List.length_drop]
 omega
def rSlT (K:PySem.W.Frag):V→Option Int→Option Int→Hp→VK→Prop:=fun x lo hi H Q=>∃ a xs,x = .ref a∧SqT K H a xs ∧
 ¬ (HT.sIx xs.length 0 lo=0∧HT.sIx xs.length xs.length hi=xs.length)∧∀ p,H p=none→Q (.ref p) (upd H p (.tup (cutV xs lo hi)))
theorem sl_tup:SlR X (rSlT X.K):=by
 intro pins s σ H x v vl vu lo hi sl Q I rx hs pl pu h
 obtain ⟨a,xs,rfl,hx,hw,q⟩:=h
 cases rx
 obtain ⟨its,r,ht,hz⟩:=I.tuple hx
 have hlen:its.toArray.size=xs.length:=by rw [List.size_toArray];exact r.length.symm
 refine ⟨"tuple",_,PyProof.Rows.slot_tuple_getitem.lookup,ht.typeIs,?_⟩
 refine HT.getItem_tuple_cut ht hs pl pu (by rw [hlen];exact hw) ?_ (by rw [hlen];exact hz)
 rw [hlen]
 refine ⟨.ref s.heap.objs.size,_,I.laid (t':=s.toks) (o:=.tup (cutV xs lo hi)) (fun b ob q=>Heap.get?_push_of_some _ q) (Nat.le_refl _) ?_,rfl,q _ (I.hok.fresh (Nat.le_refl _))⟩
 exact ⟨Nat.le_trans (cutV_length xs lo hi) hz,_,(r.drop (HT.sIx xs.length 0 lo)).take (HT.sIx xs.length xs.length hi - HT.sIx xs.length 0 lo),IsTup.new _ _⟩
def rCatT (K:PySem.W.Frag):R2:=fun x y H Q=>∃ a b xs ys,x = .ref a∧y = .ref b∧SqT K H a xs∧SqT K H b ys∧xs≠[]∧xs.length + ys.length≤sizeLine ∧
 (ys=[]→Q (.ref a) H)∧(ys≠[]→∀ p,H p=none→Q (.ref p) (upd H p (.tup (xs++ys))))
theorem Vals.nil_iff {xs:List V} {us:List Value} (r:Vals xs us):us=[] ↔ xs=[]:=by
 cases r with
 | nil=>simp
 | cons _ _=>simp
theorem op_catT:OpR X (binaryOp .Add) (rCatT X.K):=by
 intro pins s σ H x y v u Q I rx ry h
 obtain ⟨a,b,xs,ys,rfl,rfl,ha,hb,hx,hz,q1,q2⟩:=h
 cases rx
 cases ry
 obtain ⟨its,r1,p1,_⟩:=I.tuple ha
 obtain ⟨its2,r2,p2,_⟩:=I.tuple hb
 refine HT.cat_tup p1 p2 (fun z=>hx (r1.nil_iff.mp z)) (fun z=>⟨.ref a,H,I,rfl,q1 (r2.nil_iff.mp z)⟩) (fun z=>?_) (by rw [← r1.length,← r2.length];exact hz)
 refine ⟨.ref s.heap.objs.size,_,I.laid (t':=s.toks) (o:=.tup (xs++ys)) (fun b ob q=>Heap.get?_push_of_some _ q) (Nat.le_refl _) ?_,rfl,q2 (fun w=>z (r2.nil_iff.mpr w)) _ (I.hok.fresh (Nat.le_refl _))⟩
 exact ⟨by rw [List.length_append];exact hz,_,r1.append r2,IsTup.new _ _⟩
end
end L2
namespace L2
open PySem PySem.Spec PyProof.Rows
def ixN (n:Nat) (i:Int):Option Nat:=if 0≤i then (if i<n then some i.toNat else none) else if -(n:Int)≤i then some (i + n).toNat else none
def atI {α:Type} (xs:List α) (i:Int):Option α:=(ixN xs.length i).bind fun j=>xs[j]?
theorem ixN_seq {n:Nat} {i:Int} {j:Nat} (h:ixN n i=some j):seqIndex? i n=some j∧j<n∧-(n:Int)≤i∧i<n:=by
 unfold ixN at h
 by_cases h0:0≤i
 ·rw [if_pos h0] at h
  by_cases h1:i<n
  ·rw [if_pos h1] at h
   have e:i.toNat=j:=Option.some.inj h
   exact ⟨by rw [seqIndex_of h0 h1,e],by omega,by omega,h1⟩
  ·rw [if_neg h1] at h;cases h
 ·rw [if_neg h0] at h
  by_cases h1:-(n:Int)≤i
  ·rw [if_pos h1] at h
   have e:(i + n).toNat=j:=Option.some.inj h
   exact ⟨by rw [seqIndex_neg (by omega) h1,e],by omega,h1,by omega⟩
  ·rw [if_neg h1] at h;cases h
theorem atI_get {α:Type} {xs:List α} {i:Int} {v:α} (h:atI xs i=some v):∃ j,seqIndex? i xs.length=some j∧xs[j]? = some v∧j<xs.length∧-(xs.length:Int)≤i∧i<xs.length:=by
 unfold atI at h
 cases e:ixN xs.length i with
 | none=>rw [e] at h;cases h
 | some j =>
  rw [e] at h
  obtain ⟨h1,h2,h3,h4⟩:=ixN_seq e
  exact ⟨j,h1,h,h2,h3,h4⟩
theorem atI_nat {α:Type} {xs:List α} {j:Nat} {v:α} (h:xs[j]? = some v):atI xs (j:Int)=some v:=by
 have hj:j<xs.length:=(List.getElem?_eq_some_iff.mp h).1
 have e:ixN xs.length (j:Int)=some j:=by
  unfold ixN
  rw [if_pos (by omega),if_pos (by omega)];simp
 unfold atI;rw [e];exact h
theorem atI_last {α:Type} (xs:List α) (v:α):atI (xs++[v]) (-1)=some v:=by
 have hl:(xs++[v]).length=xs.length + 1:=by simp
 have e:ixN (xs++[v]).length (-1)=some xs.length:=by
  unfold ixN
  rw [hl,if_neg (by decide),if_pos (by omega)]
  congr 1
  omega
 unfold atI
 rw [e]
 show (xs++[v])[xs.length]? = some v
 simp
def PlainIx (b:Expr):Prop:=∀ o i,subscripted b false o i=operate [o,i] (getItem o i)
def IxR (X:Cx) (r:R2):Prop :=
 ∀ (value slice:Expr) (pins:List (Addr × Obj)) (s:Shared) (σ:St) (H:Hp) (x y:V) (v u:Value) (Q:VK),Inv X pins σ H s→RelV x v→RelV y u→r x y H Q →
  subscripted slice false v u=operate [v,u] (getItem v u)→wpAny (model X.prog X.w) X.A (subscriptTail value slice v u) (EP X pins σ Q) X.xe s
def MtR (X:Cx) (id:String) (r:V→List V→Hp→VK→Prop):Prop :=
 ∀ (pins:List (Addr × Obj)) (s:Shared) (σ:St) (H:Hp) (x:V) (xs:List V) (v:Value) (us:List Value) (Q:VK),Inv X pins σ H s→RelV x v→Vals xs us→r x xs H Q →
  wpAny (model X.prog X.w) X.A (call (.builtin id) (v::us)) (EP X pins σ Q) X.xe s
section
variable {X:Cx} {a b:Expr} {ta tb:TE} {pos:Pos}
theorem pe_ix {r:R2} (hr:IxR X r) (ha:PE X a ta) (hb:PE X b tb) (hs:PlainIx b):PE X (.Subscript a b pos) (tOp r ta tb):=by
 intro pins s σ H Q I h
 exact Subscript_ (binT ha hb I h fun v u s2 x y H2 I2 rx ry q=>hr a b pins s2 σ H2 x y v u Q I2 rx ry q (hs _ _))
def rIxL (K:PySem.W.Frag):R2:=fun x y H Q=>∃ p xs i v,x = .ref p∧y = .int i∧SqL K H p xs∧atI xs i=some v∧Q v H
def rIxT (K:PySem.W.Frag):R2:=fun x y H Q=>∃ p xs i v,x = .ref p∧y = .int i∧SqT K H p xs∧atI xs i=some v∧Q v H
theorem ix_list:IxR X (rIxL X.K):=by
 intro value slice pins s σ H x y v u Q I rx ry h hs
 obtain ⟨p,xs,i,z,rfl,rfl,hq,he,q⟩:=h
 cases rx
 obtain ⟨t,rfl⟩:=ry
 obtain ⟨its,r,pl,hz⟩:=I.list hq
 obtain ⟨j,h1,h2,h3,h4,h5⟩:=atI_get he
 obtain ⟨w,ew,rw'⟩:=r.get h2
 have hl:=r.length
 have hn:=line63
 have fin:EP X pins σ Q w s:=⟨z,H,I,rw',q⟩
 by_cases h0:0≤i
 ·have hj:i.toNat=j:=by
   rw [seqIndex_of h0 h5] at h1
   exact Option.some.inj h1
  exact item_listR pl.isList h0 (by omega) (by rw [hj];simpa using ew) fin hs
 ·have hj:(i + (its.toArray.size:Int)).toNat=j:=by
   rw [seqIndex_neg (by omega) h4] at h1
   rw [List.size_toArray,← hl]
   exact Option.some.inj h1
  exact subscriptTail_builtinR (x:=w) pl.isList.typeIs slot_list_getitem.lookup
   (wpAny_getItem_list_neg (Q:=fun r s'=>r=w∧EP X pins σ Q r s') pl.isList (by omega) (by rw [List.size_toArray] <;> omega) (by omega) (by rw [hj];simpa using ew) ⟨rfl,fin⟩) hs
theorem ix_tup:IxR X (rIxT X.K):=by
 intro value slice pins s σ H x y v u Q I rx ry h hs
 obtain ⟨p,xs,i,z,rfl,rfl,hq,he,q⟩:=h
 cases rx
 obtain ⟨t,rfl⟩:=ry
 obtain ⟨its,r,pl,hz⟩:=I.tuple hq
 obtain ⟨j,h1,h2,h3,h4,h5⟩:=atI_get he
 obtain ⟨w,ew,rw'⟩:=r.get h2
 have hl:=r.length
 have hn:=line63
 have fin:EP X pins σ Q w s:=⟨z,H,I,rw',q⟩
 exact subscriptTail_builtinR (x:=w) pl.typeIs slot_tuple_getitem.lookup
  (getItem_tuple (j:=j) (Q:=fun r s'=>r=w∧EP X pins σ Q r s') pl (by omega) (by omega) (by rw [List.size_toArray,← hl];exact h1) (by simpa using ew) ⟨rfl,fin⟩) hs
theorem mapSeq_set (its:List Value) (n j:Nat) (u:Value):Obj.mapSeq (·.setIfInBounds j u) { cls:=.type "list",data:=.seq its.toArray n } = { cls:=.type "list",data:=.seq (its.set j u).toArray n }:=by
 simp [Obj.mapSeq]
theorem Inv.lst {pins:List (Addr × Obj)} {σ:St} {H:Hp} {s:Shared} {p:Addr} {xs:List V} (I:Inv X pins σ H s) (h:H p=some (.lst xs)) :
  ∃ (its:List Value) (n:Nat),Vals xs its∧s.heap.get? p=some { cls:=.type "list",data:=.seq its.toArray n }∧xs.length≤sizeLine:=by
 obtain ⟨z,its,n,r,e⟩:=I.hok p _ h
 exact ⟨its,n,r,e,z⟩
theorem Inv.lstUpd {pins:List (Addr × Obj)} {σ:St} {H:Hp} {s:Shared} {p:Addr} {xs ys:List V} {its its':List Value} {n n':Nat} {f:Obj→Obj} (I:Inv X pins σ H s) (h:H p=some (.lst xs))
  (ho:s.heap.get? p=some { cls:=.type "list",data:=.seq its.toArray n }) (hf:f { cls:=.type "list",data:=.seq its.toArray n } = { cls:=.type "list",data:=.seq its'.toArray n' }) (r:Vals ys its') (hz:ys.length≤sizeLine) (t:Nat) :
  Inv X pins σ (upd H p (.lst ys)) { s with heap:=s.heap.update p f,toks:=t }:=by
 have e:(s.heap.update p f).get? p=some { cls:=.type "list",data:=.seq its'.toArray n' }:=by
  rw [Heap.get?_update_self f ho (by rw [hf] <;> rfl),hf]
 refine I.write (x:=p) (e:=p) (by rw [h];trivial) (.inl rfl) (fun b u hb q=>(Heap.get?_update_other _ _ (Ne.symm hb)).trans q) ⟨_,e⟩ ?_
 exact ⟨hz,its',n',r,e⟩
def rSetL:V→V→V→Hp→(Hp→Prop)→Prop:=fun o i v H Q=>∃ p xs k j,o = .ref p∧i = .int k∧H p=some (.lst xs)∧ixN xs.length k=some j∧Q (upd H p (.lst (xs.set j v)))
theorem set_list:PSet X rSetL:=by
 intro pins s σ H o i v ov iv u Q I ro ri rv h
 obtain ⟨p,xs,k,j,rfl,rfl,hp,hj,q⟩:=h
 cases ro
 obtain ⟨t,rfl⟩:=ri
 obtain ⟨its,n,r,ho,hz⟩:=I.lst hp
 obtain ⟨h1,h2,h3,h4⟩:=ixN_seq hj
 have hl:=r.length
 have hn:=line63
 have I':Inv X pins σ (upd H p (.lst (xs.set j v))) { s with heap:=s.heap.update p (Obj.mapSeq (·.setIfInBounds j u)) } :=
  I.lstUpd hp ho (mapSeq_set its n j u) (r.set rv j) (by rw [List.length_set];exact hz) s.toks
 by_cases h0:0≤k
 ·have hk:k.toNat=j:=by
   rw [seqIndex_of h0 h4] at h1
   exact Option.some.inj h1
  exact PySem.W.ki_setAt ho h0 (by omega) (by rw [List.size_toArray,← hl];exact h4) (by rw [hk];exact ⟨_,I',q⟩)
 ·have hk:(k + (its.toArray.size:Int)).toNat=j:=by
   rw [seqIndex_neg (by omega) h3] at h1
   rw [List.size_toArray,← hl]
   exact Option.some.inj h1
  exact PySem.W.ki_setBack ho (by omega) (by rw [List.size_toArray,← hl];exact h3) (by omega) (by rw [hk];exact ⟨_,I',q⟩)
theorem slice_bounds (lo hi:Option Int) (n:Nat):(sliceBounds lo hi none n).1=((HT.sIx n 0 lo:Nat):Int)∧(sliceBounds lo hi none n).2.1=((HT.sIx n n hi:Nat):Int)∧(sliceBounds lo hi none n).2.2=1:=by
 refine ⟨?_,?_,rfl⟩
 ·cases lo with
  | none=>simp [sliceBounds,HT.sIx]
  | some i =>
   simp only [sliceBounds,HT.sIx,Option.getD_none,show (1:Int) > 0 by decide,if_true]
   by_cases h:i<0
   ·simp only [h,if_true] <;> omega
   ·simp only [h,if_false] <;> omega
 ·cases hi with
  | none=>simp [sliceBounds,HT.sIx]
  | some i =>
   simp only [sliceBounds,HT.sIx,Option.getD_none,show (1:Int) > 0 by decide,if_true]
   by_cases h:i<0
   ·simp only [h,if_true] <;> omega
   ·simp only [h,if_false] <;> omega
theorem slicePick_cut (its:List Value) (lo hi:Option Int):slicePick its.toArray lo hi none=((its.drop (HT.sIx its.length 0 lo)).take (HT.sIx its.length its.length hi - HT.sIx its.length 0 lo)).toArray:=by
 obtain ⟨h1,h2,h3⟩:=slice_bounds lo hi its.toArray.size
 unfold slicePick
 rw [h1,h2,h3]
 simp only [sliceRange_one,pick_run,List.size_toArray] <;> rfl
def rSlL (K:PySem.W.Frag):V→Option Int→Option Int→Hp→VK→Prop:=fun x lo hi H Q=>∃ a xs,x = .ref a∧SqL K H a xs∧∀ p,H p=none→Q (.ref p) (upd H p (.lst (cutV xs lo hi)))
theorem sl_list:SlR X (rSlL X.K):=by
 intro pins s σ H x v vl vu lo hi sl Q I rx hs pl pu h
 obtain ⟨a,xs,rfl,hx,q⟩:=h
 cases rx
 obtain ⟨its,r,ht,hz⟩:=I.list hx
 have hlen:=r.length
 refine ⟨"list",_,slot_list_getitem.lookup,ht.isList.typeIs,?_⟩
 refine wpAny_getItem_list_slice ht.isList hs pl pu .none (by simp) ?_ (by rw [List.size_toArray] <;> omega)
 rw [slicePick_cut,← hlen]
 refine ⟨.ref s.heap.objs.size,_,I.laid (t':=s.toks) (o:=.lst (cutV xs lo hi)) (fun b ob q=>Heap.get?_push_of_some _ q) (Nat.le_refl _) ?_,rfl,q _ (I.hok.fresh (Nat.le_refl _))⟩
 exact ⟨Nat.le_trans (cutV_length xs lo hi) hz,_,0,(r.drop (HT.sIx xs.length 0 lo)).take (HT.sIx xs.length xs.length hi - HT.sIx xs.length 0 lo),Heap.get?_push_size _ rfl⟩
def flatV:V→Bool
 | .non=>true
 | .bl _=>true
 | .int _=>true
 | .str _=>true
 | _=>false
def eqV:V→V→Bool
 | .non,.non=>true
 | .bl a,.bl b=>a == b
 | .bl a,.int b=>(if a then 1 else 0) == b
 | .int a,.bl b=>a == (if b then 1 else 0)
 | .int a,.int b=>a == b
 | .str a,.str b=>a == b
 | _,_=>false
theorem eqAt_V {A:Around} {s:Shared} {y x:V} {u v:Value} (ry:RelV y u) (rx:RelV x v) (fy:flatV y=true) (fx:flatV x=true):SeqAt.EqAt A s u v (eqV y x):=by
 cases y with
 | non =>
  cases ry
  cases x with
  | non=>cases rx;exact SeqAt.EqAt.same _
  | bl b=>cases rx;exact SeqAt.EqAt.none_bool b
  | int b=>obtain ⟨t,rfl⟩:=rx;exact SeqAt.EqAt.none_int b t
  | str b=>obtain ⟨t,rfl⟩:=rx;exact SeqAt.EqAt.none_str b t
  | _=>exact absurd (show false=true from fx) Bool.false_ne_true
 | bl a =>
  cases ry
  cases x with
  | non=>cases rx;exact SeqAt.EqAt.bool_none a
  | bl b=>cases rx;exact SeqAt.EqAt.bool_bool a b
  | int b=>obtain ⟨t,rfl⟩:=rx;exact SeqAt.EqAt.bool_int a b t
  | str b=>obtain ⟨t,rfl⟩:=rx;exact SeqAt.EqAt.bool_str a b t
  | _=>exact absurd (show false=true from fx) Bool.false_ne_true
 | int a =>
  obtain ⟨t',rfl⟩:=ry
  cases x with
  | non=>cases rx;exact SeqAt.EqAt.int_none a t'
  | bl b=>cases rx;exact SeqAt.EqAt.int_bool a t' b
  | int b=>obtain ⟨t,rfl⟩:=rx;exact SeqAt.EqAt.int_int a t' b t
  | str b=>obtain ⟨t,rfl⟩:=rx;exact SeqAt.EqAt.int_str a t' b t
  | _=>exact absurd (show false=true from fx) Bool.false_ne_true
 | str a =>
  obtain ⟨t',rfl⟩:=ry
  cases x with
  | non=>cases rx;exact SeqAt.EqAt.str_none a t'
  | bl b=>cases rx;exact SeqAt.EqAt.str_bool a t' b
  | int b=>obtain ⟨t,rfl⟩:=rx;exact SeqAt.EqAt.str_int a t' b t
  | str b=>obtain ⟨t,rfl⟩:=rx;exact SeqAt.EqAt.str_str a t' b t
  | _=>exact absurd (show false=true from fx) Bool.false_ne_true
 | _=>exact absurd (show false=true from fy) Bool.false_ne_true
def eqU (x:V) (u:Value):Bool:=match u with
 | .none=>eqV .non x
 | .bool b=>eqV (.bl b) x
 | .int i _=>eqV (.int i) x
 | .str z _=>eqV (.str z) x
 | _=>false
theorem eqU_of {x y:V} {u:Value} (r:RelV y u) (f:flatV y=true):eqU x u=eqV y x:=by
 cases y with
 | non=>cases r;rfl
 | bl b=>cases r;rfl
 | int i=>obtain ⟨t,rfl⟩:=r;rfl
 | str z=>obtain ⟨t,rfl⟩:=r;rfl
 | _=>exact absurd (show false=true from f) Bool.false_ne_true
theorem any_eqU {x:V}:∀ {xs:List V} {us:List Value},Vals xs us→xs.all flatV=true→us.any (eqU x)=xs.any fun y=>eqV y x
 | _,_,.nil,_=>rfl
 | y::xs,u::us,.cons r t,f=>by
  rw [List.all_cons,Bool.and_eq_true] at f
  rw [List.any_cons,List.any_cons,eqU_of r f.1,any_eqU t f.2]
theorem mem_eqAt {A:Around} {s:Shared} {x:V} {v:Value} (rx:RelV x v) (fx:flatV x=true):∀ {xs:List V} {us:List Value},Vals xs us→xs.all flatV=true→∀ u∈us,SeqAt.EqAt A s u v (eqU x u)
 | _,_,.nil,_=>fun u hu=>by cases hu
 | y::xs,u::us,.cons r t,f=>fun u' hu=>by
  rw [List.all_cons,Bool.and_eq_true] at f
  rcases List.mem_cons.mp hu with rfl | hu
  ·rw [eqU_of r f.1];exact eqAt_V r rx f.1 fx
  ·exact mem_eqAt rx fx t f.2 u' hu
def inV (x:V) (xs:List V):Bool:=xs.any fun y=>eqV y x
def rIn (K:PySem.W.Frag) (neg:Bool):R2:=fun x y H Q=>∃ p xs,y = .ref p∧(SqL K H p xs∨SqT K H p xs)∧flatV x=true∧xs.all flatV=true∧Q (.bl (if neg then !inV x xs else inV x xs)) H
theorem op_in_seq:OpR X (compareOp .In) (rIn X.K false):=by
 intro pins s σ H x y v u Q I rx ry h
 obtain ⟨p,xs,rfl,hq,fx,fs,q⟩:=h
 cases ry
 rcases hq with hq | hq
 ·obtain ⟨its,r,pl,hz⟩:=I.list hq
  refine SeqAt.in_listAt (eqU x) pl.isList (fun w hw=>mem_eqAt rx fx r fs w (by simpa using hw)) ⟨.bl _,H,I,rfl,?_⟩
  rw [show its.toArray.any (eqU x)=its.any (eqU x) by simp,any_eqU r fs]
  exact q
 ·obtain ⟨its,r,pl,hz⟩:=I.tuple hq
  refine SeqAt.in_tupleAt (eqU x) pl (fun w hw=>mem_eqAt rx fx r fs w (by simpa using hw)) ⟨.bl _,H,I,rfl,?_⟩
  rw [show its.toArray.any (eqU x)=its.any (eqU x) by simp,any_eqU r fs]
  exact q
theorem op_notIn_seq:OpR X (compareOp .NotIn) (rIn X.K true):=by
 intro pins s σ H x y v u Q I rx ry h
 obtain ⟨p,xs,rfl,hq,fx,fs,q⟩:=h
 cases ry
 rcases hq with hq | hq
 ·obtain ⟨its,r,pl,hz⟩:=I.list hq
  refine SeqAt.notIn_listAt (eqU x) pl.isList (fun w hw=>mem_eqAt rx fx r fs w (by simpa using hw)) ⟨.bl _,H,I,rfl,?_⟩
  rw [show its.toArray.any (eqU x)=its.any (eqU x) by simp,any_eqU r fs]
  exact q
 ·obtain ⟨its,r,pl,hz⟩:=I.tuple hq
  refine SeqAt.notIn_tupleAt (eqU x) pl (fun w hw=>mem_eqAt rx fx r fs w (by simpa using hw)) ⟨.bl _,H,I,rfl,?_⟩
  rw [show its.toArray.any (eqU x)=its.any (eqU x) by simp,any_eqU r fs]
  exact q
theorem call_len_seq:CallR X (.builtin "len") (fun xs H Q=>∃ p ys,xs=[.ref p]∧(SqL X.K H p ys∨SqT X.K H p ys)∧Q (.int ys.length) H):=by
 intro pins s σ H xs us Q I r h
 obtain ⟨p,ys,rfl,hq,q⟩:=h
 obtain ⟨u,rfl,rx⟩:=vals1 r
 cases rx
 have hn:=line63
 rcases hq with hq | hq
 ·obtain ⟨its,r',pl,hz⟩:=I.list hq
  have hlen:=r'.length
  exact Calls.call_len_list pl.isList (by simp only [List.size_toArray] <;> omega) ⟨.int ys.length,H,I.tok _,⟨s.toks + 1,by rw [List.size_toArray,hlen]⟩,q⟩
 ·obtain ⟨its,r',pl,hz⟩:=I.tuple hq
  have hlen:=r'.length
  exact len_tuple pl (by simp only [List.size_toArray] <;> omega) ⟨.int ys.length,H,I.tok _,⟨s.toks + 1,by rw [List.size_toArray,hlen]⟩,q⟩
theorem call_list_of:CallR X (.type "list") (fun xs H Q=>∃ p ys,xs=[.ref p]∧(SqL X.K H p ys∨SqT X.K H p ys)∧∀ l,H l=none→Q (.ref l) (upd H l (.lst ys))):=by
 intro pins s σ H xs us Q I r h
 obtain ⟨p,ys,rfl,hq,q⟩:=h
 obtain ⟨u,rfl,rx⟩:=vals1 r
 cases rx
 have fin:∀ (its:List Value),Vals ys its→ys.length≤sizeLine→∀ (h':Heap) (c':Nat),(∀ b o',s.heap.get? b=some o'→h'.get? b=some o') →
   h'.get? s.heap.objs.size=some { cls:=.type "list",dict:=none,data:=.seq its.toArray c',slots:=#[] }→EP X pins σ Q (.ref s.heap.objs.size) { s with heap:=h' }:=fun its r' hz h' c' kp e =>
  ⟨.ref s.heap.objs.size,_,I.laid (t':=s.toks) kp (Nat.le_refl _) (show ObjOk X.prog X.w _ h' _ (.lst ys) from ⟨hz,its,c',r',e⟩),rfl,q _ (I.hok.fresh (Nat.le_refl _))⟩
 rcases hq with hq | hq
 ·obtain ⟨its,r',pl,hz⟩:=I.list hq
  have hlen:=r'.length
  obtain ⟨o,ho,hc,n,hd⟩:=pl.isList
  exact call_list_seq p (.inl rfl) ho hc hd (fun h' c' kp e=>fin its r' hz h' c' kp e) (by simp only [List.size_toArray] <;> omega)
 ·obtain ⟨its,r',pl,hz⟩:=I.tuple hq
  have hlen:=r'.length
  obtain ⟨o,ho,hc,n,hd⟩:=pl
  exact call_list_seq p (.inr rfl) ho hc hd (fun h' c' kp e=>fin its r' hz h' c' kp e) (by simp only [List.size_toArray] <;> omega)
theorem call_tuple_of:CallR X (.type "tuple") (fun xs H Q=>∃ p ys,xs=[.ref p]∧((SqL X.K H p ys∧∀ l,H l=none→Q (.ref l) (upd H l (.tup ys)))∨(SqT X.K H p ys∧Q (.ref p) H))):=by
 intro pins s σ H xs us Q I r h
 obtain ⟨p,ys,rfl,h⟩:=h
 obtain ⟨u,rfl,rx⟩:=vals1 r
 cases rx
 rcases h with ⟨hq,q⟩ | ⟨hq,q⟩
 ·obtain ⟨its,r',pl,hz⟩:=I.list hq
  have hlen:=r'.length
  refine call_tuple_list pl.isList (fun h' kp=>?_) (by simp only [List.size_toArray] <;> omega)
  have I1:Inv X pins σ H { s with heap:=h' }:=I.kept (t':=s.toks) kp
  have I2:Inv X pins σ (upd H h'.objs.size (.tup ys)) { s with heap:=h'.push { cls:=.type "tuple",data:=.seq its.toArray } } :=
   I1.laid (t':=s.toks) (fun b o e=>Heap.get?_push_of_some _ e) (Nat.le_refl _) (show ObjOk X.prog X.w _ _ _ (.tup ys) from ⟨hz,its,r',IsTup.new _ _⟩)
  exact ⟨.ref h'.objs.size,_,I2,rfl,q _ (I1.hok.fresh (Nat.le_refl _))⟩
 ·obtain ⟨its,r',pl,hz⟩:=I.tuple hq
  exact call_tuple_same pl ⟨.ref p,H,I,rfl,q⟩
def tyV (K:PySem.W.Frag) (T:String) (x:V) (H:Hp):Prop:=match x with
 | .str _=>T = "str"
 | .int _=>T = "int"
 | .ref p=>(T = "list"∧∃ xs,SqL K H p xs)∨(T = "tuple"∧∃ o,K.lookup p=some o∧o.cls = .type "tuple"∧o.dict=none) ∨
   (T = "dict"∧((∃ kvs,H p=some (.dK kvs))∨∃ kvs,H p=some (.dT kvs)))∨(T = "set"∧∃ S n,H p=some (.set S n))
 | _=>False
theorem tyV_is {pins:List (Addr × Obj)} {σ:St} {H:Hp} {s:Shared} {T:String} {x:V} {v:Value} (I:Inv X pins σ H s) (r:RelV x v) (ty:tyV X.K T x H) :
  s.TypeIs v T∧∀ a,v = .ref a→∃ ob,s.heap.get? a=some ob∧ob.dict=none:=by
 cases x with
 | str z =>
  obtain ⟨t,rfl⟩:=r
  cases (show T = "str" from ty)
  exact ⟨typeIs_str s z t,fun _ e=>nomatch e⟩
 | int i =>
  obtain ⟨t,rfl⟩:=r
  cases (show T = "int" from ty)
  exact ⟨typeIs_int s i t,fun _ e=>nomatch e⟩
 | ref p =>
  cases r
  rcases ty with ⟨rfl,xs,hq⟩ | ⟨rfl,o,hk,hc,hd⟩ | ⟨rfl,hk⟩ | ⟨rfl,S,n,hk⟩
  ·obtain ⟨its,_,pl,_⟩:=I.list hq
   refine ⟨pl.isList.typeIs,fun a e=>?_⟩
   cases e
   obtain ⟨o,n,e,c,hd,_⟩:=pl
   exact ⟨o,e,hd⟩
  ·refine ⟨⟨o,I.kIn p o hk,hc⟩,fun a e=>?_⟩
   cases e
   exact ⟨o,I.kIn _ o hk,hd⟩
  ·have z:∃ o,s.heap.get? p=some o∧o.ExactDict:=by
    rcases hk with ⟨kvs,hk⟩ | ⟨kvs,hk⟩
    ·obtain ⟨_,_,_,_,o,_,_,e,ex,_⟩:=I.hok p _ hk
     exact ⟨o,e,ex⟩
    ·obtain ⟨_,_,_,_,o,_,_,e,ex,_⟩:=I.hok p _ hk
     exact ⟨o,e,ex⟩
   obtain ⟨o,e,ex⟩:=z
   refine ⟨⟨o,e,ex.1⟩,fun a e2=>?_⟩
   cases e2
   exact ⟨o,e,ex.2.1⟩
  ·obtain ⟨o,_,_,_,e,ex,_⟩:=I.hok p _ hk
   refine ⟨⟨o,e,ex.1⟩,fun a e2=>?_⟩
   cases e2
   exact ⟨o,e,ex.2.1⟩
 | _=>exact False.elim ty
def tBM0 (K:PySem.W.Frag) (T:String) (r:V→List V→Hp→VK→Prop) (to:TE):TE:=fun σ H Q=>to σ H fun x H1=>tyV K T x H1∧r x [] H1 Q
def tBM (K:PySem.W.Frag) (T:String) (r:V→List V→Hp→VK→Prop) (to:TE) (t:TA):TE:=fun σ H Q=>to σ H fun x H1=>tyV K T x H1∧t σ H1 fun xs H2=>r x xs H2 Q
variable {o e:Expr} {es:List Expr} {to:TE} {t:TA} {name:Str} {apos cpos:Pos} {T id:String} {r:V→List V→Hp→VK→Prop}
theorem pe_bm0 (pa:PlainAttrs T) (slot:Slot T name id) (hty:typeOf (.builtin id)=pure (.type "method_descriptor")) (hm:MtR X id r) (ho:PE X o to)
  (hbase:attributeBase o name X.env (eval o X.env)=eval o X.env:=by rfl) (hline:(apos.endLine == cpos.line)=true:=by rfl):PE X (.Call (.Attribute o name apos) [] [] cpos) (tBM0 X.K T r to):=by
 intro pins s σ H Q I h
 refine wpAny_Call_method0_late hbase hline (thn (ho pins s σ H _ I h) fun v s1 ⟨x,H1,I1,r1,ty,q1⟩=>?_)
 obtain ⟨h1,h2⟩:=tyV_is I1 r1 ty
 exact ⟨T,id,pa,slot,hty,h1,h2,Calls.callWith_builtin rfl (PySem.evalArgs_none (hm pins s1 σ H1 x [] v [] Q I1 r1 .nil q1))⟩
theorem pe_bm (pa:PlainAttrs T) (slot:Slot T name id) (hty:typeOf (.builtin id)=pure (.type "method_descriptor")) (hm:MtR X id r) (ho:PE X o to) (ha:PA X (e::es) t)
  (hbase:attributeBase o name X.env (eval o X.env)=eval o X.env:=by rfl)
  (hfew:((backTo cpos (starEach (e::es) X.env)).all (fun x=>!x.1) && (backToKw cpos (keywordEach [] X.env)).all (fun x=>x.1.isSome)
   && decide ((e::es).length + ([]:List Keyword).length + (if ([]:List Keyword).isEmpty then 0 else 1)<30))=true:=by rfl)
  (hline:(apos.endLine == cpos.line)=true:=by rfl) (hs:starEach (e::es) X.env=(false,eval e X.env)::starEach es X.env:=by rfl) (hplain:(backTo cpos (starEach es X.env)).any (·.1)=false:=by rfl) :
  PE X (.Call (.Attribute o name apos) (e::es) [] cpos) (tBM X.K T r to t):=by
 intro pins s σ H Q I h
 refine wpAny_Call_method_late hbase hfew hline rfl (thn (ho pins s σ H _ I h) fun v s1 ⟨x,H1,I1,r1,ty,q1⟩=>?_)
 obtain ⟨h1,h2⟩:=tyV_is I1 r1 ty
 refine ⟨T,id,pa,slot,hty,h1,h2,?_⟩
 have hA:=ha cpos pins s1 σ H1 _ I1 q1
 rw [hs] at hA ⊢
 refine Calls.callWith_builtin (by show (false || (backTo cpos (starEach es X.env)).any (·.1))=false;rw [hplain] <;> rfl) (Calls.evalArgs_plain ?_)
 exact thn hA fun us s2 ⟨vs,H2,I2,r2,q2⟩=>hm pins s2 σ H2 x vs v us Q I2 r1 r2 q2
end
end L2
namespace L2
open PySem PySem.Spec PyProof.Rows
def MtM (X:Cx) (id:String) (r:V→List V→Hp→VK→Prop):Prop :=
 ∀ (pins:List (Addr × Obj)) (s:Shared) (σ:St) (H:Hp) (x:V) (xs:List V) (v:Value) (us:List Value) (Q:VK),Inv X pins σ H s→RelV x v→Vals xs us→r x xs H Q →
  wpAny (model X.prog X.w) X.A (call (.builtin id) (v::us)) (EP X pins σ Q) X.xe s
theorem Vals.one:∀ {x:V} {us:List Value},Vals [x] us→∃ u,us=[u]∧RelV x u
 | _,_,.cons r .nil=>⟨_,rfl,r⟩
theorem Vals.two:∀ {x y:V} {us:List Value},Vals [x,y] us→∃ u v,us=[u,v]∧RelV x u∧RelV y v
 | _,_,_,.cons r (.cons q .nil)=>⟨_,_,rfl,r,q⟩
theorem Vals.zero:∀ {us:List Value},Vals [] us→us=[]
 | _,.nil=>rfl
theorem Vals.dropLast {xs:List V} {us:List Value} (h:Vals xs us):Vals xs.dropLast us.dropLast:=by
 induction h with
 | nil=>exact .nil
 | cons r t ih =>
  cases t with
  | nil=>exact .nil
  | cons q t'=>exact .cons r ih
theorem Vals.eraseIdx:∀ {xs:List V} {us:List Value} (i:Nat),Vals xs us→Vals (xs.eraseIdx i) (us.eraseIdx i)
 | _,_,_,.nil=>.nil
 | _,_,0,.cons _ t=>t
 | _,_,i + 1,.cons r t=>.cons r (Vals.eraseIdx i t)
theorem Vals.reverse {xs:List V} {us:List Value} (h:Vals xs us):Vals xs.reverse us.reverse:=by
 induction h with
 | nil=>exact .nil
 | cons r t ih=>rw [List.reverse_cons,List.reverse_cons];exact Vals.append ih (.cons r .nil)
theorem Vals.rep {xs:List V} {us:List Value} (h:Vals xs us):∀ k:Nat,Vals (List.replicate k xs).flatten (List.replicate k us).flatten
 | 0=>.nil
 | k + 1=>by
  rw [List.replicate_succ,List.replicate_succ,List.flatten_cons,List.flatten_cons]
  exact Vals.append h (Vals.rep h k)
theorem erase_last {α:Type} (l:List α):l.eraseIdx (l.length - 1)=l.dropLast:=by
 induction l with
 | nil=>rfl
 | cons a r ih =>
  cases r with
  | nil=>rfl
  | cons b r =>
   have e:(a::b::r).length - 1=((b::r).length - 1) + 1:=by
    have h1:(a::b::r).length=r.length + 2:=rfl
    have h2:(b::r).length=r.length + 1:=rfl
    omega
   rw [e,List.eraseIdx_cons_succ,ih]
   all_goals rfl
theorem len_erase {α:Type}:∀ (l:List α) (i:Nat),(l.eraseIdx i).length≤l.length
 | [],_=>Nat.le_refl _
 | _::_,0=>Nat.le_succ _
 | _::r,i + 1=>Nat.succ_le_succ (len_erase r i)
theorem foldl_rep (its:List Value):∀ (k:Nat) (acc:List Value),
  List.foldl (fun x1 x2=>x1++x2) acc.toArray (List.replicate k its.toArray)=(acc++(List.replicate k its).flatten).toArray
 | 0,acc=>by simp
 | k + 1,acc=>by
  have e:acc.toArray++its.toArray=(acc++its).toArray:=by simp
  have e2:(acc++its)++(List.replicate k its).flatten=acc++(List.replicate (k + 1) its).flatten:=by
   rw [List.replicate_succ,List.flatten_cons,List.append_assoc]
  rw [← e2,← foldl_rep its k (acc++its),← e,List.replicate_succ,List.foldl_cons]
section
variable {X:Cx} {pins:List (Addr × Obj)} {σ:St} {H:Hp} {s:Shared} {l b:Addr} {xs ys zs:List V}
theorem Inv.lset {its its':List Value} {n:Nat} {f:Array Value→Array Value} {t':Nat} (I:Inv X pins σ H s) (hH:H l=some (.lst xs))
  (e:s.heap.get? l=some { cls:=.type "list",data:=.seq its.toArray n }) (hf:f its.toArray=its'.toArray) (hv:Vals ys its') (hz:ys.length≤sizeLine) :
  Inv X pins σ (upd H l (.lst ys)) { s with heap:=s.heap.update l (Obj.mapSeq f),toks:=t' }:=by
 have q:=PySem.IsL.update e f
 rw [hf] at q
 refine I.write (x:=l) (e:=l) (by rw [hH];exact trivial) (.inl rfl) (fun b' u hb hu=>(Heap.get?_update_other s.heap (Obj.mapSeq f) (Ne.symm hb)).trans hu) ⟨_,q⟩ ?_
 exact ⟨hz,its',_,hv,q⟩
theorem Inv.lnew {its:List Value} {t':Nat} (I:Inv X pins σ H s) (hv:Vals ys its) (hz:ys.length≤sizeLine) :
  Inv X pins σ (upd H s.heap.objs.size (.lst ys)) { s with heap:=s.heap.push { cls:=.type "list",data:=.seq its.toArray },toks:=t' } :=
 I.laid (fun _ _ q=>Heap.get?_push_of_some _ q) (Nat.le_refl _) ⟨hz,its,0,hv,Heap.get?_push_size _ rfl⟩
theorem Inv.fresh (I:Inv X pins σ H s):H s.heap.objs.size=none:=I.hok.fresh (Nat.le_refl _)
theorem Inv.lstM (I:Inv X pins σ H s) (hH:H l=some (.lst xs)):xs.length≤sizeLine∧∃ (its:List Value) (n:Nat),Vals xs its∧xs.length=its.length∧s.heap.get? l=some { cls:=.type "list",data:=.seq its.toArray n }:=by
 obtain ⟨z,its,n,r,e⟩:=I.hok l _ hH
 exact ⟨z,its,n,r,r.length,e⟩
theorem notLongL {n:Nat} (h:n≤sizeLine):Builtin.List.listTooLong n=false:=by
 unfold Builtin.List.listTooLong
 exact decide_eq_false (by omega)
end
section
variable {X:Cx}
def rAppend:V→List V→Hp→VK→Prop:=fun x vs H Q=>∃ l xs y,x = .ref l∧vs=[y]∧H l=some (.lst xs)∧xs.length<sizeLine∧Q .non (upd H l (.lst (xs++[y])))
theorem mt_append:MtM X "list.append" rAppend:=by
 intro pins s σ H x vs v us Q I rx rv h
 obtain ⟨l,xs,y,rfl,rfl,hH,hz,q⟩:=h
 cases rx
 obtain ⟨u,rfl,ru⟩:=rv.one
 obtain ⟨z,its,n,r,hl,e⟩:=I.lstM hH
 refine call_meets F.slot_list_append ⟨_,e,rfl⟩ F.entry_list_append (F.args_list_append_2 _ _) (PySem.list_append l its.toArray n u (by rw [List.size_toArray];omega)) ⟨e,?_⟩
 refine ⟨.non,_,I.lset (its':=its++[u]) hH e (by simp) (r.append (.cons ru .nil)) ?_,rfl,q⟩
 rw [List.length_append,List.length_singleton]
 omega
def rPop:V→List V→Hp→VK→Prop:=fun x vs H Q=>∃ l xs y,x = .ref l∧vs=[]∧H l=some (.lst xs)∧xs[xs.length - 1]? = some y∧Q y (upd H l (.lst xs.dropLast))
theorem mt_pop:MtM X "list.pop" rPop:=by
 intro pins s σ H x vs v us Q I rx rv h
 obtain ⟨l,xs,y,rfl,rfl,hH,hy,q⟩:=h
 cases rx
 have hus:=rv.zero
 subst hus
 obtain ⟨z,its,n,r,hl,e⟩:=I.lstM hH
 obtain ⟨u,hu,ru⟩:=r.get hy
 have hy':its.toArray[its.toArray.size - 1]? = some u:=by
  show its.toArray[its.length - 1]? = some u
  rw [← Array.getElem?_toList,← hl]
  exact hu
 refine call_meets F.slot_list_pop ⟨_,e,rfl⟩ F.entry_list_pop (F.args_list_pop_1 _) (MeetsSeq.list_pop_last l its.toArray n u hy' (by rw [List.size_toArray];omega)) ⟨e,?_⟩
 refine ⟨y,_,I.lset (its':=its.dropLast) hH e ?_ r.dropLast ?_,ru,q⟩
 ·show its.toArray.eraseIdxIfInBounds (its.toArray.size - 1)=its.dropLast.toArray
  rw [List.size_toArray,List.eraseIdxIfInBounds_toArray,erase_last]
 ·rw [List.length_dropLast]
  omega
def rPopAt:V→List V→Hp→VK→Prop:=fun x vs H Q=>∃ l xs i k y,x = .ref l∧vs=[.int i]∧H l=some (.lst xs)∧-(2 ^ 63)≤i∧i<2 ^ 63∧seqIndex? i xs.length=some k∧xs[k]? = some y∧Q y (upd H l (.lst (xs.eraseIdx k)))
theorem mt_popAt:MtM X "list.pop" rPopAt:=by
 intro pins s σ H x vs v us Q I rx rv h
 obtain ⟨l,xs,i,k,y,rfl,rfl,hH,h1,h2,hk,hy,q⟩:=h
 cases rx
 obtain ⟨u,rfl,ru⟩:=rv.one
 obtain ⟨t,rfl⟩:=ru
 obtain ⟨z,its,n,r,hl,e⟩:=I.lstM hH
 obtain ⟨w,hw,rw'⟩:=r.get hy
 refine call_meets F.slot_list_pop ⟨_,e,rfl⟩ F.entry_list_pop (F.args_list_pop_2 _ _)
  (MeetsSeq.list_pop_at l its.toArray n i t k w (fitsIndex_both h1 h2) (by rw [List.size_toArray,← hl];exact hk) (by rw [← Array.getElem?_toList];exact hw) (by rw [List.size_toArray];omega)) ⟨e,?_⟩
 refine ⟨y,_,I.lset (its':=its.eraseIdx k) hH e ?_ (r.eraseIdx k) ?_,rw',q⟩
 ·show its.toArray.eraseIdxIfInBounds k=(its.eraseIdx k).toArray
  rw [List.eraseIdxIfInBounds_toArray]
 ·have:=len_erase xs k
  omega
def rReverse:V→List V→Hp→VK→Prop:=fun x vs H Q=>∃ l xs,x = .ref l∧vs=[]∧H l=some (.lst xs)∧Q .non (upd H l (.lst xs.reverse))
theorem mt_reverse:MtM X "list.reverse" rReverse:=by
 intro pins s σ H x vs v us Q I rx rv h
 obtain ⟨l,xs,rfl,rfl,hH,q⟩:=h
 cases rx
 have hus:=rv.zero
 subst hus
 obtain ⟨z,its,n,r,hl,e⟩:=I.lstM hH
 refine call_meets F.slot_list_reverse ⟨_,e,rfl⟩ F.entry_list_reverse (F.args_list_reverse_1 _) (AutoSeq1.list_reverse_list_0 l its.toArray n (by rw [List.size_toArray];omega)) ⟨e,?_⟩
 refine ⟨.non,_,I.lset (its':=its.reverse) hH e (by simp) r.reverse ?_,rfl,q⟩
 rw [List.length_reverse]
 omega
def rCat:R2:=fun x y H Q=>∃ l b xs zs,x = .ref l∧y = .ref b∧H l=some (.lst xs)∧H b=some (.lst zs)∧xs.length + zs.length≤sizeLine∧∀ p,H p=none→Q (.ref p) (upd H p (.lst (xs++zs)))
theorem op_cat:OpR X (binaryOp .Add) rCat:=by
 intro pins s σ H x y v u Q I rx ry h
 obtain ⟨l,b,xs,zs,rfl,rfl,hH,hB,hz,q⟩:=h
 cases rx
 cases ry
 obtain ⟨z,its,n,r,hl,e⟩:=I.lstM hH
 obtain ⟨z2,its2,n2,r2,hl2,e2⟩:=I.lstM hB
 refine PySem.P.add_list e e2 ?_ (by rw [List.size_toArray,List.size_toArray];omega)
 have ea:its.toArray++its2.toArray=(its++its2).toArray:=by simp
 rw [ea]
 exact ⟨.ref _,_,I.lnew (t':=s.toks) (r.append r2) (by rw [List.length_append];omega),rfl,q _ I.fresh⟩
def rRep:R2:=fun x y H Q=>∃ l k xs,x = .ref l∧y = .int k∧H l=some (.lst xs)∧-(2 ^ 63)≤k∧k<2 ^ 63∧xs.length * k.toNat≤sizeLine ∧
 ∀ p,H p=none→Q (.ref p) (upd H p (.lst (List.replicate k.toNat xs).flatten))
theorem len_rep {α:Type} (xs:List α) (k:Nat):(List.replicate k xs).flatten.length=k * xs.length:=by
 induction k with
 | zero=>simp
 | succ k ih=>rw [List.replicate_succ,List.flatten_cons,List.length_append,ih,Nat.succ_mul,Nat.add_comm]
theorem op_rep:OpR X (binaryOp .Mult) rRep:=by
 intro pins s σ H x y v u Q I rx ry h
 obtain ⟨l,k,xs,rfl,rfl,hH,h1,h2,hz,q⟩:=h
 cases rx
 obtain ⟨t,rfl⟩:=ry
 obtain ⟨z,its,n,r,hl,e⟩:=I.lstM hH
 have hlen:its.toArray.size * k.toNat≤sizeLine:=by rw [List.size_toArray,← hl];exact hz
 have hcap:¬ its.toArray.size * k.toNat > (2 ^ 63 - 1) / 8:=by
  have:(sizeLine:Nat)≤(2 ^ 63 - 1) / 8:=by decide
  omega
 have hfit:¬ (!Builtin.List.listFitsIndex k)=true:=by
  rw [fitsIndex_both h1 h2]
  exact Bool.false_ne_true
 have hlong:¬ Builtin.List.listTooLong (its.toArray.size * k.toNat)=true:=by
  rw [notLongL hlen]
  exact Bool.false_ne_true
 have hnew:List.foldl (fun x1 x2=>x1++x2) #[] (List.replicate (if its.toArray.isEmpty=true then 0 else k.toNat) its.toArray)=(List.replicate k.toNat its).flatten.toArray:=by
  have f0:∀ m:Nat,List.foldl (fun x1 x2=>x1++x2) #[] (List.replicate m its.toArray)=(List.replicate m its).flatten.toArray:=fun m=>by
   have:=foldl_rep its m []
   rw [List.nil_append] at this
   exact this
  rw [f0]
  cases its with
  | nil=>simp
  | cons a r'=>rw [if_neg (by simp)]
 refine wpAny_binaryOp_repeat_ref (T:="list") (U:="int") (by decide) ⟨_,e,rfl⟩ (fun s'=>typeIs_int s' k t) noFill_list_mul F.fills_int_mul F.slot_int_rmul repeat_list F.slot_int_index.lookup
  (call_meets F.slot_int_rmul (typeIs_int s k t) F.entry_int_rmul (F.args_int_rmul_2 _ _) (int___rmul___int_list k t l its.toArray n)
   ⟨e,rfl,⟨_,e,rfl⟩,call_meets F.slot_list_mul ⟨_,e,rfl⟩ F.entry_list_mul (F.args_list_mul_2 _ _) (AutoListH.list___mul___list_int_3 l its.toArray n k t hfit hcap hlong) ⟨e,?_⟩⟩)
 rw [hnew]
 exact ⟨.ref _,_,I.lnew (t':=s.toks) (r.rep k.toNat) (by rw [len_rep,Nat.mul_comm];exact hz),rfl,q _ I.fresh⟩
end
section
variable {prog:Program} {w:World} {A:Around} {E:Value→Shared→Prop} {s:Shared}
end
section
variable {X:Cx}
end
end L2
namespace Att
open PySem PySem.W PySem.Calls PyProof.Rows
theorem ints_of_wellAll {P:Params} {h:Heap}:∀ (ns:List Int) (vs:List Value),WellAll P h vs (ns.map WData.int)→IntsAre vs ns:=by
 intro ns
 induction ns with
 | nil =>
  intro vs w
  rw [List.map_nil] at w
  cases w
  exact .nil
 | cons n ns ih =>
  intro vs w
  rw [List.map_cons] at w
  cases w with
  | cons a b =>
   cases a
   exact .cons _ _ (ih _ b)
theorem script_of {l:OpenLaw} {n:Nat} (hn:l.most=some n) {P:Params} {h:Heap} {args:List WData} {vals:List Value}
  (hpre:l.row.toRowW.claim.pre args=true) (hwl:WellAll P h vals args) :
  ∃ a vs ns,vals=[Value.ref a]∧args=[WData.list (ns.map WData.int)]∧h.get? a=some { cls:=.type "list",data:=.seq vs.toArray }∧IntsAre vs ns∧ns.length≤n:=by
 have hsh:WShape.hasAll [] args [.list .int]=true:=(pre_splitW hpre).1
 have hc:l.pre.holds [] { args:=args } = true:=(pre_splitW hpre).2
 obtain ⟨d,r,rfl,h1,h2⟩:=hasAllW_cons hsh
 obtain rfl:=hasAllW_nil h2
 obtain ⟨xs,rfl,h3⟩:=hasW_list h1
 obtain ⟨ns,rfl⟩:=items_int h3
 have hlen:ns.length≤n:=by
  unfold OpenLaw.pre at hc
  have h4:(WTm.not (.lt (.lit (.int (n:Int))) (.len (.arg 0)))).holds [] { args:=[.list (ns.map .int)] } = true:=by
   have h4:=(holds_andW hc).1
   rw [hn] at h4
   exact h4
  have h5:=condW_of h4 (w_not (w_lt w_lit (w_len_list (w_arg rfl))))
  rw [List.length_map] at h5
  refine Nat.le_of_not_lt fun q=>?_
  have q':(n:Int)<((ns.length:Nat):Int):=by omega
  first
   | (rw [decide_eq_true q'] at h5;exact absurd h5 (by decide))
   | (simp at h5;omega)
 cases hwl with
 | cons w1 w2 =>
  cases w2
  cases w1 with
  | list ho hall=>exact ⟨_,_,ns,rfl,rfl,ho,ints_of_wellAll ns _ hall,hlen⟩
theorem post_true (l:OpenLaw) (args:List WData):l.row.toRowW.claim.post args (.bool true) args=true :=
 postW_of (r:=l.row.toRowW) (X:=(true == true))
  (show WShape.has [] (.bool true) .bool=true by first | rfl | decide | simp [WShape.has,WShape.arms,WShape.armsAll])
  (show (WTm.eq .res (.lit (.bool true))).value [] { args:=args,res:=some (.bool true),after:=args } = some (.bool (true == true)) from w_eq_bool (w_res rfl) w_lit) rfl
theorem attach_call {l:OpenLaw} {n:Nat} {q:Program} {loose:List Str} {XP:(Str→Option Value)→Heap→Prop} {YP:World→Heap→Prop} {d:DefRec}
  (hn:l.most=some n) (hdf:d.params.defaults=[])
  (call:∀ (w:World) (s₀ s₁:Shared) (mg mb:Str→Option Value) (fa:Addr) (o:Obj) (pm cd doc:Value) (a:Addr) (vs:List Value) (ns:List Int),
   Ground q loose [] XP w s₀ mg mb s₁.heap→YP w s₁.heap →
   s₁.heap.get? fa=some o→o.data = .func (docDef d.name d.params d.body d.scope pm cd doc)→s₁.heap.CodeRec cd d.name→mg d.name=some (.ref fa) →
   s₁.heap.get? a=some { cls:=.type "list",data:=.seq vs.toArray }→IntsAre vs ns→ns.length≤n→s₁.gens = #[] →
   codeAny (model l.prog w) callerA (.call (.ref fa) ⟨[.ref a],[]⟩) (fun r s'=>r = .ok (.ret (.bool true))∧OldK s₁.heap s'.heap∧s'.os=s₁.os∧AllBare s'.gens) s₁) :
  WalkO q loose XP YP l.row.toRowW d [] (fun f vs=>PySem.call f vs):=by
 intro w s₀ s₁ mg mb G Y fa o pm cd doc dV kV ho hd hcd hD hmg hg args vals as hpre hlay hrd hwl hlo
 obtain rfl:dV = .none:=Dflts.none hD hdf
 obtain rfl:kV = .none:=Dflts.noKw hD
 obtain ⟨a,vs,ns,rfl,rfl,hobj,hints,hlen⟩:=script_of hn hpre hwl
 refine enter_call (codeAny_mono (call w s₀ s₁ mg mb fa o pm cd doc a vs ns G Y ho (fd_plain hd) hcd hmg hobj hints hlen hg) fun r s' hq=>?_)
 obtain ⟨rfl,h2,h3,h4⟩:=hq
 exact ⟨.inl ⟨.bool true,.bool true,[],rfl,fun _=>rfl,.bool true,post_true l _,fun _=>⟨List.Pairwise.nil,fun _ hm=>(nomatch hm)⟩⟩,h2,h3,h4⟩
section
variable {prog:Program} {w:World} {A:Around} {E:Value→Shared→Prop} {s:Shared} {K:Frag}
end
end Att
namespace L2
open PySem PySem.Spec PyProof.Rows
theorem vals_ints:∀ {vs:List Value} {ns:List Int},IntsAre vs ns→Vals (ns.map V.int) vs
 | _,_,.nil=>.nil
 | _,_,.cons n t h=>.cons ⟨t,rfl⟩ (vals_ints h)
def Only (H:Hp):Prop:=∀ b,H b=none∨∃ o xs,H b=some (.frz o (.lst xs))
theorem law_call {P:Program} {w:World} {K:PySem.W.Frag} {mg mb:Str→Option Value} {CX:CXT} {k:Nat} {fa a:Addr} {fd:FuncData} {x:Str} {sp:Sp} {s₁:Shared} {vs:List Value} {ns:List Int}
  (KX:K.In s₁.heap) (hns:s₁.heap.Ns mainGlobals mg) (hb:s₁.heap.Ns builtinsNs mb) (hbb:∀ x:Str,x≠"__name__"→mb x=bootBuiltins x) (hlim:s₁.heap.NoLimit) (hg:s₁.gens = #[])
  (ha:s₁.heap.get? a=some { cls:=.type "list",data:=.seq vs.toArray }) (hi:IntsAre vs ns) (hl:ns.length≤sizeLine) (hr:Room k callerA)
  (F:∀ base:Heap,K.In base→base.Ns mainGlobals mg→FnOk P w K mg base CX k fa fd [x] sp) (hbind:∀ (s:Shared) (u:Value),BindsTo s fd ⟨[u],[]⟩ [(x,u)])
  (hsp:∀ H:Hp,Only H→SqL K H a (ns.map V.int)→sp [.ref a] H (fun v _=>v = .bl true) fun _ _ _=>False)
  (hCX:∀ H e s',CX [] H s₁ (fun _ _ _=>False) e s'→False) :
  codeAny (model P w) callerA (.call (.ref fa) ⟨[.ref a],[]⟩) (fun r s'=>r = .ok (.ret (.bool true))∧OldK s₁.heap s'.heap∧s'.os=s₁.os∧AllBare s'.gens) s₁:=by
 have rv:=vals_ints hi
 have lenV:=hi.length
 have core:∀ H:Hp,Only H→SqL K H a (ns.map V.int)→HOk P w H s₁.heap→(∀ b,H b≠none→b=a)→(H a≠none→K.lookup a=none) →
   codeAny (model P w) callerA (.call (.ref fa) ⟨[.ref a],[]⟩) (fun r s'=>r = .ok (.ret (.bool true))∧OldK s₁.heap s'.heap∧s'.os=s₁.os∧AllBare s'.gens) s₁:=by
  intro H hO hS hok hA hK
  have base_of:∀ {b:Addr} {o:Obj},s₁.heap.get? b=some o→H b=none→(hidT s₁.heap H).get? b=some o:=fun e n=>hidT_get e n
  have noA:∀ {b:Addr} {o:Obj} {es:Array DictEntry} {ep:Nat},s₁.heap.get? b=some o→o.data = .dict es ep→H b=none:=fun {b o es ep} e d=>by
   cases q:H b with
   | none=>rfl
   | some u =>
    have e':b=a:=hA b (by rw [q];simp)
    subst e'
    rw [ha] at e;cases e
    have d':Data.seq vs.toArray _=Data.dict es ep:=d
    cases d'
  have nsK:∀ {b:Addr} {m:Str→Option Value},s₁.heap.Ns b m→(hidT s₁.heap H).Ns b m:=fun {b m} ⟨o,es,ep,e,d,r⟩=>⟨o,es,ep,base_of e (noA e d),d,r⟩
  have hKb:K.In (hidT s₁.heap H):=fun b o e=>base_of (KX b o e) (by
   cases q:H b with
   | none=>rfl
   | some u =>
    have e':b=a:=hA b (by rw [q];simp)
    subst e'
    rw [hK (by rw [q];simp)] at e;cases e)
  have hM:Mod K mg (hidT s₁.heap H):=⟨hKb,nsK hns,⟨mb,nsK hb,hbb⟩,let ⟨mc,h1,h2⟩:=hlim;⟨mc,nsK h1,h2⟩⟩
  have e0:Env0 P w K mg (hidT s₁.heap H) callerA [] s₁ H:=⟨rfl,hM,fun b o e=>of_hidT e,Nat.le_of_eq (hidT_size _ _),trivial,fun b hb=>absurd (show b∈([]:List Addr) from hb) (by simp),hok,.of_eq hg⟩
  refine codeAny_mono ((F _ hKb (nsK hns)).run callerA [] s₁ H ⟨[.ref a],[]⟩ [.ref a] [.ref a] _ _ hr e0 (hbind s₁ (.ref a)) (.cons rfl .nil) (hsp H hO hS)) fun r s' h=>?_
  cases r with
  | error e=>exact (hCX H e s' h).elim
  | ok fl =>
   cases fl with
   | next=>exact False.elim h
   | brk=>exact False.elim h
   | cont=>exact False.elim h
   | ret u =>
    obtain ⟨v,H',os,bare,un,hok',r',q⟩:=h
    have q':v = .bl true:=q
    subst q'
    obtain rfl:u=Value.bool true:=r'
    refine ⟨rfl,OldK.of_keep fun b o e=>?_,os,bare⟩
    cases q:H b with
    | none=>exact un.keep b o e q (by intro z;exact absurd (show b∈([]:List Addr) from z) (by simp)) (by simp)
    | some u =>
     rcases hO b with z | ⟨ob,xs,z⟩
     ·rw [q] at z;cases z
     ·have z2:=un.frzs b ob _ z
      obtain ⟨e1,_⟩:=hok b _ z
      obtain ⟨e2,_⟩:=hok' b _ z2
      rw [e] at e1;cases e1
      exact e2
 cases hk:K.lookup a with
 | some o =>
  have e:=KX a o hk
  rw [ha] at e
  cases e
  refine core (fun _=>none) (fun _=>.inl rfl) (.inr ⟨_,vs.toArray,_,hk,rfl,rfl,rfl,by rw [List.size_toArray,lenV];exact hl,by simpa using rv⟩) (fun b u z=>by have z':(none:Option HO)=some u:=z;cases z') (fun b z=>absurd rfl z) fun z=>absurd rfl z
 | none =>
  refine core (fun b=>if b=a then some (.frz { cls:=.type "list",data:=.seq vs.toArray } (.lst (ns.map V.int))) else none) (fun b=>?_) (.inl (.inr ⟨{ cls:=.type "list",data:=.seq vs.toArray },if_pos rfl⟩)) (fun b u z=>?_) (fun b z=>?_) fun _=>hk
  ·by_cases hb:b=a
   ·exact .inr ⟨_,_,if_pos hb⟩
   ·exact .inl (if_neg hb)
  ·by_cases hb:b=a
   ·have z':=(if_pos hb).symm.trans z
    cases z'
    subst hb
    exact ⟨ha,by rw [List.length_map];exact hl,vs,_,rv,ha⟩
   ·have z':=(if_neg hb).symm.trans z
    cases z'
  ·by_cases hb:b=a
   ·exact hb
   ·exact absurd (if_neg hb) z
end L2
namespace L2
open PySem PySem.Spec PyProof.Rows
theorem walk_of {l:PySem.W.OpenLaw} {n k:Nat} {q:Program} {loose:List Str} {XP:(Str→Option Value)→Heap→Prop} {YP:World→Heap→Prop} {d:DefRec} {K:Params→PySem.W.Frag} {CX:World→CXT} {sp:World→Sp} {x:Str}
  (hn:l.most=some n) (hn2:n≤sizeLine) (hdf:d.params.defaults=[]) (hr:Room k callerA)
  (hY:∀ (w:World) (h:Heap),YP w h→(K w.params).In h)
  (F:∀ (w:World) (mg:Str→Option Value) (fa:Addr) (h:Heap),(K w.params).In h→h.Ns mainGlobals mg→mg d.name=some (.ref fa) →
   ∃ fd:FuncData,(∀ (s:Shared) (u:Value),BindsTo s fd ⟨[u],[]⟩ [(x,u)]) ∧
    ∀ base:Heap,(K w.params).In base→base.Ns mainGlobals mg→FnOk l.prog w (K w.params) mg base (CX w) k fa fd [x] (sp w))
  (hsp:∀ (w:World) (H:Hp) (a:Addr) (ns:List Int),ns.length≤n→Only H→SqL (K w.params) H a (ns.map V.int)→sp w [.ref a] H (fun v _=>v = .bl true) fun _ _ _=>False)
  (hCX:∀ (w:World) (H:Hp) (s:Shared) (e:Value) (s':Shared),CX w [] H s (fun _ _ _=>False) e s'→False) :
  PySem.W.WalkO q loose XP YP l.row.toRowW d [] (fun f vs=>PySem.call f vs):=by
 refine Att.attach_call hn hdf fun w s₀ s₁ mg mb fa o pm cd doc a vs ns G Y ho hd hcd hmg hobj hints hlen hg=>?_
 have KX:=hY w _ Y
 obtain ⟨fd,hb,hF⟩:=F w mg fa _ KX G.T.g hmg
 exact law_call KX G.T.g G.T.b G.T.builtins G.T.nolimit hg hobj hints (Nat.le_trans hlen hn2) hr hF hb (fun H hO hS=>hsp w H a ns hlen hO hS) fun H e s'=>hCX w H s₁ e s'
end L2
namespace L2
open PySem PySem.Spec PyProof.Rows
def inClass (s:Stmt) (j:Nat):Stmt:=match s with
 | .ClassDef _ _ _ body _ _ _ _ _ _ _=>body.getD j (.Pass ⟨0,0,0,0⟩)
 | _=>.Pass ⟨0,0,0,0⟩
def defArgs (s:Stmt):Arguments:=match s with
 | .FunctionDef _ a _ _ _ _ _ _ _ _=>a
 | _=>{ posonlyargs:=[],args:=[],vararg:=none,kwonlyargs:=[],kw_defaults:=[],kwarg:=none,defaults:=[] }
def defBody (s:Stmt):List Stmt:=match s with
 | .FunctionDef _ _ b _ _ _ _ _ _ _=>b
 | _=>[]
def defScope (s:Stmt):Scope:=match s with
 | .FunctionDef _ _ _ _ _ _ sc _ _ _=>sc
 | _=>{ kind:=.function,names:=[],isGenerator:=false,isCoroutine:=false }
abbrev CX0:CXT:=fun _ _ _ _ _ _=>False
abbrev E0:XK:=fun _ _ _=>False
theorem pass0 {X:Cx}:Passes CX0 X E0:=fun _ _ _ _ _ _ _ h=>h.elim
structure Fun (K:PySem.W.Frag) (x qual:Str) (st:Stmt) (f:Addr) (fd:FuncData):Prop where
 ex:∃ (oc:Value) (od:Option Addr) (kV doc pm:Value) (an:Option Addr) (cdv ct:Value) (osl:Array (Option Value)),
  fd=PySem.W.fnOf x qual (defArgs st) (defBody st) (defScope st) .none kV doc pm an cdv ct∧K.lookup f=some ⟨oc,od,.func fd,osl⟩∧PySem.W.codeIn K cdv qual=true
 kp:PySem.W.keepIn K (.ref f)=true
section
variable {P:Program} {w:World} {K:PySem.W.Frag} {mg:Str→Option Value} {base:Heap}
theorem Fun.ok {x qual:Str} {st:Stmt} {f:Addr} {fd:FuncData} {N ps:List Str} {k:Nat} {sp:Sp} (F:Fun K x qual st f fd) (S:FnScope N ps (defScope st)) (len:∀ vs H Q E,sp vs H Q E→vs.length=ps.length)
  (hbody:∀ (cdv:Value) (A:Around) (outer:List Env) (s:Shared) (H:Hp) (vs:List V) (Q:VK) (E:XK),Room k (A.deeper (envOfC qual (defScope st) s.heap.objs.size f cdv))→sp vs H Q E →
   ∃ t,PSs (cxOf CX0 P w K mg base N qual (defScope st) f cdv A outer s H E).nox (defBody st) t∧t { nx:=fun _ H'=>Q .non H',rt:=Q } (start N vs) H):FnOk P w K mg base CX0 (k + 1) f fd ps sp:=by
 obtain ⟨oc,od,kV,doc,pm,an,cdv,ct,osl,rfl,lk,hcd⟩:=F.ex
 refine fn_of lk hcd S len fun A outer s H vs Q E hr hsp=>?_
 obtain ⟨t,h,q⟩:=hbody cdv A outer s H vs Q E hr hsp
 exact ⟨t,h.nox,q⟩
theorem Fun.binds {x qual:Str} {st:Stmt} {f:Addr} {fd:FuncData} {ps:List Str} (F:Fun K x qual st f fd)
  (h:∀ (kV doc pm:Value) (an:Option Addr) (cdv ct:Value) (us:List Value),us.length=ps.length→bindArgs (PySem.W.fnOf x qual (defArgs st) (defBody st) (defScope st) .none kV doc pm an cdv ct) ⟨us,[]⟩=pure (ps.zip us)):Binds K fd ps []:=by
 obtain ⟨oc,od,kV,doc,pm,an,cdv,ct,osl,rfl,lk,hcd⟩:=F.ex
 exact .all (h kV doc pm an cdv ct)
theorem fun_mk {x qual:Str} {st:Stmt} {f:Addr} {oc:Value} {od an:Option Addr} {osl:Array (Option Value)} {kV doc pm cdv ct:Value} (l:K.lookup f=some ⟨oc,od,.func (PySem.W.fnOf x qual (defArgs st) (defBody st) (defScope st) .none kV doc pm an cdv ct),osl⟩)
  (c:PySem.W.codeIn K cdv qual=true) (k:PySem.W.keepIn K (.ref f)=true):Fun K x qual st f (PySem.W.fnOf x qual (defArgs st) (defBody st) (defScope st) .none kV doc pm an cdv ct):=⟨⟨oc,od,kV,doc,pm,an,cdv,ct,osl,rfl,l,c⟩,k⟩
end
theorem small1000 {n:Nat} (h:n≤1000):n<sizeLine:=Nat.lt_of_le_of_lt h (by decide)
section
variable {X:Cx}
theorem pv (i:Nat) {x:Str} {pos:Pos} (hN:X.N[i]? = some x:=by rfl) (hv:Vis X.env.scope x:=by first | exact Or.inl rfl | exact Or.inr (Or.inl rfl) | exact Or.inr (Or.inr rfl)) (hd:(x == ("__debug__":Str))=false:=by decide)
  (hcd:(x == ("__classdict__":Str))=false:=by decide):PE X (.Name x pos) (tVar i):=pe_var hN hv hd hcd
end
theorem iteF {A B:Prop} (h:B):if false=true then A else B:=by
 rw [if_neg Bool.false_ne_true]
 exact h
theorem iteT {A B:Prop} (h:A):if true=true then A else B:=by
 rw [if_pos rfl]
 exact h
theorem ite2 {c A B:Prop} [Decidable c] (h1:c→A) (h2:¬ c→B):if c then A else B:=by
 by_cases h:c
 ·rw [if_pos h]
  exact h1 h
 ·rw [if_neg h]
  exact h2 h
theorem iteNS {c A B:Prop} [Decidable c] (hc:c) (h:B):if (!decide c)=true then A else B:=by
 rw [decide_eq_true hc]
 exact iteF h
def Same (H H':Hp):Prop:=∀ b o,H b=some o→H' b=some o
theorem Same.refl (H:Hp):Same H H:=fun _ _ h=>h
theorem Same.trans {H H1 H2:Hp} (a:Same H H1) (b:Same H1 H2):Same H H2:=fun c o h=>b c o (a c o h)
theorem Same.free {H H':Hp} (e:Same H H') {l:Addr} (h:H' l=Option.none):H l=Option.none:=by
 cases q:H l with
 | none=>rfl
 | some o =>
  rw [e l o q] at h
  cases h
theorem Same.seq {K:PySem.W.Frag} {H H':Hp} {a:Addr} {xs:List V} (e:Same H H') (h:SqL K H a xs):SqL K H' a xs:=by
 rcases h with (h | ⟨o,h⟩) | h
 ·exact .inl (.inl (e _ _ h))
 ·exact .inl (.inr ⟨o,e _ _ h⟩)
 ·exact .inr h
end L2
namespace L2
open PySem PySem.Spec PyProof.Rows Mt
section
variable {X:Cx}
theorem bits_of {i:Int} {n:Nat} (h:Bd n i) (p:0<n):Builtin.Int.intBits i≤n:=by
 unfold Builtin.Int.intBits
 split
 ·exact Nat.zero_le _
 ·have:=h.log p
  omega
def CMulX (i j:Int):Prop:=CMul i j∨(Bd 20000 i∧Bd 20000 j)
theorem CMulX.ok {i j:Int} (h:CMulX i j):IntMulOk i j:=by
 rcases h with h | ⟨h,g⟩
 ·exact h.ok
 ·exact IntMulOk.of_le (bits_of h (by decide)) (bits_of g (by decide)) (by decide)
theorem op_mulX:OpR X (binaryOp .Mult) (rI CMulX fun i j=>.int (i * j)):=opI fun _ _ _ _ _ _ _ hc q=>mul_int q hc.ok
def CDivX (_ j:Int):Prop:=j≠0∧Bd 8000 j
theorem op_fdivX:OpR X (binaryOp .FloorDiv) (rI CDivX fun i j=>.int (i.fdiv j)):=opI fun _ _ _ _ _ _ _ hc q =>
 floordiv_int hc.1 q (.inl (PyProof.noPylong_of_log2 (Nat.lt_of_lt_of_le (hc.2.log (by decide)) (by decide))))
def CDivP (_ j:Int):Prop:=0<j∧Bd 8000 j
theorem op_fdivP:OpR X (binaryOp .FloorDiv) (rI CDivP fun i j=>.int (i / j)):=opI fun i j _ _ _ _ _ hc q=>by
 have h1:(0:Int)<j:=hc.1
 exact floordiv_int (by omega) (by rw [Int.fdiv_eq_ediv_of_nonneg i (by omega)];exact q) (.inl (PyProof.noPylong_of_log2 (Nat.lt_of_lt_of_le (hc.2.log (by decide)) (by decide))))
theorem call_isinst:CallR X (.builtin "isinstance") (fun vs H Q=>∃ x T t b,vs=[x,.ty T]∧TyOf X.K H x t∧PySem.W.kitOne X.K t (.type T)=some b∧Q (.bl b) H):=by
 intro pins s σ H vs us Q I rv q
 obtain ⟨x,T,t,b,rfl,ty,e,q⟩:=q
 obtain ⟨u,c,rfl,ru,rc⟩:=Vals.two rv
 cases (show c=Value.type T from rc)
 exact isinst_ok I ru ty e fun tk=>⟨.bl b,H,I.tok tk,rfl,q⟩
theorem kit_same {K:PySem.W.Frag} (t:Value) (h:(t == t)=true:=by rfl):PySem.W.kitOne K t t=some true:=by
 unfold PySem.W.kitOne
 rw [if_pos h]
def intsE:List Expr→Option (List Int)
 | []=>some []
 | .Constant (.int i) _ _::r=>(intsE r).map (i::·)
 | _=>none
theorem pa_ints {es:List Expr}:∀ {is:List Int},intsE es=some is→PA X es (fun _ H Q=>Q (is.map V.int) H):=by
 induction es with
 | nil =>
  intro is h
  cases (show some []=some is from h)
  exact pa_nil
 | cons e r ih =>
  intro is h
  cases e with
  | Constant c j p =>
   cases c with
   | int i =>
    have h':(intsE r).map (i::·)=some is:=h
    cases q:intsE r with
    | none=>rw [q] at h';cases h'
    | some is' =>
     rw [q] at h'
     cases h'
     exact pa_cons (t:=fun _ H Q=>Q (is'.map V.int) H) pe_int (ih q)
   | _=>cases h
  | _=>cases h
def Here (K:PySem.W.Frag) (mg:Str→Option Value) (x:Str) (st:Stmt) (ps:List Str):Prop :=
 ∃ (f:Addr) (fd:FuncData),Fun K x x st f fd∧mg x=some (.ref f)∧Binds K fd ps []
def DefOk (P:Program) (w:World) (K:PySem.W.Frag) (mg:Str→Option Value) (base:Heap) (x:Str) (ps:List Str) (k:Nat) (sp:Sp):Prop :=
 ∃ (f:Addr) (fd:FuncData),FnOk P w K mg base CX0 k f fd ps sp∧mg x=some (.ref f)∧PySem.W.keepIn K (.ref f)=true∧Binds K fd ps []
theorem pe_callD {x:Str} {ps:List Str} {k j:Nat} {sp:Sp} {p pos:Pos} {e:Expr} {es:List Expr} {t:TA} (D:DefOk X.prog X.w X.K X.mg X.base x ps k sp) (hr:Room j X.A) (ha:PA X (e::es) t)
  (hkj:k≤j:=by decide) (hg:Gl X x:=by rfl) (h1:(x == ("__debug__":Str))=false:=by decide) (h2:starEach (e::es) X.env=(false,eval e X.env)::starEach es X.env:=by rfl) (h3:(backTo pos (starEach es X.env)).any (·.1)=false:=by rfl):PE X (.Call (.Name x p) (e::es) [] pos) (tCall sp [] E0 t):=by
 obtain ⟨f,fd,F,hm,hk,hb⟩:=D
 exact pe_call F (hr.mono hkj) hg hm hk hb .nil pass0 ha h1 h2 h3
theorem iteDT {c A B:Prop} [Decidable c] (hc:c) (h:A):if decide c=true then A else B:=by
 rw [decide_eq_true hc]
 exact iteT h
theorem iteDF {c A B:Prop} [Decidable c] (hc:¬ c) (h:B):if decide c=true then A else B:=by
 rw [decide_eq_false hc]
 exact iteF h
theorem iteD {c A B:Prop} [Decidable c] (h1:c→A) (h2:¬ c→B):if decide c=true then A else B:=by
 by_cases h:c
 ·exact iteDT h (h1 h)
 ·exact iteDF h (h2 h)
theorem iteND {c A B:Prop} [Decidable c] (h1:¬ c→A) (h2:c→B):if (!decide c)=true then A else B:=by
 by_cases h:c
 ·exact iteNS h (h2 h)
 ·rw [decide_eq_false h]
  exact iteT (h1 h)
theorem at2i {a b:Int} {i:Int} (φ:Int→Prop) (h0:0≤i) (h1:i<2) (ha:φ a) (hb:φ b):∃ v:Int,atI [V.int a,V.int b] i=some (.int v)∧φ v:=by
 rcases (by omega:i=0∨i=1) with e | e <;> subst e
 ·exact ⟨a,rfl,ha⟩
 ·exact ⟨b,rfl,hb⟩
theorem same_new {H:Hp} {p:Addr} (h:H p=none) (o:HO):Same H (upd H p o):=fun b u q=>by rw [upd_ne (ne_of_none q h)];exact q
end
end L2
namespace L2
open PySem PySem.Spec PyProof.Rows
theorem lk_mem {β:Type} {y:Str} {c:β}:∀ {l:List (Str × β)},l.lookup y=some c→(y,c)∈l
 | [],h=>by simp at h
 | (n,k)::r,h=>by
  rw [List.lookup_cons] at h
  cases q:y == n with
  | true =>
   rw [q] at h
   have e:y=n:=by simpa using q
   cases h;rw [e];exact List.mem_cons_self
  | false =>
   rw [q] at h
   exact List.mem_cons_of_mem _ (lk_mem h)
theorem lk_some {β:Type} {y:Str} {c:β}:∀ {l:List (Str × β)},(y,c)∈l→∃ d,l.lookup y=some d
 | (n,k)::r,h=>by
  rw [List.lookup_cons]
  cases q:y == n with
  | true=>exact ⟨k,rfl⟩
  | false =>
   rcases List.mem_cons.mp h with z | z
   ·cases z;simp at q
   ·exact lk_some z
theorem lk_relabel {env:Env} {y:Str}:∀ {l:List (Str × NameKind)},
  (l.map fun (n,k)=>if (k == NameKind.free && env.scope.kind == .function && env.kindOf n == some .cell) then (n,NameKind.cell) else (n,k)).lookup y =
   (l.lookup y).map fun k=>if (k == NameKind.free && env.scope.kind == .function && env.kindOf y == some .cell) then NameKind.cell else k
 | []=>rfl
 | (n,k)::r=>by
  have ih:=lk_relabel (env:=env) (y:=y) (l:=r)
  rw [List.map_cons,List.lookup_cons (as:=r)]
  by_cases hc:(k == .free && env.scope.kind == .function && env.kindOf n == some .cell)=true
  ·dsimp only
   rw [if_pos hc,List.lookup_cons]
   cases q:y == n with
   | true =>
    have e:y=n:=by simpa using q
    subst e
    dsimp only [Option.map]
    rw [if_pos hc]
   | false=>exact ih
  ·dsimp only
   rw [if_neg hc,List.lookup_cons]
   cases q:y == n with
   | true =>
    have e:y=n:=by simpa using q
    subst e
    dsimp only [Option.map]
    rw [if_neg hc]
   | false=>exact ih
theorem clos_of {env:Env} {scope:Scope} (h:∀ p∈scope.names,p.2 = .free→∃ c,env.cells.lookup p.1=some c) :
  ∃ cl,closureFor scope env=pure cl∧(∀ p∈cl,env.cells.lookup p.1=some p.2)∧∀ p∈scope.names,p.2 = .free→∃ c,(p.1,c)∈cl:=by
 have all:∀ (l:List (Str × NameKind)) (acc:List (Str × Addr)),(∀ p∈l,p.2 = .free→∃ c,env.cells.lookup p.1=some c)→(∀ p∈acc,env.cells.lookup p.1=some p.2) →
   ∃ cl,(forIn l acc fun x r=>(if (x.2 == NameKind.free)=true then do let c ← cellOf env x.1;pure (ForInStep.yield ((x.1,c)::r)) else pure (ForInStep.yield r):Sem _))=pure cl∧(∀ p∈cl,env.cells.lookup p.1=some p.2)∧(∀ p∈acc,p∈cl)∧∀ p∈l,p.2 = .free→∃ c,(p.1,c)∈cl:=by
  intro l
  induction l with
  | nil=>intro acc _ h2;exact ⟨acc,rfl,h2,fun _ z=>z,fun _ z=>by simp at z⟩
  | cons x r ih =>
   intro acc h1 h2
   obtain ⟨n,k⟩:=x
   cases q:k == NameKind.free with
   | true =>
    have e:k = .free:=by simpa using q
    subst e
    obtain ⟨c,hc⟩:=h1 (n,.free) List.mem_cons_self rfl
    obtain ⟨cl,e1,e2,e3,e4⟩:=ih ((n,c)::acc) (fun p hp=>h1 p (List.mem_cons_of_mem _ hp)) (fun p hp=>by
     rcases List.mem_cons.mp hp with z | z
     ·subst z;exact hc
     ·exact h2 p z)
    refine ⟨cl,?_,e2,fun p hp=>e3 p (List.mem_cons_of_mem _ hp),fun p hp f=>?_⟩
    ·rw [List.forIn_cons]
     have ec:cellOf env n=pure c:=by unfold cellOf;rw [hc]
     simp only [ec,beq_self_eq_true,if_true,pure_bind]
     exact e1
    ·rcases List.mem_cons.mp hp with z | z
     ·subst z;exact ⟨c,e3 _ List.mem_cons_self⟩
     ·exact e4 p z f
   | false =>
    obtain ⟨cl,e1,e2,e3,e4⟩:=ih acc (fun p hp=>h1 p (List.mem_cons_of_mem _ hp)) h2
    refine ⟨cl,?_,e2,e3,fun p hp f=>?_⟩
    ·rw [List.forIn_cons]
     simp only [q,Bool.false_eq_true,if_false,pure_bind]
     exact e1
    ·rcases List.mem_cons.mp hp with z | z
     ·subst z;rw [show k = .free from f] at q;simp at q
     ·exact e4 p z f
 obtain ⟨cl,e1,e2,_,e4⟩:=all scope.names [] h (fun _ z=>by simp at z)
 refine ⟨cl,?_,e2,e4⟩
 show (forIn scope.names [] _ >>= fun r=>pure r)=_
 rw [bind_pure]
 exact e1
def compCx (X:Cx) (x:Str) (scope:Scope) (cl:List (Str × Addr)) (C:Addr) (s:Shared) (H:Hp) (fp:List Addr) (pins:List (Addr × Obj)):Cx :=
 { X with N:=x::X.N,s₀:=s,H₀:=H,env:=compEnvC scope cl C X.env,outer:=X.stack,ex:=fp,fn:=fun _=>false,pn:=X.pn++pins,xe:=fun _ _=>False }
def tComp (wi:TI) (tt:TT) (te:TE):TE:=fun σ H Q=>wi σ H fun J H1=>∀ D,H1 D=none→∃ W:Nat→Nat→Hp→List V→Prop,(∃ m,W 0 m (upd H1 D (.lst [])) []) ∧
 ∀ i m H2 ys,W i m H2 ys→H2 D=some (.lst ys)∧((J.stop i H2∧Q (.ref D) H2)∨(J.go i H2∧∀ x H3,J.yld i H2 x H3→tt (some x::σ) H3 fun b H4 =>
  if b=true then te (some x::σ) H4 fun v H5=>H5 D=some (.lst ys)∧ys.length<sizeLine∧∃ m',m'<m∧W (i + 1) m' (upd H5 D (.lst (ys++[v]))) (ys++[v])
  else ∃ m',m'<m∧W (i + 1) m' H4 ys))
section
variable {X:Cx} {pins:List (Addr × Obj)} {σ:St} {H:Hp} {s:Shared} {x:Str} {scope sc:Scope} {cl:List (Str × Addr)} {fp:List Addr} {N:List Str}
structure CompOk (x:Str) (scope sc:Scope) (N:List Str):Prop where
 cell:∀ y∈scope.names,y.2≠.cell
 kind:scope.kind = .function
 names:∀ y∈scope.names,y.2 = .local→scope.names.lookup y.1=some .local
 own:scope.names.lookup x=some .local
 fk:sc.kind = .function
 free:∀ p∈scope.names,p.2 = .free→sc.names.lookup p.1=some .cell
 nd:(x::N).Nodup
 loc:∀ y∈N,scope.names.lookup y≠some .local
theorem comp_kind (O:CompOk x scope X.env.scope X.N) {y:Str} (h:(relabel scope X.env).names.lookup y=some .cell∨(relabel scope X.env).names.lookup y=some .free) :
  X.env.kindOf y=some .cell∧∃ k,(y,k)∈scope.names∧k = .free:=by
 have e:(relabel scope X.env).names.lookup y=_:=lk_relabel (env:=X.env) (y:=y) (l:=scope.names)
 rw [e] at h
 cases q:scope.names.lookup y with
 | none=>rw [q] at h;rcases h with h | h <;> cases h
 | some k =>
  have hm:=lk_mem q
  rw [q] at h
  by_cases f:k = .free
  ·exact ⟨O.free _ hm f,k,hm,f⟩
  ·exfalso
   have f':(k == NameKind.free)=false:=by simpa using f
   rw [Option.map_some,f',Bool.false_and,Bool.false_and,if_neg Bool.false_ne_true] at h
   rcases h with h | h
   ·exact O.cell _ hm (Option.some.inj h)
   ·exact f (Option.some.inj h)
theorem comp_ok (O:CompOk x scope X.env.scope X.N) (I:Inv X pins σ H s) (h1:∀ p∈cl,X.env.cells.lookup p.1=some p.2) (h2:∀ p∈scope.names,p.2 = .free→∃ c,(p.1,c)∈cl)
  (hf:∀ b∈fp,FpOk X pins H b) (ho:∀ b∈fp,∃ o,s.heap.get? b=some o):(compCx X x scope cl s.heap.objs.size s H fp pins).Ok where
 mod:=I.ok.mod
 kind:=O.kind
 glob:=I.ok.glob
 blt:=I.ok.blt
 above:=Nat.le_refl _
 inj:=fun y z c e1 e2=>I.ok.inj y z c (h1 _ (lk_mem e1)) (h1 _ (lk_mem e2))
 has:=fun y e=>by
  obtain ⟨_,k,hm,f⟩:=comp_kind O e
  obtain ⟨c,hc⟩:=h2 _ hm f
  exact lk_some hc
 cab:=fun _ _ e=>nomatch e
 hd:=I.ok.hd
 frames:=I.ok.frames
 stk:=.inl rfl
 exf:=fun b hb=>⟨by obtain ⟨o,e⟩:=ho b hb;exact Nat.ne_of_lt (Heap.lt_size e),fun y c e=>(hf b hb).2.2.2.2.1 y c (h1 _ (lk_mem e))⟩
 bs:=I.bs
 bsz:=Nat.le_trans I.ok.bsz I.sz
 noex:=fun b o e hb=>by
  rcases (hf b hb).2.2.2.1 with z | z
  ·exact I.ok.noex b o e z
  ·exact absurd (Nat.lt_of_lt_of_le (Heap.lt_size e) (Nat.le_trans I.ok.bsz z)) (Nat.lt_irrefl _)
 exfs:=fun b hb z=>by
  rcases List.mem_cons.mp (I.stkSub b z) with e | e
  ·exact (hf b hb).2.1 e
  ·exact (hf b hb).2.2.1 e
 funs:=I.stack
 frf:=I.stkFree
theorem comp_inv (O:CompOk x scope X.env.scope X.N) (I:Inv X pins σ H s) (h1:∀ p∈cl,X.env.cells.lookup p.1=some p.2) (h2:∀ p∈scope.names,p.2 = .free→∃ c,(p.1,c)∈cl)
  (hf:∀ b∈fp,FpOk X pins H b) (ho:∀ b∈fp,∃ o,s.heap.get? b=some o) {h':Heap} {t':Nat} {m:Str→Option Value} (k:∀ b u,s.heap.get? b=some u→h'.get? b=some u) (hn:h'.Ns s.heap.objs.size m) :
  Inv (compCx X x scope cl s.heap.objs.size s H fp pins) [] (none::σ) H { s with heap:=h',toks:=t' } where
 ok:=comp_ok O I h1 h2 hf ho
 os:=rfl
 bare:=I.bare
 base:=Un.kept k
 loc:=by
  refine ⟨m,hn,fun i y v e1 e2 e3=>?_⟩
  cases i with
  | zero=>cases e2
  | succ i =>
   have e1':X.N[i]? = some y:=e1
   have e2':σ[i]? = some (some v):=e2
   have hv:(relabel scope X.env).names.lookup y=some .cell∨(relabel scope X.env).names.lookup y=some .free:=by
    rcases e3 with z | z
    ·exfalso
     have e:(relabel scope X.env).names.lookup y=_:=lk_relabel (env:=X.env) (y:=y) (l:=scope.names)
     have z':(relabel scope X.env).names.lookup y=some .local:=z
     rw [e] at z'
     cases q:scope.names.lookup y with
     | none=>rw [q] at z';cases z'
     | some k =>
      rw [q,Option.map_some] at z'
      have z2:=Option.some.inj z'
      split at z2
      ·cases z2
      ·exact O.loc y (List.mem_of_getElem? e1') (by rw [q,z2])
    ·exact z
   obtain ⟨hk,k',hm,f⟩:=comp_kind O hv
   obtain ⟨c,hc⟩:=h2 _ hm f
   obtain ⟨m0,hn0,hl⟩:=I.loc
   obtain ⟨u,r,l⟩:=hl i y v e1' e2' (.inr (.inl hk))
   refine ⟨u,r,.inr ⟨hv,c,?_,?_⟩⟩
   ·obtain ⟨d,hd⟩:=lk_some hc
    have a1:=h1 _ (lk_mem hd)
    have a2:=h1 _ hc
    rw [a1] at a2
    show cl.lookup y=some c
    rw [hd];exact a2
   ·rcases l with ⟨z,_⟩ | ⟨_,c',e,o,ho',hd⟩
    ·rw [hk] at z;cases z
    ·have a2:=h1 _ hc
     rw [e] at a2
     cases a2
     exact ⟨o,k _ _ ho',hd⟩
 cell:=fun y c e=>by
  obtain ⟨v,o,ho',hd⟩:=I.cell y c (h1 _ (lk_mem e))
  exact ⟨v,o,k _ _ ho',hd⟩
 free:=I.hok.fresh (Nat.le_refl _)
 freeC:=fun y c e=>I.freeC y c (h1 _ (lk_mem e))
 pin:=fun p hp=>by
  have hp':p∈X.pn++pins:=by simpa [compCx] using hp
  obtain ⟨e,n,ne,nf,d⟩:=I.pin p hp'
  refine ⟨k _ _ e,n,Nat.ne_of_lt (Heap.lt_size e),fun z=>?_,d⟩
  rcases List.mem_cons.mp (I.stkSub _ z) with q | q
  ·exact ne q
  ·exact nf q
 hok:=I.hok.kept k
 len:=by rw [List.length_cons,I.len];rfl
theorem comp_back {H':Hp} {s':Shared} {h':Heap} {v0:Option V} (I:Inv X pins σ H s) (hf:∀ b∈fp,FpOk X pins H b) (I':Inv (compCx X x scope cl s.heap.objs.size s H fp pins) [] (v0::σ) H' s')
  (hs:Heap.SameBut s.heap.objs.size s'.heap h'):Inv X pins σ H' { s' with heap:=h' }:=by
 have u:Un (frs X.stack) fp H H' s.heap s'.heap:=I'.base
 have ne:∀ b o,s.heap.get? b=some o→b≠s.heap.objs.size:=fun b o e=>Nat.ne_of_lt (Heap.lt_size e)
 have hC:H' s.heap.objs.size=none:=I'.free
 refine I.call' (s':={ s' with heap:=h' }) (ch:=fp) I'.os ⟨fun b o e n nf nx=>hs.extBut b _ (ne b o e) (u.keep b o e n nf nx),fun b o e n bf nx=>?_,u.free,fun b o e nx=>?_,u.tups,u.frzs,u.tbls⟩ (fun b o e=>?_) I'.bare fun b hb=>⟨(hf b hb).2.2.2.1,(hf b hb).2.1,(hf b hb).2.2.2.2.1,(hf b hb).2.2.2.2.2⟩
 ·obtain ⟨sl,q⟩:=u.slot b o e n bf nx
  exact ⟨sl,hs.extBut b _ (ne b o e) q⟩
 ·obtain ⟨o',q⟩:=u.there b o e nx
  exact ⟨o',hs.extBut b _ (ne b o e) q⟩
 ·refine (I'.hok b o e).stay (fun c v hc q=>hs.extBut c v ?_ q) (fun _ q=>q) fun _ _ q=>q
  intro z
  rcases hc with y | y
  ·rw [← y,z,hC] at e;cases e
  ·rw [z,hC] at y;cases y
theorem pe_compG {elt iter:Expr} {px pos:Pos} {ifs:List Expr} {wi:TI} {tt:TT} {te:TE} (hc:X.calm=true) (hsc:X.env.scope=sc) (hN:X.N=N) (O:CompOk x scope sc N) (hi:PI X (.Name x px) iter wi)
  (ht:∀ cl C s H fp pins,∀ (pins':List (Addr × Obj)) (s':Shared) (σ':St) (H':Hp) (Q:Bool→Hp→Prop),Inv (compCx X x scope cl C s H fp pins) pins' σ' H' s'→tt σ' H' Q →
   wpAny (model X.prog X.w) X.A (forIn ifs true fun c r=>if r=true then do let ok ← isTrue c (compEnvC scope cl C X.env) (eval c (compEnvC scope cl C X.env));pure (ForInStep.yield ok) else pure (ForInStep.yield r)) (TP (compCx X x scope cl C s H fp pins) pins' σ' Q) (fun _ _=>False) s')
  (he:∀ cl C s H fp pins,PE (compCx X x scope cl C s H fp pins) elt te)
  (hs:∀ z,foldedSetIterable iter X.env z=pure z:=by intro _;rfl):PE X (.ListComp elt [⟨.Name x px,iter,ifs,0⟩] scope pos) (tComp wi tt te):=by
 subst hsc hN
 intro pins s σ H Q I h
 obtain ⟨cl,hclos,h1,h2⟩:=clos_of (env:=X.env) (scope:=scope) fun p hp f=>I.ok.has p.1 (.inl (O.free p hp f))
 rw [eval_ListComp]
 refine wpAny_comprehension_free (use:=none) rfl hs hclos O.kind O.names ?_
 refine thn (hi pins s σ H _ I h) fun xv s1 hx1=>thn hx1 fun itv s2 hx2=>?_
 obtain ⟨it,fp,tn,J,H2,rfl,I2,T,st2,f2,hW⟩:=hx2
 refine wpAny_newObj_type ?_
 have nD:H2 s2.heap.objs.size=none:=I2.fresh
 obtain ⟨W,⟨m0,w0⟩,turn⟩:=hW _ nD
 have I3:=I2.lnew (its:=[]) (ys:=[]) (t':=s2.toks) .nil (Nat.zero_le _)
 generalize hD:s2.heap.objs.size=D at *
 have f3:∀ b∈fp,FpOk X pins (upd H2 D (.lst [])) b:=fun b hb=>by
  obtain ⟨o,e,_⟩:=T.obj _ _ st2 b hb
  exact ⟨by rw [upd_ne (by rw [← hD];exact Nat.ne_of_lt (Heap.lt_size e))];exact (f2 b hb).1,(f2 b hb).2⟩
 have st3:tn 0 (s2.heap.push { cls:=.type "list",dict:=none,data:=.seq ([]:List Value).toArray }):=T.keep _ _ _ st2 fun b _ o e=>Heap.get?_push_of_some _ e
 change Inv X pins σ (upd H2 D (.lst [])) { s2 with heap:=s2.heap.push { cls:=.type "list",dict:=none,data:=.seq ([]:List Value).toArray } } at I3
 generalize hs3:({ s2 with heap:=s2.heap.push { cls:=.type "list",dict:=none,data:=.seq ([]:List Value).toArray } }:Shared)=s3 at I3 ⊢
 have st3':tn 0 s3.heap:=by rw [← hs3];exact st3
 refine wpAny_newFunctionEnv O.cell (by intro y hy;simp at hy) (fun h4 hn4 hb4=>?_) O.kind
 have old:∀ b o,s3.heap.get? b=some o→h4.get? b=some o:=fun b o e=>hb4.extBut b o (Nat.ne_of_lt (Heap.lt_size e)) (Heap.get?_push_of_some _ e)
 have ho:∀ b∈fp,∃ o,s3.heap.get? b=some o:=fun b hb=>by
  obtain ⟨o,e,_⟩:=T.obj _ _ st3' b hb
  exact ⟨o,e⟩
 have I4:=comp_inv (t':=s3.toks + ([]:List (Str × Value)).length) O I3 h1 h2 f3 ho old hn4
 have st4:tn 0 h4:=T.keep _ _ _ st3' fun b _ o e=>old b o e
 have ok':=I4.ok
 have fpo:∀ {H':Hp},(∀ b∈fp,H' b=none)→∀ b∈fp,FpOk (compCx X x scope cl s3.heap.objs.size s3 (upd H2 D (.lst [])) fp pins) [] H' b:=fun hn b hb =>
  ⟨hn b hb,(ok'.exf b hb).1,ok'.exfs b hb,.inl hb,(ok'.exf b hb).2,fun p hp=>by
   have hp':p∈X.pn++pins:=by simpa [compCx] using hp
   exact (f3 b hb).2.2.2.2.2 p hp'⟩
 have loop:∀ s4:Shared,s4 = { s3 with heap:=h4,toks:=s3.toks + ([]:List (Str × Value)).length } →
   codeAny (model X.prog X.w) X.A (.compLoop (.ListComp elt [⟨.Name x px,iter,ifs,0⟩] scope pos) 0 (.ref it) (.ref D) (compEnvC scope cl s3.heap.objs.size X.env))
    (compPost (model X.prog X.w) X.A X.xe none (EP X pins σ Q) (.ref D) s3.heap.objs.size) s4:=by
  rintro s4 rfl
  refine codeAny_loop rfl (fun n s'=>∃ i v0 H' ys,Inv (compCx X x scope cl s3.heap.objs.size s3 (upd H2 D (.lst [])) fp pins) [] (v0::σ) H' s'∧tn i s'.heap∧(∀ b∈fp,H' b=none)∧W i n H' ys) ?_ m0
   ⟨0,none,_,[],I4,st4,fun b hb=>(f3 b hb).1,w0⟩
  rintro n s5 ⟨i,v0,H5,ys,I5,st5,fr5,w5⟩
  show wpAny _ X.A ((compTurn (.ListComp elt [⟨.Name x px,iter,ifs,0⟩] scope pos) 0 (.ref it) (.ref D) (compEnvC scope cl s3.heap.objs.size X.env)).onRaise _) _ _ s5
  refine wpAny_noted ?_
  rw [compTurn_list]
  refine wpAny_bind ?_;refine wpAny_standAt (wpAny_bind ?_)
  obtain ⟨hD5,⟨stop,qs⟩ | ⟨go,step⟩⟩:=turn i n H5 ys w5
  ·refine wpAny_mono (T.done (compCx X x scope cl s3.heap.objs.size s3 (upd H2 D (.lst [])) fp pins) rfl rfl rfl hc i [] s5 _ H5 (fun _ _=>False) I5 (fpo fr5) st5 stop) (fun r s6 ⟨hr,I6⟩=>?_) fun _ _ f=>f.elim
   subst hr
   obtain ⟨m6,hn6,_⟩:=id I6.loc
   exact wpAny_pure ⟨m6,hn6,fun h7 hs7=>⟨.ref D,H5,comp_back I3 f3 I6 hs7,rfl,qs⟩⟩
  ·refine wpAny_mono (T.item (compCx X x scope cl s3.heap.objs.size s3 (upd H2 D (.lst [])) fp pins) rfl rfl rfl hc i [] s5 _ H5 (fun _ _=>False) I5 (fpo fr5) st5 go) (fun r s6 ⟨u,hr,h6⟩=>?_) fun _ _ f=>f.elim
   subst hr
   refine wpAny_bind (wpAny_mono h6 (fun _ s7 ⟨y,H7,I7,r7,y7,st7,fr7⟩=>?_) fun _ _ f=>f.elim)
   have I7':=I7.pinned (fpo fr7) (T.obj _ _ st7)
   have own':(relabel scope X.env).names.lookup x=some .local:=lookup_relabel_local O.own
   refine wpAny_bind (wpAny_mono (pg_name (i:=0) (X:=compCx X x scope cl s3.heap.objs.size s3 (upd H2 D (.lst [])) fp pins) O.nd rfl (.inl own') (.inr own') _ s7 _ H7 y u (fun σ' H'=>σ'=some y::σ∧H'=H7) I7' r7 ⟨rfl,rfl⟩) (fun _ s8 ⟨σ8,H8,I8,e8,e8'⟩=>?_) fun _ _ f=>f.elim)
   subst e8 e8'
   have again:∀ {v9:Option V} {H9:Hp} {ys9:List V} {s9:Shared} {m9:Nat},Inv (compCx X x scope cl s3.heap.objs.size s3 (upd H2 D (.lst [])) fp pins) ([]++pinsAt fp s7.heap) (v9::σ) H9 s9→W (i + 1) m9 H9 ys9 →
     ∃ i v0 H' ys,Inv (compCx X x scope cl s3.heap.objs.size s3 (upd H2 D (.lst [])) fp pins) [] (v0::σ) H' s9∧tn i s9.heap∧(∀ b∈fp,H' b=none)∧W i m9 H' ys:=fun {v9 H9 ys9 s9 m9} I9 w9=>by
    refine ⟨i + 1,v9,H9,ys9,I9.unpinned,T.keep _ _ _ st7 fun b hb o e=>(I9.pin (b,o) (List.mem_append_right _ (List.mem_append_right _ (mem_pinsAt hb e)))).1,fun b hb=>?_,w9⟩
    obtain ⟨o,e,_⟩:=T.obj _ _ st7 b hb
    exact (I9.pin (b,o) (List.mem_append_right _ (List.mem_append_right _ (mem_pinsAt hb e)))).2.1
   refine wpAny_bind (wpAny_mono (ht cl s3.heap.objs.size s3 _ fp pins _ s8 _ H8 _ I8 (step y H8 y7)) (fun ok s9 ⟨H9,I9,q9⟩=>?_) fun _ _ f=>f.elim)
   cases ok with
   | false =>
    rw [if_neg Bool.false_ne_true] at q9
    obtain ⟨m',hm,w9⟩:=q9
    exact wpAny_pure ⟨rfl,m',hm,again I9 w9⟩
   | true =>
    rw [if_pos rfl] at q9
    refine wpAny_bind (wpAny_bind (wpAny_mono (he cl s3.heap.objs.size s3 _ fp pins _ s9 _ H9 _ I9 q9) (fun v s10 ⟨z,H10,I10,r10,hd10,hz10,m',hm,w10⟩=>?_) fun _ _ f=>f.elim))
    refine wpAny_bind (wpAny_mono (mt_append (X:=compCx X x scope cl s3.heap.objs.size s3 (upd H2 D (.lst [])) fp pins) _ s10 _ H10 (.ref D) [z] (.ref D) [v] (fun _ H'=>H'=upd H10 D (.lst (ys++[z]))) I10 rfl (.cons r10 .nil) ⟨D,ys,z,rfl,rfl,hd10,hz10,rfl⟩) (fun _ s11 ⟨_,H11,I11,_,e11⟩=>?_) fun _ _ f=>f.elim)
    subst e11
    exact wpAny_pure (wpAny_pure ⟨rfl,m',hm,again I11 w10⟩)
 exact codeAny_compStart_list (loop _ rfl) (T.self _ 0 _ _ _ st4 (loop _ rfl))
theorem pe_comp0 {elt iter:Expr} {px pos:Pos} {wi:TI} {te:TE} (hc:X.calm=true) (hsc:X.env.scope=sc) (hN:X.N=N) (O:CompOk x scope sc N) (hi:PI X (.Name x px) iter wi)
  (he:∀ cl C s H fp pins,PE (compCx X x scope cl C s H fp pins) elt te) (hs:∀ z,foldedSetIterable iter X.env z=pure z:=by intro _;rfl):PE X (.ListComp elt [⟨.Name x px,iter,[],0⟩] scope pos) (tComp wi (fun _ H Q=>Q true H) te) :=
 pe_compG hc hsc hN O hi (fun _ _ _ _ _ _ _ _ _ H' _ I q=>wpAny_tests_nil ⟨H',I,q⟩) he hs
theorem pe_comp1 {elt iter c:Expr} {px pos:Pos} {wi:TI} {tt:TT} {te:TE} (hc:X.calm=true) (hsc:X.env.scope=sc) (hN:X.N=N) (O:CompOk x scope sc N) (hi:PI X (.Name x px) iter wi)
  (ht:∀ cl C s H fp pins,PT (compCx X x scope cl C s H fp pins) c tt) (he:∀ cl C s H fp pins,PE (compCx X x scope cl C s H fp pins) elt te)
  (hs:∀ z,foldedSetIterable iter X.env z=pure z:=by intro _;rfl):PE X (.ListComp elt [⟨.Name x px,iter,[c],0⟩] scope pos) (tComp wi tt te) :=
 pe_compG hc hsc hN O hi (fun cl C s H fp pins pins' s' σ' H' Q I q=>wpAny_tests_one (ht cl C s H fp pins pins' s' σ' H' Q I q)) he hs
end
end L2
namespace L2
open PySem PySem.Spec PyProof.Rows Mt
theorem Same.tup {K:PySem.W.Frag} {H H':Hp} {a:Addr} {xs:List V} (e:Same H H') (h:SqT K H a xs):SqT K H' a xs:=by
 rcases h with (h | ⟨o,h⟩) | h
 ·exact .inl (.inl (e _ _ h))
 ·exact .inl (.inr ⟨o,e _ _ h⟩)
 ·exact .inr h
def SqA (K:PySem.W.Frag) (H:Hp) (a:Addr) (xs:List V):Prop:=SqL K H a xs∨SqT K H a xs
theorem Same.any {K:PySem.W.Frag} {H H':Hp} {a:Addr} {xs:List V} (e:Same H H') (h:SqA K H a xs):SqA K H' a xs:=h.elim (fun h=>.inl (e.seq h)) fun h=>.inr (e.tup h)
def rIxA (K:PySem.W.Frag):R2:=fun x y H Q=>∃ p xs i v,x = .ref p∧y = .int i∧SqA K H p xs∧atI xs i=some v∧Q v H
section
variable {X:Cx} {tg:Expr}
theorem ix_any:IxR X (rIxA X.K):=by
 intro value slice pins s σ H x y v u Q I rx ry h hsub
 obtain ⟨p,xs,i,z,e1,e2,hq,ha,q⟩:=h
 rcases hq with hq | hq
 ·exact ix_list value slice pins s σ H x y v u Q I rx ry ⟨p,xs,i,z,e1,e2,hq,ha,q⟩ hsub
 ·exact ix_tup value slice pins s σ H x y v u Q I rx ry ⟨p,xs,i,z,e1,e2,hq,ha,q⟩ hsub
theorem ix_listK {K:PySem.W.Frag} (h:X.K=K):IxR X (rIxL K):=by subst h;exact ix_list
theorem ix_tupK {K:PySem.W.Frag} (h:X.K=K):IxR X (rIxT K):=by subst h;exact ix_tup
end
theorem comp_range {lo:Int} {n:Nat} {tt:TT} {te:TE} {σ:St} {H:Hp} {Q:VK} {D:Addr} (Pv:Nat→Hp→List V→Prop) (h0:Pv 0 (upd H D (.lst [])) [])
  (hs:∀ i H2 ys (kk:Hp→List V→Prop),(∀ H' ys',Pv (i + 1) H' ys'→kk H' ys')→i<n→Pv i H2 ys→H2 D=some (.lst ys)∧tt (some (.int (lo + i))::σ) H2 fun b H4 =>
   if b=true then te (some (.int (lo + i))::σ) H4 fun v H5=>H5 D=some (.lst ys)∧ys.length<sizeLine∧kk (upd H5 D (.lst (ys++[v]))) (ys++[v]) else kk H4 ys)
  (hd:∀ H2 ys,Pv n H2 ys→H2 D=some (.lst ys)∧Q (.ref D) H2) :
  ∃ W:Nat→Nat→Hp→List V→Prop,(∃ m,W 0 m (upd H D (.lst [])) [])∧∀ i m H2 ys,W i m H2 ys→H2 D=some (.lst ys)∧(((Itr lo n).stop i H2∧Q (.ref D) H2)∨((Itr lo n).go i H2∧∀ x H3,(Itr lo n).yld i H2 x H3→tt (some x::σ) H3 fun b H4 =>
   if b=true then te (some x::σ) H4 fun v H5=>H5 D=some (.lst ys)∧ys.length<sizeLine∧∃ m',m'<m∧W (i + 1) m' (upd H5 D (.lst (ys++[v]))) (ys++[v]) else ∃ m',m'<m∧W (i + 1) m' H4 ys)):=by
 refine ⟨fun i m H2 ys=>m=n - i∧i≤n∧Pv i H2 ys,⟨n,by simp,Nat.zero_le _,h0⟩,?_⟩
 rintro i m H2 ys ⟨rfl,hi,p⟩
 by_cases hlt:i<n
 ·obtain ⟨h1,h2⟩:=hs i H2 ys (fun H' ys'=>∃ m',m'<n - i∧m'=n - (i + 1)∧i + 1≤n∧Pv (i + 1) H' ys') (fun H' ys' p'=>⟨n - (i + 1),by omega,rfl,hlt,p'⟩) hlt p
  refine ⟨h1,.inr ⟨hlt,fun x H3 y=>?_⟩⟩
  obtain ⟨e,y⟩:=y
  subst e y
  exact h2
 ·have e:i=n:=by omega
  subst e
  exact ⟨(hd H2 ys p).1,.inl ⟨Nat.le_refl _,(hd H2 ys p).2⟩⟩
theorem comp_list {K:PySem.W.Frag} {a:Addr} {xs:List V} {tt:TT} {te:TE} {σ:St} {H:Hp} {Q:VK} {D:Addr} (Pv:Nat→Hp→List V→Prop) (h0:Pv 0 (upd H D (.lst [])) []) (hl:∀ i H2 ys,Pv i H2 ys→SqL K H2 a xs∧H2 D=some (.lst ys))
  (hs:∀ i x H2 ys (kk:Hp→List V→Prop),(∀ H' ys',Pv (i + 1) H' ys'→kk H' ys')→xs[i]? = some x→Pv i H2 ys→tt (some x::σ) H2 fun b H4 =>
   if b=true then te (some x::σ) H4 fun v H5=>H5 D=some (.lst ys)∧ys.length<sizeLine∧kk (upd H5 D (.lst (ys++[v]))) (ys++[v]) else kk H4 ys)
  (hd:∀ H2 ys,Pv xs.length H2 ys→Q (.ref D) H2) :
  ∃ W:Nat→Nat→Hp→List V→Prop,(∃ m,W 0 m (upd H D (.lst [])) [])∧∀ i m H2 ys,W i m H2 ys→H2 D=some (.lst ys)∧(((Itl K a).stop i H2∧Q (.ref D) H2)∨((Itl K a).go i H2∧∀ x H3,(Itl K a).yld i H2 x H3→tt (some x::σ) H3 fun b H4 =>
   if b=true then te (some x::σ) H4 fun v H5=>H5 D=some (.lst ys)∧ys.length<sizeLine∧∃ m',m'<m∧W (i + 1) m' (upd H5 D (.lst (ys++[v]))) (ys++[v]) else ∃ m',m'<m∧W (i + 1) m' H4 ys)):=by
 refine ⟨fun i m H2 ys=>m=xs.length - i∧i≤xs.length∧Pv i H2 ys,⟨xs.length,by simp,Nat.zero_le _,h0⟩,?_⟩
 rintro i m H2 ys ⟨rfl,hi,p⟩
 obtain ⟨h1,h2⟩:=hl i H2 ys p
 refine ⟨h2,?_⟩
 by_cases hlt:i<xs.length
 ·refine .inr ⟨⟨xs,xs[i],h1,by simp [hlt]⟩,fun x H3 y=>?_⟩
  obtain ⟨e,y⟩:=y
  subst e
  exact hs i x H3 ys (fun H' ys'=>∃ m',m'<xs.length - i∧m'=xs.length - (i + 1)∧i + 1≤xs.length∧Pv (i + 1) H' ys') (fun H' ys' p'=>⟨xs.length - (i + 1),by omega,rfl,hlt,p'⟩) (y xs h1) p
 ·have e:i=xs.length:=by omega
  subst e
  exact .inl ⟨⟨xs,h1,Nat.le_refl _⟩,hd H2 ys p⟩
end L2
namespace L2
open PySem PySem.Spec PyProof.Rows
section
variable {prog:Program} {w:World} {A:Around} {E:Value→Shared→Prop} {s:Shared}
theorem gather_tup {t:Addr} {us:List Value} {Q:List Value→Shared→Prop} (ht:IsTup s.heap t us.toArray) (hz:us.length≤sizeLine)
  (q:Q us { s with heap:=(s.heap.push (seqObj "list" #[] 0)).update s.heap.objs.size (Obj.mapSeq (·++us.toArray)) }):wpAny (model prog w) A (collect (.ref t)) Q E s:=by
 obtain ⟨ob,e,hc,n,hd⟩:=ht
 unfold collect;refine wpAny_bind (wpAny_runValue (codeAny_builtin entry_proto_collect' ?_))
 show wpAny _ _ (do again (.builtin "list.__iadd__" ⟨[← newList [],.ref t],[]⟩)) _ _ s
 refine wpAny_bind ?_;refine wpAny_newList (wpAny_pure ⟨Code.quiet_builtin _ (by decide +kernel),codeAny_builtin entry_list_iadd' ?_⟩)
 show wpAny _ _ (Builtin.List.listExtendWith (.ref s.heap.objs.size) (.ref t) (.ref s.heap.objs.size)) _ _ { s with heap:=s.heap.push (seqObj "list" #[] 0) }
 unfold Builtin.List.listExtendWith;have e':(s.heap.push (seqObj "list" #[] 0)).get? t=some ob:=Heap.get?_push_of_some _ e
 refine wpAny_bind (wpAny_typeOf (T:="tuple") ⟨ob,e',hc⟩ ?_)
 have h2:(Value.type "tuple" == Value.type "tuple")=true:=by rfl
 rw [if_pos (by rw [h2];simp)]
 refine wpAny_bind (listItems_at e' hd (wpAny_bind (listItems_at (xs:=#[]) (n:=0) (Heap.get?_push_size _ rfl) rfl ?_)))
 rw [if_neg (by simp)]
 refine wpAny_bind (listUpdate_at (xs:=#[]) (n:=0) (Heap.get?_push_size _ rfl) rfl ?_ (Nat.zero_le _) (by show (#[]++us.toArray).size≤sizeLine + 1;simp only [Array.size_append,List.size_toArray,List.length_nil];omega))
 refine wpAny_pure ?_
 show wpAny (model prog w) A (load s.heap.objs.size >>= fun o=>(match o.data with
   | .seq xs _=>pure xs.toList
   | _=>unsupported "internal:collect":Sem (List Value))) Q E { s with heap:=(s.heap.push (seqObj "list" #[] 0)).update s.heap.objs.size (Obj.mapSeq (·++us.toArray)) }
 refine wpAny_bind ?_;refine wpAny_load (get?_update_seq (Heap.get?_push_size _ rfl) _) ?_
 show wpAny _ _ (pure ((#[]:Array Value)++us.toArray).toList) Q E _
 rw [show ((#[]:Array Value)++us.toArray).toList=us by simp]
 exact wpAny_pure q
theorem sorted_tup {t:Addr} {us:List Value} {ns:List Int} {Q:Value→Shared→Prop} (ht:IsTup s.heap t us.toArray) (hI:IntsAre us ns) (h64:us.length<64)
  (q:∀ (out:Array Value) (ms:List Int),IntsAre out.toList ms→ms.Perm ns→ms.Pairwise (·≤·)→Q (.ref (s.heap.objs.size + 1)) { s with heap:=sortedAll s.heap us out }) :
  wpAny (model prog w) A (call (.builtin "sorted") [.ref t]) Q E s:=by
 refine Calls.call_function_entry kind_sorted plain_sorted entry_sorted (args_sorted1 _) ?_;unfold Builtin.«sorted»;refine wpAny_bind (m:=checkCount "sorted" 1 1 _) (wpAny_pure ?_)
 refine wpAny_bind (gather_tup ht (by rw [sizeLine_eq];omega) (wpAny_bind (wpAny_newList ?_)))
 have z1:((s.heap.push (seqObj "list" #[] 0)).update s.heap.objs.size (Obj.mapSeq (·++us.toArray))).objs.size=s.heap.objs.size + 1:=by rw [Heap.size_update,size_push']
 have z2:(((s.heap.push (seqObj "list" #[] 0)).update s.heap.objs.size (Obj.mapSeq (·++us.toArray))).push (seqObj "list" us.toArray 0)).get? (s.heap.objs.size + 1)=some (seqObj "list" us.toArray 0):=by rw [← z1];exact Heap.get?_push_size _ rfl
 show wpAny _ _ _ _ _ { s with heap:=((s.heap.push (seqObj "list" #[] 0)).update s.heap.objs.size (Obj.mapSeq (·++us.toArray))).push (seqObj "list" us.toArray 0) }
 rw [z1]
 refine wpAny_bind (wpAny_holding (wpAny_call_entry slot_list_sort ⟨_,z2,rfl⟩ entry_list_sort (list_sort_tree z2 hI h64 fun out ms a1 a2 a3=>⟨_,rfl,?_⟩) (args_list_sort _)))
 exact wpAny_pure ⟨_,rfl,q out ms a1 a2 a3⟩
end
section
variable {X:Cx}
theorem call_sorted_ints:CallR X (.builtin "sorted") (fun xs H Q=>∃ (p:Addr) (ns:List Int),xs=[.ref p]∧SqA X.K H p (ns.map V.int)∧ns.length<64∧∀ (l:Addr) (ms:List Int),ms.Perm ns→ms.Pairwise (·≤·)→H l=none→Q (.ref l) (upd H l (.lst (ms.map V.int)))):=by
 intro pins s σ H xs us Q I r h
 obtain ⟨p,ns,rfl,hq,h64,q⟩:=h
 obtain ⟨u,rfl,rx⟩:=vals1 r
 cases rx
 have fin:∀ (its:List Value) (out:Array Value) (ms:List Int),IntsAre out.toList ms→ms.Perm ns→ms.Pairwise (·≤·)→EP X pins σ Q (.ref (s.heap.objs.size + 1)) { s with heap:=sortedAll s.heap its out }:=fun its out ms a1 a2 a3=>by
  obtain ⟨e,he⟩:=sortedAll_at s.heap its out
  have hl:=a2.length_eq
  refine ⟨.ref (s.heap.objs.size + 1),_,I.laid (t':=s.toks) (fun _ _=>sortedAll_old) (Nat.le_succ _) (show ObjOk X.prog X.w _ _ _ (.lst (ms.map V.int)) from ⟨?_,out.toList,e,vals_ints a1,?_⟩),rfl,q _ ms a2 a3 (I.hok.fresh (Nat.le_succ _))⟩
  ·rw [List.length_map,hl];exact Nat.le_of_lt (small1000 (by omega))
  ·rw [Array.toArray_toList];exact he
 rcases hq with hq | hq
 ·obtain ⟨its,r',pl,hz⟩:=I.list hq
  have hlen:=r'.length
  rw [List.length_map] at hlen
  exact sorted_ints pl.isList (intsAre_of r') (by omega) fun out ms a1 a2 a3=>fin its out ms a1 a2 a3
 ·obtain ⟨its,r',pl,hz⟩:=I.tuple hq
  have hlen:=r'.length
  rw [List.length_map] at hlen
  exact sorted_tup pl (intsAre_of r') (by omega) fun out ms a1 a2 a3=>fin its out ms a1 a2 a3
end
end L2
namespace My
open PySem L2 Mt
structure Shop (ws:List Int):Prop where
 lo:∀ v∈ws,10≤v
 hi:∀ v∈ws,v≤127
 nd:ws.Nodup
theorem Shop.snoc {ws:List Int} {t:Int} (h:Shop ws) (h0:10≤t) (h1:t≤127) (n:t ∉ ws):Shop (ws++[t]) where
 lo:=fun v hv=>(List.mem_append.mp hv).elim (h.lo v) fun e=>by rw [List.mem_singleton.mp e];exact h0
 hi:=fun v hv=>(List.mem_append.mp hv).elim (h.hi v) fun e=>by rw [List.mem_singleton.mp e];exact h1
 nd:=by
  rw [List.nodup_append]
  exact ⟨h.nd,by simp,fun a ha b hb=>by rw [List.mem_singleton.mp hb];intro e;exact n (e ▸ ha)⟩
theorem free_tooth:∀ (n:Nat) (ws:List Int),ws.length<n→∃ i:Nat,i<n∧(10 + (i:Int)) ∉ ws
 | 0,_,h=>absurd h (Nat.not_lt_zero _)
 | n + 1,ws,h=>by
  by_cases m:(10 + (n:Int))∈ws
  ·have hl:=List.length_erase_of_mem m
   have hp:0<ws.length:=List.length_pos_of_mem m
   obtain ⟨i,hi,hn⟩:=free_tooth n (ws.erase (10 + (n:Int))) (by omega)
   exact ⟨i,by omega,fun z=>hn ((List.mem_erase_of_ne (by omega)).mpr z)⟩
  ·exact ⟨n,Nat.lt_succ_self _,m⟩
theorem in_ints (t:Int) (ws:List Int):inV (.int t) (ws.map V.int)=decide (t∈ws):=by
 unfold inV
 induction ws with
 | nil=>simp
 | cons w r ih =>
  rw [List.map_cons,List.any_cons,ih]
  have:eqV (.int w) (.int t)=decide (t=w):=by
   show (w == t)=_
   by_cases e:t=w
   ·simp [e]
   ·have:¬ w=t:=fun z=>e z.symm
    simp [e,this]
  rw [this]
  by_cases e:t=w <;> simp [e]
theorem flat_ints (ws:List Int):(ws.map V.int).all flatV=true:=by
 induction ws with
 | nil=>rfl
 | cons w r ih=>rw [List.map_cons,List.all_cons,ih];rfl
def ratT:List Int→Int
 | [a,_]=>a
 | [a,_,c,_]=>a * c
 | _=>0
def ratB:List Int→Int
 | [_,b]=>b
 | [_,b,_,d]=>b * d
 | _=>0
structure Train (ws:List Int):Prop where
 len:ws.length=2∨ws.length=4
 lo:∀ v∈ws,10≤v
 hi:∀ v∈ws,v≤127
theorem Train.cases {ws:List Int} (h:Train ws):(∃ a b,ws=[a,b])∨∃ a b c d,ws=[a,b,c,d]:=by
 obtain ⟨l,_,_⟩:=h
 match ws,l with
 | [a,b],_=>exact .inl ⟨a,b,rfl⟩
 | [a,b,c,d],_=>exact .inr ⟨a,b,c,d,rfl⟩
 | [],h=>simp at h
 | [_],h=>simp at h
 | [_,_,_],h=>simp at h
 | _::_::_::_::_::_,h=>simp at h
theorem mul_in {x y:Int} (h1:10≤x) (h2:x≤127) (h3:10≤y) (h4:y≤127):1≤x * y∧x * y≤16129:=by
 have a1:=Int.mul_le_mul h2 h4 (by omega) (by decide)
 have a2:=Int.mul_le_mul h1 h3 (by decide) (by omega)
 omega
theorem Train.in {ws:List Int} (h:Train ws):1≤ratT ws∧ratT ws≤16129∧1≤ratB ws∧ratB ws≤16129:=by
 rcases h.cases with ⟨a,b,rfl⟩ | ⟨a,b,c,d,rfl⟩
 ·have h1:=h.lo a (by simp);have h2:=h.hi a (by simp);have h3:=h.lo b (by simp);have h4:=h.hi b (by simp)
  show 1≤a∧a≤16129∧1≤b∧b≤16129
  omega
 ·have h1:=h.lo a (by simp);have h2:=h.hi a (by simp);have h3:=h.lo b (by simp);have h4:=h.hi b (by simp)
  have h5:=h.lo c (by simp);have h6:=h.hi c (by simp);have h7:=h.lo d (by simp);have h8:=h.hi d (by simp)
  have e1:=mul_in h1 h2 h5 h6
  have e2:=mul_in h3 h4 h7 h8
  exact ⟨e1.1,e1.2,e2.1,e2.2⟩
def TL (H:Hp) (D:Addr) (tss:List (List Int)):Prop:=∃ rs:List Addr,H D=some (.lst (rs.map V.ref))∧Paired (fun r t=>H r=some (.tup (t.map V.int))) rs tss
theorem pair_mono {H H':Hp} (e:Same H H'):∀ {rs:List Addr} {tss:List (List Int)},Paired (fun r t=>H r=some (.tup (t.map V.int))) rs tss→Paired (fun r t=>H' r=some (.tup (t.map V.int))) rs tss
 | _,_,.nil=>.nil
 | _,_,.cons h t=>.cons (e _ _ h) (pair_mono e t)
theorem TL.mono {H H':Hp} {D:Addr} {tss:List (List Int)} (h:TL H D tss) (e:Same H H'):TL H' D tss:=by
 obtain ⟨rs,h1,h2⟩:=h
 exact ⟨rs,e _ _ h1,pair_mono e h2⟩
theorem pair_upd {H:Hp} {D r:Addr} {xs:List V} {o o':HO} (hD:H D=some (.lst xs)) (hr:H r=none):∀ {rs:List Addr} {tss:List (List Int)},Paired (fun r t=>H r=some (.tup (t.map V.int))) rs tss →
  Paired (fun q t=>(upd (upd H r o) D o') q=some (.tup (t.map V.int))) rs tss
 | _,_,.nil=>.nil
 | _,_,.cons h t=>.cons (by rw [upd_ne (ne_of h hD (by intro z;cases z)),upd_ne (ne_of_none h hr)];exact h) (pair_upd hD hr t)
theorem TL.push {H:Hp} {D r:Addr} {rs:List Addr} {tss:List (List Int)} {t:List Int} (h1:H D=some (.lst (rs.map V.ref))) (h2:Paired (fun r t=>H r=some (.tup (t.map V.int))) rs tss) (hr:H r=none) :
  TL (upd (upd H r (.tup (t.map V.int))) D (.lst (rs.map V.ref++[V.ref r]))) D (tss++[t]):=by
 refine ⟨rs++[r],by rw [upd_same,List.map_append];rfl,Paired.snoc (pair_upd h1 hr h2) ?_⟩
 rw [upd_ne (Ne.symm (ne_of_none h1 hr)),upd_same]
theorem same_push {H0 H:Hp} {D r:Addr} {o o':HO} (s:Same H0 H) (hD:H0 D=none) (hr:H r=none):Same H0 (upd (upd H r o) D o'):=fun b u e=>by
 rw [upd_ne (ne_of_none e hD),upd_ne (ne_of_none (s b u e) hr)]
 exact s b u e
theorem int_at {ts:List Int} {i:Nat} {x:V} (h:(ts.map V.int)[i]? = some x):∃ a,x = .int a∧ts[i]? = some a:=by
 rw [List.getElem?_map] at h
 cases e:ts[i]? with
 | none=>rw [e] at h;cases h
 | some a=>rw [e] at h;exact ⟨a,(Option.some.inj h).symm,rfl⟩
theorem take_more {α:Type} {l:List α} {i:Nat} {a:α} (h:l[i]? = some a):l.take (i + 1)=l.take i++[a]:=by
 rw [List.take_add_one,h];rfl
theorem big {n:Nat} (h:n≤100000):n<sizeLine:=Nat.lt_of_le_of_lt h (by decide)
def rowM (ts:List Int) (a:Int):List (List Int):=(ts.filter fun b=>decide (a≠b)).map fun b=>[a,b]
def pairsM (ts:List Int):List (List Int):=ts.flatMap (rowM ts)
theorem tl_at {H:Hp}:∀ {rs:List Addr} {tss:List (List Int)} {i:Nat} {x:V},Paired (fun r t=>H r=some (.tup (t.map V.int))) rs tss→(rs.map V.ref)[i]? = some x→∃ r t,x = .ref r∧tss[i]? = some t∧H r=some (.tup (t.map V.int))
 | _,_,i,x,.nil,h=>by simp at h
 | _,_,0,x,.cons h t,e=>⟨_,_,by simpa using e.symm,rfl,h⟩
 | _,_,i + 1,x,.cons h t,e=>by
  obtain ⟨r,u,e1,e2,e3⟩:=tl_at (i:=i) (x:=x) t (by simpa using e)
  exact ⟨r,u,e1,by simpa using e2,e3⟩
def okB (f b:List Int):Bool:=decide (b.getD 0 0 ∉ f) && decide (b.getD 1 0 ∉ f)
def rowF (ps:List (List Int)) (f:List Int):List (List Int):=(ps.filter (okB f)).map fun b=>f++b
def foursM (ps:List (List Int)):List (List Int):=ps.flatMap (rowF ps)
def allT (ts:List Int):List (List Int):=pairsM ts++foursM (pairsM ts)
theorem mem_pairsM {ts:List Int} {p:List Int}:p∈pairsM ts ↔ ∃ a b,a∈ts∧b∈ts∧a≠b∧p=[a,b]:=by
 unfold pairsM rowM
 simp only [List.mem_flatMap,List.mem_map,List.mem_filter,decide_eq_true_eq]
 constructor
 ·rintro ⟨a,ha,b,⟨hb,ne⟩,rfl⟩;exact ⟨a,b,ha,hb,ne,rfl⟩
 ·rintro ⟨a,b,ha,hb,ne,rfl⟩;exact ⟨a,ha,b,⟨hb,ne⟩,rfl⟩
theorem mem_foursM {ts:List Int} {p:List Int}:p∈foursM (pairsM ts) ↔ ∃ a b c d,(a∈ts∧b∈ts∧c∈ts∧d∈ts)∧a≠b∧c≠d∧a≠c∧a≠d∧b≠c∧b≠d∧p=[a,b,c,d]:=by
 unfold foursM rowF okB
 simp only [List.mem_flatMap,List.mem_map,List.mem_filter,Bool.and_eq_true,decide_eq_true_eq]
 constructor
 ·rintro ⟨f,hf,b,⟨hb,n1,n2⟩,rfl⟩
  obtain ⟨x,y,hx,hy,ne,rfl⟩:=mem_pairsM.mp hf
  obtain ⟨u,v,hu,hv,ne2,rfl⟩:=mem_pairsM.mp hb
  simp only [List.getD_cons_zero,List.getD_cons_succ,List.mem_cons,List.not_mem_nil,or_false,not_or] at n1 n2
  exact ⟨x,y,u,v,⟨hx,hy,hu,hv⟩,ne,ne2,fun e=>n1.1 e.symm,fun e=>n2.1 e.symm,fun e=>n1.2 e.symm,fun e=>n2.2 e.symm,rfl⟩
 ·rintro ⟨a,b,c,d,⟨ha,hb,hc,hd⟩,n1,n2,n3,n4,n5,n6,rfl⟩
  refine ⟨[a,b],mem_pairsM.mpr ⟨a,b,ha,hb,n1,rfl⟩,[c,d],⟨mem_pairsM.mpr ⟨c,d,hc,hd,n2,rfl⟩,?_,?_⟩,rfl⟩
  ·simp only [List.getD_cons_zero,List.mem_cons,List.not_mem_nil,or_false,not_or];exact ⟨fun e=>n3 e.symm,fun e=>n5 e.symm⟩
  ·simp only [List.getD_cons_zero,List.getD_cons_succ,List.mem_cons,List.not_mem_nil,or_false,not_or];exact ⟨fun e=>n4 e.symm,fun e=>n6 e.symm⟩
theorem allT_train {ts:List Int} (lo:∀ v∈ts,10≤v) (hi:∀ v∈ts,v≤127):∀ t∈allT ts,Train t:=fun t ht=>by
 rcases List.mem_append.mp ht with h | h
 ·obtain ⟨a,b,ha,hb,_,rfl⟩:=mem_pairsM.mp h
  refine ⟨.inl rfl,fun v hv=>?_,fun v hv=>?_⟩ <;> simp only [List.mem_cons,List.not_mem_nil,or_false] at hv <;> rcases hv with rfl | rfl
  ·exact lo _ ha
  ·exact lo _ hb
  ·exact hi _ ha
  ·exact hi _ hb
 ·obtain ⟨a,b,c,d,⟨ha,hb,hc,hd⟩,_,_,_,_,_,_,rfl⟩:=mem_foursM.mp h
  refine ⟨.inr rfl,fun v hv=>?_,fun v hv=>?_⟩ <;> simp only [List.mem_cons,List.not_mem_nil,or_false] at hv <;> rcases hv with rfl | rfl | rfl | rfl
  ·exact lo _ ha
  ·exact lo _ hb
  ·exact lo _ hc
  ·exact lo _ hd
  ·exact hi _ ha
  ·exact hi _ hb
  ·exact hi _ hc
  ·exact hi _ hd
theorem paired_app {H:Hp}:∀ {r1 r2:List Addr} {t1 t2:List (List Int)},Paired (fun r t=>H r=some (.tup (t.map V.int))) r1 t1→Paired (fun r t=>H r=some (.tup (t.map V.int))) r2 t2→Paired (fun r t=>H r=some (.tup (t.map V.int))) (r1++r2) (t1++t2)
 | _,_,_,_,.nil,h=>h
 | _,_,_,_,.cons h t,h2=>.cons h (paired_app t h2)
def pool:List Int:=[20,30,40,50,60,80,100,120,90,45,24,36]
theorem pool_nd:pool.Nodup:=by decide
theorem pool_in:∀ v∈pool,10≤v∧v≤127:=by decide
theorem pool_at {i:Int} (h0:0≤i) (h1:i<12):∃ v:Int,atI (pool.map V.int) i=some (.int v)∧pool[i.toNat]? = some v∧10≤v∧v≤127:=by
 have hk:i.toNat<pool.length:=by show i.toNat<12;omega
 refine ⟨pool[i.toNat],?_,List.getElem?_eq_getElem hk,pool_in _ (List.getElem_mem hk)⟩
 have ek:i=((i.toNat:Nat):Int):=by omega
 have:=atI_nat (xs:=pool.map V.int) (j:=i.toNat) (v:=.int pool[i.toNat]) (by rw [List.getElem?_map,List.getElem?_eq_getElem hk] <;> rfl)
 rw [← ek] at this
 exact this
theorem pool_inj {i j:Nat} {v:Int} (h:pool[i]? = some v) (g:pool[j]? = some v):i=j:=by
 obtain ⟨a1,a2⟩:=List.getElem?_eq_some_iff.mp h
 obtain ⟨b1,b2⟩:=List.getElem?_eq_some_iff.mp g
 have nd:=pool_nd
 exact (List.getElem_inj nd).mp (a2.trans b2.symm)
theorem perm_erase {l:List Int}:∀ {k:Nat} {v:Int},l[k]? = some v→(v::l.eraseIdx k).Perm l:=by
 induction l with
 | nil=>intro k v h;simp at h
 | cons a r ih =>
  intro k v h
  cases k with
  | zero=>simp at h;subst h;exact List.Perm.refl _
  | succ k =>
   have h':r[k]? = some v:=by simpa using h
   have:=ih h'
   show (v::a::r.eraseIdx k).Perm (a::r)
   exact (List.Perm.swap a v _).trans (this.cons a)
theorem map_eraseIdx (l:List Int):∀ k:Nat,(l.map V.int).eraseIdx k=(l.eraseIdx k).map V.int:=by
 induction l with
 | nil=>intro k;rfl
 | cons a r ih =>
  intro k
  cases k with
  | zero=>rfl
  | succ k=>show V.int a::(r.map V.int).eraseIdx k=_;rw [ih k];rfl
end My
namespace My
open PySem L2 Mt
def gapF (a b p q:Int):Int:=if a * q - p * b<0 then -(a * q - p * b) else a * q - p * b
def Bt (a b c d p q:Int):Prop:=gapF a b p q * d<gapF c d p q * b∨(gapF a b p q * d=gapF c d p q * b∧a * d<c * b)
instance (a b c d p q:Int):Decidable (Bt a b c d p q):=by unfold Bt;exact inferInstance
structure Best (p q:Int) (tss:List (List Int)) (c:List Int):Prop where
 ex:∃ u v,tss=u++c::v∧(∀ t∈u,Bt (ratT c) (ratB c) (ratT t) (ratB t) p q)∧∀ t∈v,¬ Bt (ratT t) (ratB t) (ratT c) (ratB c) p q
def Lx (x y:List Int):Prop:=HT.lexLt x y=true
def Bef (x y:List Int):Prop:=x.length<y.length∨(x.length=y.length∧Lx x y)
def Ex (p q:Int) (t:List Int):Prop:=ratT t * q=p * ratB t
structure First (sw:List Int) (p q:Int) (c:List Int):Prop where
 mem:c∈allT sw
 ex:Ex p q c
 least:∀ y∈allT sw,Ex p q y→y=c∨Bef c y
structure Pit (H:Hp) (r:Addr) (p q:Int):Prop where
 at_:H r=some (.tup [.int p,.int q])
 bp:Bd 300 p
 bq:Bd 300 q
 q1:1≤q
theorem Pit.mono {H H':Hp} {r:Addr} {p q:Int} (h:Pit H r p q) (s:Same H H'):Pit H' r p q:=⟨s _ _ h.at_,h.bp,h.bq,h.q1⟩
theorem Train.bT {t:List Int} (R:Train t):Bd 200 (ratT t):=by obtain ⟨h1,h2,_,_⟩:=R.in;exact Bd.of60 (by omega) (by omega)
theorem Train.bB {t:List Int} (R:Train t):Bd 200 (ratB t):=by obtain ⟨_,_,h1,h2⟩:=R.in;exact Bd.of60 (by omega) (by omega)
def exB (p q:Int) (t:List Int):Bool:=decide (ratT t * q=p * ratB t)
theorem paired_one {H:Hp} {r:Addr} {t:List Int} (h:H r=some (.tup (t.map V.int))):Paired (fun r t=>H r=some (.tup (t.map V.int))) [r] [t]:=.cons h .nil
theorem pair_upd1 {H:Hp} {D:Addr} {xs:List V} {o':HO} (hD:H D=some (.lst xs)):∀ {rs:List Addr} {tss:List (List Int)},Paired (fun r t=>H r=some (.tup (t.map V.int))) rs tss →
  Paired (fun q t=>(upd H D o') q=some (.tup (t.map V.int))) rs tss
 | _,_,.nil=>.nil
 | _,_,.cons h t=>.cons (by rw [upd_ne (ne_of h hD (by intro z;cases z))];exact h) (pair_upd1 hD t)
end My
namespace L2
open PySem PySem.Spec PyProof.Rows
abbrev freshSet (led:Bool):Obj:={ cls:=.type "set",dict:=none,data:=.set #[] 0 (.fresh 0 0 led) }
section
variable {prog:Program} {w:World} {A:Around} {E:Value→Shared→Prop} {s:Shared}
set_option maxHeartbeats 3200000 in
theorem set_tup {t:Addr} {its:Array Value} {ns:List Int} {Q:Value→Shared→Prop} (nh:A.handled=none) (ht:IsTup s.heap t its) (hi:IntsAre its.toList ns) (room:its.size + 1<scanBound)
  (q:∀ (h':Heap) (tk:Nat),h'.SetOf (intKind prog w) s.heap.objs.size (fun k=>(firstMet (fun i=>ns.getD i 0) its.size).any (· == k)) (firstMet (fun i=>ns.getD i 0) its.size).length →
   (∀ b o,b<s.heap.objs.size→s.heap.get? b=some o→h'.get? b=some o)→Q (.ref s.heap.objs.size) { s with heap:=h',toks:=tk }):wpAny (model prog w) A (call (.type "set") [.ref t]) Q E s:=by
 obtain ⟨c,tl,m1⟩:=PySem.F.called_set.mro
 have m2:=PySem.F.called_set.made;have m3:=PySem.F.called_set.sub
 refine wpAny_call (codeAny_of_tree ?_);show wpAny _ _ (callAny (.type "set") _) _ _ _
 refine wpAny_pure ⟨Code.quiet_builtin _ (by decide +kernel),codeAny_builtin PySem.F.entry_type_call ?_⟩
 rw [Around.under_plain (weight_type_call_type "set" [.ref t] []) rfl]
 have m4:=PySem.F.called_set.notType;have m5:=PySem.F.called_set.canCreate;have m6:=PySem.F.typeCall_set_1 (.ref t)
 repeat (any_goals (first | assumption | wp_step))
 refine codeAny_mono (code_set_new_1 (.ref t) (E:=E) (Q₁:=fun ob s1=>∃ led:Bool,ob = .ref s.heap.objs.size∧s1 = { s with heap:=s.heap.push (freshSet led) }) fun led=>⟨led,rfl,rfl⟩) fun r s1 hr=>?_
 cases r with
 | error e=>exact hr
 | ok fl =>
  cases fl with
  | ret ob =>
   obtain ⟨led,rfl,rfl⟩:=hr
   have gS:(s.heap.push (freshSet led)).get? s.heap.objs.size=some (freshSet led):=Heap.get?_push_size _ rfl
   have tS:Shared.TypeIs { s with heap:=s.heap.push (freshSet led) } (.ref s.heap.objs.size) "set":=⟨_,gS,rfl⟩
   have i1:=PySem.F.called_set.init.lookup;have i2:=PySem.F.called_set.init.bind (.ref s.heap.objs.size)
   repeat (any_goals (first | assumption | wp_step))
   refine codeAny_mono (codeAny_call_builtin (R:=wants (fun r s2=>r = .none∧∃ h' tk,s2 = { s with heap:=h',toks:=tk } ∧
     h'.SetOf (intKind prog w) s.heap.objs.size (fun k=>(firstMet (fun i=>ns.getD i 0) its.size).any (· == k)) (firstMet (fun i=>ns.getD i 0) its.size).length ∧
     (∀ b o,b<s.heap.objs.size→s.heap.get? b=some o→h'.get? b=some o)) E) PySem.F.called_set.init.plain PySem.F.entry_set_init (check_set_init_1 tS ?_)) fun r2 s2 hr2=>?_
   ·obtain ⟨⟨oc,od,oda,osl⟩,e0,ec,nl,ed⟩:=ht
    simp only at ec ed
    subst ec ed
    have e1:(s.heap.push (freshSet led)).get? t=some { cls:=.type "tuple",dict:=od,data:=.seq its nl,slots:=osl }:=Heap.get?_push_of_some _ e0
    have n1:=PySem.F.sub_tuple_set;have n2:=PySem.F.sub_tuple_frozenset
    have n3:(Value.type "tuple" == Value.type "dict")=false:=by decide
    have tu:(s.heap.push (freshSet led)).IsTuple t its:=⟨_,e1,rfl,nl,rfl⟩
    unfold Builtin.«set.__init__» noKeywords Builtin.Frozenset.updateFrom
    generalize hPI:pyIter=PI
    wp_walk
    subst hPI
    refine wpAny_pyIter_tuple tu (wpAny_bind (wpAny_runValue ?_))
    have lt:t<s.heap.objs.size:=Heap.lt_size e0
    have nh3:A.in1.in1.in1.handled=none:=by simp [nh]
    have ne:t≠(s.heap.push (freshSet led)).objs.size:=by rw [Heap.size_push];exact Nat.ne_of_lt (Nat.lt_succ_of_lt lt)
    have nS:s.heap.objs.size ∉ [(s.heap.push (freshSet led)).objs.size,t]:=by
     rw [Heap.size_push];simp only [List.mem_cons,List.not_mem_nil,or_false,not_or]
     exact ⟨Nat.ne_of_lt (Nat.lt_succ_self _),Nat.ne_of_gt lt⟩
    have vals:∀ (i:Nat) (v:Value),its[i]? = some v→∃ t,v = .int ((fun i=>ns.getD i 0) i) t:=fun i v hv=>IntsAre.int_at hi i v (by rw [Array.getElem?_toList];exact hv)
    refine codeAny_set_update_loopS ((Walks.tuple nh3 _ t ne its).toS) s.heap.objs.size nS (fun i=>ns.getD i 0) vals room (its.size - 0) 0 _ (by omega) (Nat.zero_le _) ⟨⟨_,Heap.get?_push_size _ rfl,rfl,rfl⟩,⟨_,Heap.get?_push_of_some _ e1,rfl,nl,rfl⟩⟩ ?_ ?_
    ·have g2:((s.heap.push (freshSet led)).push { cls:=.type "tuple_iterator",data:=.fields #[.ref t,.int 0 0] }).get? s.heap.objs.size=some (freshSet led):=Heap.get?_push_of_some _ gS
     exact SetOf_congr ((setObjOf_fresh (knd:=intKind prog w) led).setOf g2 (by unfold scanBound;omega)) (fun _=>rfl) rfl
    ·rintro ⟨h',g',d',tk',os'⟩ mv sS
     have eg:g'=s.gens:=mv.gens;have ed:d'=s.drawn:=mv.drawn;have eo:os'=s.os:=mv.os
     subst eg ed eo
     refine wpAny_pure ?_
     show wpAny _ _ (ret Value.none) _ _ _
     refine wpAny_pure ⟨rfl,h',tk',rfl,sS,fun b o hb e=>mv.heap b o ?_ (Heap.get?_push_of_some _ (Heap.get?_push_of_some _ e))⟩
     have b2:b≠(s.heap.push (freshSet led)).objs.size:=by rw [Heap.size_push];exact Nat.ne_of_lt (Nat.lt_succ_of_lt hb)
     simp only [List.mem_cons,List.not_mem_nil,or_false,not_or]
     exact ⟨Nat.ne_of_lt hb,b2⟩
   ·cases r2 with
    | error e=>exact hr2
    | ok f2 =>
     cases f2 with
     | ret r =>
      obtain ⟨rfl,h',tk,rfl,sS,kk⟩:=hr2
      repeat (any_goals (first | assumption | wp_step))
      exact q _ _ sS kk
     | _=>exact hr2.elim
  | _=>exact hr.elim
end
end L2
namespace L2
open PySem PySem.Spec PyProof.Rows
theorem met_nodup {ns:List Int} (nd:ns.Nodup):∀ n,n≤ns.length→firstMet (fun i=>ns.getD i 0) n=ns.take n
 | 0,_=>by rw [firstMet_zero,List.take_zero]
 | n + 1,h=>by
  have hn:n<ns.length:=h
  rw [firstMet_succ,met_nodup nd n (by omega)]
  have e:ns.getD n 0=ns[n]:=by rw [List.getD_eq_getElem?_getD,List.getElem?_eq_getElem hn];rfl
  have t:ns.take (n + 1)=ns.take n++[ns[n]]:=by rw [List.take_add_one,List.getElem?_eq_getElem hn];rfl
  rw [e,t]
  unfold step_dedup
  rw [if_neg]
  intro z
  obtain ⟨x,hx,ex⟩:=List.any_eq_true.mp z
  have ex':x=ns[n]:=by simpa using ex
  obtain ⟨j,hj,ej⟩:=List.mem_take_iff_getElem.mp hx
  have:=(List.getElem_inj nd).mp (ej.trans ex')
  omega
section
variable {X:Cx}
theorem call_len_set1:CallR X (.builtin "len") (fun xs H Q=>∃ (p:Addr) (S:Int→Bool) (n:Nat),xs=[.ref p]∧H p=some (.set S n)∧Q (.int n) H):=by
 intro pins s σ H xs us Q I r h
 obtain ⟨p,S,n,rfl,hq,q⟩:=h
 obtain ⟨u,rfl,rx⟩:=vals1 r
 cases rx
 obtain ⟨o,es,ep,t,ho,hex,hd,_,_,hb,hf,hn⟩:=(show s.heap.SetOf (intKind X.prog X.w) p S n from I.hok p _ hq)
 have hb':es.size<4096:=hb
 subst hn
 exact call_len_set ho hex hd hf (by omega) ⟨.int es.size,H,I.tok _,⟨_,rfl⟩,q⟩
end
end L2
namespace HT
open PySem PyProof.Rows
section
open PySem.SeqAt
open PySem.AutoSeq1 (wpAny_loadPart')
open PySem.MeetsSeq PySem.MeetsSeq2 PySem.MeetsSeq3
end
section
open PySem.SeqAt
variable {A:Around} {s:Shared}
theorem ints_get {vs:List Value} {ns:List Int} (h:IntsAre vs ns) {j:Nat} (hj:j<vs.length):∃ t,vs[j] = .int (ns.getD j 0) t:=IntsAre.int_at h j _ (List.getElem?_eq_getElem hj)
theorem eq_tup_false {l b:Addr} {vs ws:List Value} {ns ms:List Int} (hl:IsTup s.heap l vs.toArray) (hb:IsTup s.heap b ws.toArray) (hi:IntsAre vs ns) (hj:IntsAre ws ms) (hu:A.units<cLine) (ne:ns≠ms) (nab:l≠b):EqAt A s (.ref l) (.ref b) false:=by
 refine EqAt.of_refs nab ?_
 have r:=RcAt.tuples (A:=A) (s:=s) (l:=l) (b:=b) (items:=vs.toArray) (items2:=ws.toArray) (e:=fun j=>ns.getD j 0 == ms.getD j 0) hl hb hu fun j h1 h2=>by
  obtain ⟨t,e1⟩:=ints_get hi (j:=j) (by simpa using h1)
  obtain ⟨u,e2⟩:=ints_get hj (j:=j) (by simpa using h2)
  simp only [List.getElem_toArray]
  rw [e1,e2]
  exact EqAt.int_int _ _ _ _
 have z:((List.range (min vs.toArray.size ws.toArray.size)).all (fun j=>ns.getD j 0 == ms.getD j 0) && vs.toArray.size == ws.toArray.size)=false:=by
  rw [Bool.eq_false_iff]
  intro h
  rw [Bool.and_eq_true] at h
  obtain ⟨h1,h2⟩:=h
  have l1:vs.length=ns.length:=hi.length
  have l2:ws.length=ms.length:=hj.length
  have l3:vs.length=ws.length:=by simpa using h2
  refine ne (List.ext_getElem (by omega) fun j a1 a2=>?_)
  have:=List.all_eq_true.mp h1 j (by rw [List.mem_range];simp;omega)
  simp only [beq_iff_eq] at this
  rw [List.getD_eq_getElem?_getD,List.getD_eq_getElem?_getD,List.getElem?_eq_getElem a1,List.getElem?_eq_getElem a2] at this
  exact this
 rw [z] at r
 exact r
end
end HT
namespace L2
open PySem PySem.Spec PyProof.Rows
section
variable {X:Cx}
end
end L2
namespace My
open PySem L2 Mt
structure Rat2 (t b:Int):Prop where
 t1:1≤t
 t2:t≤20000
 b1:1≤b
 b2:b≤20000
theorem bd20 {i:Int} (h1:0≤i) (h2:i≤20000):Bd 64 i:=by
 unfold Bd
 have:(2:Nat) ^ 64=18446744073709551616:=by decide
 omega
theorem Rat2.bt {t b:Int} (h:Rat2 t b):Bd 64 t:=bd20 (by have:=h.t1;omega) h.t2
theorem Rat2.bb {t b:Int} (h:Rat2 t b):Bd 64 b:=bd20 (by have:=h.b1;omega) h.b2
theorem cop_dvd {p q c:Int} (g:Int.gcd p q=1) (h:p ∣ c * q):p ∣ c:=by
 have h1:=Int.natAbs_dvd_natAbs.mpr h
 rw [Int.natAbs_mul] at h1
 exact Int.natAbs_dvd_natAbs.mp (Nat.Coprime.dvd_of_dvd_mul_right (show Nat.Coprime p.natAbs q.natAbs from g) h1)
theorem cop_mod {p q:Int} (c:Int) (g:Int.gcd p q=1):c * q % p=0 ↔ c % p=0 :=
 ⟨fun h=>Int.emod_eq_zero_of_dvd (cop_dvd g (Int.dvd_of_emod_eq_zero h)),fun h=>Int.emod_eq_zero_of_dvd (Int.dvd_trans (Int.dvd_of_emod_eq_zero h) (Int.dvd_mul_right c q))⟩
theorem mod_left (m p:Int):(m - m % p) % p=0:=by
 have:=Int.emod_add_mul_ediv m p
 have e:m - m % p=p * (m / p):=by omega
 rw [e];exact Int.mul_emod_right _ _
theorem groove_iff {p x f:Int} (_:0<p) (f0:0≤f) (f1:f<p):(x - f) % p=0 ↔ x % p=f:=by
 constructor
 ·intro h
  have h1:x % p=f % p:=Int.emod_eq_emod_iff_emod_sub_eq_zero.mpr h
  rw [h1];exact Int.emod_eq_of_lt f0 f1
 ·intro h
  rw [← h];exact mod_left x p
theorem groove_one {p q c d g:Int} (co:Int.gcd p q=1) (hc:c * q % p=g) (hd:d * q % p=g) (l:c≤d) (u:d - c<p):c=d:=by
 have h1:(d * q - c * q) % p=0:=Int.emod_eq_emod_iff_emod_sub_eq_zero.mp (hd.trans hc.symm)
 rw [← Int.sub_mul] at h1
 have h2:=cop_dvd co (Int.dvd_of_emod_eq_zero h1)
 obtain ⟨k,hk⟩:=h2
 rcases Int.lt_trichotomy k 0 with z | z | z
 ·have:=Int.mul_neg_of_pos_of_neg (show 0<p by omega) z;omega
 ·subst z;omega
 ·have:p * 1≤p * k:=Int.mul_le_mul_of_nonneg_left (by omega) (by omega)
  omega
structure Pl (t b p q:Int):Prop where
 rat:Rat2 t b
 ep:p=ltN t b
 eq:q=ltD t b
 p1:1≤p
 p2:p≤20000
 q1:1≤q
 q2:q≤20000
 co:Int.gcd p q=1
 val:p * b=t * q
theorem Rat2.pl {t b:Int} (h:Rat2 t b):Pl t b (ltN t b) (ltD t b):=by
 obtain ⟨t1,t2,b1,b2⟩:=h
 have L:=lt_is (t:=t) (b:=b) (by omega)
 have y1:=L.pos
 have nx:=L.nx
 have ny:=L.ny
 have he:=L.eq
 have x1:1≤ltN t b:=by
  rcases Int.lt_or_le (ltN t b) 1 with l | l
  ·exfalso
   have a1:ltN t b * b≤0:=Int.mul_nonpos_of_nonpos_of_nonneg (by omega) (by omega)
   have a2:0<t * ltD t b:=Int.mul_pos (by omega) (by omega)
   omega
  ·exact l
 exact ⟨⟨t1,t2,b1,b2⟩,rfl,rfl,x1,by omega,y1,by omega,L.co,he⟩
theorem Pl.bp {t b p q:Int} (h:Pl t b p q):Bd 64 p:=bd20 (by have:=h.p1;omega) h.p2
theorem Pl.bq {t b p q:Int} (h:Pl t b p q):Bd 64 q:=bd20 (by have:=h.q1;omega) h.q2
theorem floor_le (x:Int) {y:Int} (hy:0<y):x / y * y≤x∧x<(x / y + 1) * y:=by
 have h1:=Int.emod_add_mul_ediv x y
 have h2:=Int.emod_nonneg x (Int.ne_of_gt hy)
 have h3:=Int.emod_lt_of_pos x hy
 rw [Int.mul_comm] at h1
 rw [Int.add_mul]
 omega
theorem bd_div {m:Nat} {i j:Int} (h:Bd m i) (hj:0<j):Bd m (i / j):=by
 refine h.le ?_
 obtain ⟨h1,h2⟩:=floor_le i hj
 generalize i / j=k at *
 rcases Int.lt_or_le i 0 with l | l
 ·have k0:k<0:=by
   rcases Int.lt_or_le k 0 with z | z
   ·exact z
   ·have:=Int.mul_nonneg z (show 0≤j by omega);omega
  have a1:(k + 1) * j≤(k + 1) * 1:=Int.mul_le_mul_of_nonpos_left (by omega) (by omega)
  omega
 ·have k0:0≤k:=by
   rcases Int.lt_or_le k 0 with z | z
   ·have:(k + 1) * j≤0:=Int.mul_nonpos_of_nonpos_of_nonneg (by omega) (by omega)
    omega
   ·exact z
  have a1:k * 1≤k * j:=Int.mul_le_mul_of_nonneg_left (by omega) k0
  omega
def spoilV (p n m:Int):V:=if m % p≠0 then .int m else if n % p≠0 then .int (m + n) else .non
theorem spoil_cases (p n m:Int):(n % p=0∧m % p=0∧spoilV p n m = .non)∨(¬ (n % p=0∧m % p=0)∧∃ c,spoilV p n m = .int c):=by
 unfold spoilV
 by_cases h1:m % p=0
 ·by_cases h2:n % p=0
  ·exact .inl ⟨h2,h1,by rw [if_neg (fun z=>z h1),if_neg (fun z=>z h2)]⟩
  ·exact .inr ⟨fun z=>h2 z.1,_,by rw [if_neg (fun z=>z h1),if_pos h2]⟩
 ·exact .inr ⟨fun z=>h1 z.2,_,by rw [if_pos h1]⟩
theorem mod_lin {p m n:Int} (i:Int) (h1:m % p=0) (h2:n % p=0):(m + i * n) % p=0 :=
 Int.emod_eq_zero_of_dvd (Int.dvd_add (Int.dvd_of_emod_eq_zero h1) (Int.dvd_trans (Int.dvd_of_emod_eq_zero h2) (Int.dvd_mul_left i n)))
theorem mod_drop {p m n:Int} (h1:m % p=0) (h2:(m + n) % p=0):n % p=0 :=
 Int.emod_eq_zero_of_dvd ((Int.dvd_add_right (Int.dvd_of_emod_eq_zero h1)).mp (Int.dvd_of_emod_eq_zero h2))
def marksL (n:Nat) (f:Int→Bool):List Int:=((List.range n).map fun (i:Nat)=>(i:Int)).filter f
theorem marksL_succ (n:Nat) (f:Int→Bool):marksL (n + 1) f=marksL n f++(if f (n:Int)=true then [(n:Int)] else []):=by
 unfold marksL
 rw [List.range_succ,List.map_append,List.filter_append]
 congr 1
 by_cases h:f (n:Int)=true
 ·rw [if_pos h];simp [h]
 ·rw [if_neg h];simp [h]
theorem marksL_len (n:Nat) (f:Int→Bool):(marksL n f).length≤n:=by
 unfold marksL
 refine Nat.le_trans (List.length_filter_le _ _) ?_
 rw [List.length_map,List.length_range];exact Nat.le_refl n
def safeB (p n m:Int):Bool:=decide (n % p=0∧m % p=0)
theorem iteBool {b:Bool} {A B:Prop} (h1:b=true→A) (h2:b=false→B):if b=true then A else B:=by
 cases b
 ·rw [if_neg Bool.false_ne_true];exact h2 rfl
 ·rw [if_pos rfl];exact h1 rfl
theorem due_step {H0 H':Hp} {D:Addr} {i:Nat} {f:Int→Bool} (nD:H0 D=none) (sH:Same H0 H') (e:f (i:Int)=true) :
  Same H0 (upd H' D (.lst ((marksL i f).map V.int++[V.int (i:Int)])))∧(upd H' D (.lst ((marksL i f).map V.int++[V.int (i:Int)]))) D=some (.lst ((marksL (i + 1) f).map V.int)):=by
 refine ⟨fun b o hb=>?_,?_⟩
 ·rw [upd_ne (ne_of_none hb nD)];exact sH _ _ hb
 ·rw [upd_same,marksL_succ,if_pos e,List.map_append];rfl
theorem bez (a b:Nat):∃ u v:Int,u * (a:Int) + v * (b:Int)=((Nat.gcd a b:Nat):Int):=by
 induction a,b using Nat.gcd.induction with
 | H0 n=>exact ⟨0,1,by rw [Nat.gcd_zero_left];omega⟩
 | H1 m n _ ih =>
  obtain ⟨u,v,e⟩:=ih
  refine ⟨v - u * ((n / m:Nat):Int),u,?_⟩
  rw [Nat.gcd_rec m n,← e]
  have h:((n % m:Nat):Int)=(n:Int) - (m:Int) * ((n / m:Nat):Int):=by
   have:=Nat.mod_add_div n m
   have h2:((n % m + m * (n / m):Nat):Int)=(n:Int):=by rw [this]
   rw [Int.natCast_add,Int.natCast_mul] at h2
   omega
  rw [h]
  grind
def shB (p n c:Int) (i:Nat) (m:Int):Bool:=(List.range i).any fun j=>decide ((c + (j:Int) * p) % n=m)
theorem shB_succ (p n c:Int) (i:Nat) (m:Int):shB p n c (i + 1) m=(shB p n c i m || decide ((c + (i:Int) * p) % n=m)):=by
 unfold shB
 rw [List.range_succ,List.any_append,List.any_cons,List.any_nil,Bool.or_false]
def shL (k:Nat) (f:Int→Bool):List V:=(List.range k).map fun (m:Nat)=>V.bl (f (m:Int))
theorem shL_len (k:Nat) (f:Int→Bool):(shL k f).length=k:=by unfold shL;rw [List.length_map,List.length_range]
theorem shL_at {k m:Nat} (f:Int→Bool) (h:m<k):(shL k f)[m]? = some (.bl (f (m:Int))):=by
 unfold shL
 rw [List.getElem?_map,List.getElem?_range h]
 rfl
theorem shL_zero (k:Nat) (p n c:Int):(List.replicate k [V.bl false]).flatten=shL k (shB p n c 0):=by
 induction k with
 | zero=>rfl
 | succ k ih =>
  rw [List.replicate_succ',List.flatten_append,ih]
  unfold shL
  rw [List.range_succ,List.map_append]
  rfl
theorem shL_step {k:Nat} {p n c:Int} {i j:Nat} (hj:j<k) (e:(c + (i:Int) * p) % n=(j:Int)):(shL k (shB p n c i)).set j (.bl true)=shL k (shB p n c (i + 1)):=by
 refine List.ext_getElem? fun m=>?_
 rw [List.getElem?_set]
 by_cases h:j=m
 ·subst h
  rw [if_pos rfl,if_pos (by rw [shL_len];exact hj),shL_at _ hj,shB_succ,decide_eq_true e,Bool.or_true]
 ·rw [if_neg h]
  by_cases hm:m<k
  ·rw [shL_at _ hm,shL_at _ hm,shB_succ,decide_eq_false (fun z=>h (by omega)),Bool.or_false]
  ·rw [List.getElem?_eq_none (by rw [shL_len];omega),List.getElem?_eq_none (by rw [shL_len];omega)]
end My
namespace L2
open PySem PySem.Spec PyProof.Rows
section
variable {X:Cx} {pins:List (Addr × Obj)} {σ:St} {H:Hp} {s:Shared} {x:Str} {scope sc:Scope} {cl:List (Str × Addr)} {fp:List Addr} {N:List Str}
end
end L2
namespace L2
open PySem PySem.Spec PyProof.Rows
section
variable {X:Cx} {x:Str} {scope sc:Scope} {N:List Str}
end
end L2
namespace L2
open PySem PySem.Spec PyProof.Rows
section
variable {X:Cx} {tg:Expr}
def RngO (r:Addr) (a b c:Int):HO:=.ext fun h=>∃ t u v,h.get? r=some { cls:=.type "range",data:=.fields #[.int a t,.int b u,.int c v] }
theorem call_range3O:CallR X (.type "range") (fun xs H Q=>∃ a b c:Int,xs=[.int a,.int b,.int c]∧0<c∧c<1000000∧∀ r,H r=none→Q (.ref r) (upd H r (RngO r a b c))):=by
 intro pins s σ H xs us Q I rs q
 obtain ⟨a,b,c,rfl,c0,c1,q⟩:=q
 cases rs with
 | cons r rr =>
  cases rr with
  | cons r' rr =>
   cases rr with
   | cons r2 rr =>
    cases rr
    obtain ⟨t,rfl⟩:=r
    obtain ⟨t',rfl⟩:=r'
    obtain ⟨t2,rfl⟩:=r2
    refine call_range_3 (by omega) ?_ (Or.inl (PyProof.noPylong_small (by omega)))
    refine ⟨.ref s.heap.objs.size,_,I.laid (t':=s.toks) (fun b o e=>Heap.get?_push_of_some _ e) (Nat.le_refl _) (o:=RngO s.heap.objs.size a b c) ?_,rfl,q _ (I.hok.fresh (Nat.le_refl _))⟩
    have e:(s.heap.push { cls:=.type "range",data:=.fields #[.int a t,.int b t',.int c t2] }).get? s.heap.objs.size=some { cls:=.type "range",data:=.fields #[.int a t,.int b t',.int c t2] }:=Heap.get?_push_size _ rfl
    exact ⟨⟨_,_,_,e⟩,⟨_,e⟩,fun h1 h2 ⟨t,u,v,z⟩ k=>⟨t,u,v,k _ z⟩⟩
theorem vals_range {a c:Int} {n:Nat} {acc:Array Value} (h:ItemsOf (fun i v=>∃ t,v=Value.int (a + i * c) t) acc n):Vals ((List.range n).map fun (i:Nat)=>V.int (a + i * c)) acc.toList:=by
 have go:∀ (l:List Value) (k:Nat),(∀ j v,l[j]? = some v→∃ t,v=Value.int (a + ((k + j:Nat):Int) * c) t)→Vals ((List.range' k l.length).map fun (i:Nat)=>V.int (a + i * c)) l:=by
  intro l
  induction l with
  | nil=>intro k _;exact .nil
  | cons x l ih =>
   intro k hk
   rw [List.length_cons,List.range'_succ,List.map_cons]
   refine .cons ?_ (ih (k + 1) fun j v e=>?_)
   ·obtain ⟨t,e⟩:=hk 0 x rfl
    exact ⟨t,e⟩
   ·obtain ⟨t,e⟩:=hk (j + 1) v (by simpa using e)
    refine ⟨t,?_⟩
    rw [e]
    congr 4
    omega
 obtain ⟨h1,h2⟩:=h
 have g:=go acc.toList 0 (fun j v e=>by
  have:=h2 j v (by simpa using e)
  simpa using this)
 rw [Array.length_toList,h1,← List.range_eq_range'] at g
 exact g
theorem call_list_rangeO (hc:X.calm=true):CallR X (.type "list") (fun xs H Q=>∃ (r:Addr) (a b c:Int) (n:Nat),xs=[.ref r]∧H r=some (RngO r a b c)∧Builtin.Range.small a b c=true∧Builtin.Range.rangeSize a b c=(n:Int)∧n≤1000∧∀ l,H l=none→Q (.ref l) (upd H l (.lst ((List.range n).map fun (i:Nat)=>V.int (a + i * c))))):=by
 intro pins s σ H xs us Q I rs q
 obtain ⟨r,a,b,c,n,rfl,hR,hsm,hn,hl,q⟩:=q
 obtain ⟨u,rfl,rx⟩:=vals1 rs
 cases rx
 obtain ⟨⟨t,u,v,e⟩,_,_⟩:=I.hok r _ hR
 refine call_list_range (I.ok.hd hc) (show IsRange s.heap r a b c t u v from e) hsm hn (Nat.le_trans hl (by decide)) fun h' tk acc c' kp eq it=>?_
 have hv:=vals_range it
 refine ⟨.ref s.heap.objs.size,_,I.laid (t':=tk) kp (Nat.le_refl _) (o:=.lst ((List.range n).map fun (i:Nat)=>V.int (a + i * c))) ⟨?_,acc.toList,c',hv,?_⟩,rfl,q _ (I.hok.fresh (Nat.le_refl _))⟩
 ·rw [List.length_map,List.length_range]
  exact Nat.le_trans hl (by decide)
 ·simpa using eq
end
end L2
namespace L2
open PySem PySem.Spec PyProof.Rows
theorem small_pos {a b c:Int} (n:Int) (ha:0≤a) (ha':a<2000000) (hb:0≤b) (hb':b<2000000) (hc:0<c) (hc':c<2000000) (hn:Builtin.Range.rangeSize a b c=n) (n0:0≤n) (n1:n<2000000):Builtin.Range.small a b c=true:=by
 unfold Builtin.Range.small
 rw [hn]
 have f:∀ i:Int,0≤i→i<5000000→Builtin.Range.rangeFitsLong i=true:=fun i h1 h2=>by
  unfold Builtin.Range.rangeFitsLong
  simp only [Bool.and_eq_true,decide_eq_true_eq]
  omega
 simp only [f a ha (by omega),f b hb (by omega),f c (by omega) (by omega),f n n0 (by omega),if_pos hc,f (b + (c - 1)) (by omega) (by omega),Bool.and_self,Bool.or_true,Bool.and_true]
end L2
namespace My
open PySem L2 Mt
theorem marksL_add (m k:Nat) (f:Int→Bool):marksL (m + k) f=marksL m f++((List.range k).map fun (i:Nat)=>((m + i:Nat):Int)).filter f:=by
 unfold marksL
 rw [List.range_add,List.map_append,List.filter_append,List.map_map]
 rfl
theorem filter_none (s:Nat) (g:Nat→Int) (f:Int→Bool) (hf:∀ i,i<s→f (g i)=false):((List.range s).map g).filter f=[]:=by
 rw [List.filter_eq_nil_iff]
 intro x hx
 obtain ⟨i,hi,rfl⟩:=List.mem_map.mp hx
 rw [hf i (List.mem_range.mp hi)]
 exact Bool.false_ne_true
theorem filter_one (a:Nat) (g:Nat→Int) (f:Int→Bool):∀ (s:Nat),a<s→(∀ i,i<s→f (g i)=decide (i=a))→((List.range s).map g).filter f=[g a]
 | 0,h,_=>absurd h (Nat.not_lt_zero a)
 | s + 1,h,hf=>by
  rw [List.range_succ,List.map_append,List.filter_append]
  by_cases e:a=s
  ·subst e
   rw [filter_none a g f (fun i hi=>by rw [hf i (by omega)];exact decide_eq_false (by omega))]
   have:=hf a (by omega)
   simp [this]
  ·rw [filter_one a g f s (by omega) (fun i hi=>hf i (by omega))]
   have:=hf s (by omega)
   rw [decide_eq_false (by omega)] at this
   simp [this]
theorem marks_blocks {s a:Nat} (h:a<s) (f:Int→Bool):∀ (N:Nat),(∀ m:Nat,m<s * N→f (m:Int)=decide (m % s=a))→marksL (s * N) f=(List.range N).map fun (i:Nat)=>(a:Int) + i * (s:Int)
 | 0,_=>by rw [Nat.mul_zero];rfl
 | N + 1,hf=>by
  rw [Nat.mul_succ,marksL_add,marks_blocks h f N (fun m hm=>hf m (by rw [Nat.mul_succ];omega)),List.range_succ,List.map_append]
  congr 1
  rw [filter_one a (fun (i:Nat)=>((s * N + i:Nat):Int)) f s h (fun i hi=>by
   rw [hf (s * N + i) (by rw [Nat.mul_succ];omega),Nat.mul_add_mod,Nat.mod_eq_of_lt hi])]
  simp only [List.map_cons,List.map_nil]
  congr 1
  rw [Int.natCast_add,Int.natCast_mul,Int.mul_comm]
  omega
theorem shown_iff {p n c m:Int} (n0:0<n) (p1:1≤p) (m0:0≤m) (m1:m<n):shB p n c n.toNat m=decide (m % ((Int.gcd p n:Nat):Int)=c % ((Int.gcd p n:Nat):Int)):=by
 have dp:((Int.gcd p n:Nat):Int) ∣ p:=Int.gcd_dvd_left p n
 have dn:((Int.gcd p n:Nat):Int) ∣ n:=Int.gcd_dvd_right p n
 rw [Bool.eq_iff_iff,decide_eq_true_iff]
 unfold shB
 rw [List.any_eq_true]
 constructor
 ·rintro ⟨j,_,e⟩
  have e:=of_decide_eq_true e
  refine Int.emod_eq_emod_iff_emod_sub_eq_zero.mpr (Int.emod_eq_zero_of_dvd ?_)
  have dv:=Int.emod_add_mul_ediv (c + (j:Int) * p) n
  rw [e] at dv
  have h:m - c=(j:Int) * p - n * ((c + (j:Int) * p) / n):=by omega
  rw [h]
  exact Int.dvd_sub (Int.dvd_trans dp (Int.dvd_mul_left _ _)) (Int.dvd_trans dn (Int.dvd_mul_right _ _))
 ·intro e
  obtain ⟨k,hk⟩:=Int.dvd_of_emod_eq_zero (Int.emod_eq_emod_iff_emod_sub_eq_zero.mp e)
  obtain ⟨u,v,e2⟩:=bez p.natAbs n.natAbs
  rw [show Nat.gcd p.natAbs n.natAbs=Int.gcd p n from rfl,Int.natAbs_of_nonneg (show 0≤p by omega),Int.natAbs_of_nonneg (show 0≤n by omega)] at e2
  have r0:=Int.emod_nonneg (u * k) (Int.ne_of_gt n0)
  have r1:=Int.emod_lt_of_pos (u * k) n0
  have dv:=Int.emod_add_mul_ediv (u * k) n
  refine ⟨((u * k) % n).toNat,List.mem_range.mpr (by omega),decide_eq_true ?_⟩
  rw [Int.toNat_of_nonneg r0]
  refine (groove_iff n0 m0 m1).mp ?_
  have h:c + u * k % n * p - m=n * (-(v * k) - u * k / n * p):=by
   generalize u * k % n=x at *
   generalize hy:u * k / n=y at *
   rw [← e2] at hk
   have hx:x=u * k - n * y:=by omega
   subst hx
   grind
  rw [h]
  exact Int.mul_emod_right _ _
theorem marks_step {p n c:Int} (n0:0<n) (p1:1≤p) (c0:0≤c):∃ N:Nat,Builtin.Range.rangeSize (c % ((Int.gcd p n:Nat):Int)) n ((Int.gcd p n:Nat):Int)=(N:Int)∧(N:Int)≤n ∧
  marksL n.toNat (shB p n c n.toNat)=(List.range N).map fun (i:Nat)=>c % ((Int.gcd p n:Nat):Int) + i * ((Int.gcd p n:Nat):Int):=by
 have gp:0<Int.gcd p n:=Int.gcd_pos_iff.mpr (.inr (by omega))
 have dn:((Int.gcd p n:Nat):Int) ∣ n:=Int.gcd_dvd_right p n
 have sh:=fun m=>shown_iff (c:=c) (m:=m) n0 p1
 generalize Int.gcd p n=s at *
 have hn:s ∣ n.toNat:=Int.natCast_dvd_natCast.mp (by rw [Int.toNat_of_nonneg (by omega)];exact dn)
 obtain ⟨N,hN⟩:=hn
 have a0:=Int.emod_nonneg c (show (s:Int)≠0 by omega)
 have a1:=Int.emod_lt_of_pos c (show 0<(s:Int) by omega)
 have en:n=(s:Int) * (N:Int):=by
  have:((n.toNat:Nat):Int)=((s * N:Nat):Int):=by rw [hN]
  rw [Int.natCast_mul] at this
  omega
 have N1:0<N:=by
  rcases Nat.eq_zero_or_pos N with z | z
  ·subst z;simp at en;omega
  ·exact z
 refine ⟨N,?_,?_,?_⟩
 ·unfold Builtin.Range.rangeSize
  have l:(s:Int) * 1≤(s:Int) * (N:Int):=Int.mul_le_mul_of_nonneg_left (by omega) (by omega)
  rw [if_pos (by omega),if_pos (by omega)]
  have h:n - c % (s:Int) - 1=((s:Int) - c % (s:Int) - 1) + (s:Int) * ((N:Int) - 1):=by rw [en,Int.mul_sub];omega
  rw [h,Int.add_mul_ediv_left _ _ (by omega),Int.ediv_eq_zero_of_lt (by omega) (by omega)]
  omega
 ·rw [en]
  have:1 * (N:Int)≤(s:Int) * (N:Int):=Int.mul_le_mul_of_nonneg_right (by omega) (by omega)
  omega
 ·rw [hN,marks_blocks (s:=s) (a:=(c % (s:Int)).toNat) (by omega) _ N (fun m hm=>?_)]
  ·rw [Int.toNat_of_nonneg a0]
  ·rw [← hN,sh _ (by omega) (by omega)]
   congr 1
   rw [← Int.natCast_emod]
   apply propext
   omega
end My
namespace L2
open PySem PySem.Spec PyProof.Rows
section
variable {κ:Type} [DecidableEq κ]
end
section
variable {P:Program} {w:World} {H:Hp} {h:Heap} {a:Addr}
end
section
variable {X:Cx} {pins:List (Addr × Obj)} {σ:St} {H:Hp} {s:Shared} {a:Addr} {y v:V} {u r:Value} {o:Option V} {A:Around} {E:Value→Shared→Prop}
end
section
variable {X:Cx} {pins:List (Addr × Obj)} {σ:St} {H:Hp} {s:Shared} {a:Addr} {kvs:List (Key × V)} {k:Key} {u:Value} {A:Around} {E:Value→Shared→Prop}
end
section
variable {X:Cx} {o i e value:Expr} {pos pos' tpos:Pos} {td ty tv:TE}
end
section
variable {X:Cx} {pos:Pos}
end
structure M1 (X:Cx) (o:Expr) (m:Str) (apos:Pos) (e:Expr) (cpos:Pos):Prop where
 base:attributeBase o m X.env (eval o X.env)=eval o X.env
 few:((backTo cpos (starEach [e] X.env)).all (fun x=>!x.1) && (backToKw cpos (keywordEach [] X.env)).all (fun x=>x.1.isSome)
  && decide (([e]:List Expr).length + ([]:List Keyword).length + (if ([]:List Keyword).isEmpty then 0 else 1)<30))=true
 line:(apos.endLine == cpos.line)=true
 trees:backTo cpos (starEach [e] X.env)=[(false,eval e X.env)]
structure M2 (X:Cx) (o:Expr) (m:Str) (apos:Pos) (e f:Expr) (cpos:Pos):Prop where
 base:attributeBase o m X.env (eval o X.env)=eval o X.env
 few:((backTo cpos (starEach [e,f] X.env)).all (fun x=>!x.1) && (backToKw cpos (keywordEach [] X.env)).all (fun x=>x.1.isSome)
  && decide (([e,f]:List Expr).length + ([]:List Keyword).length + (if ([]:List Keyword).isEmpty then 0 else 1)<30))=true
 line:(apos.endLine == cpos.line)=true
 trees:backTo cpos (starEach [e,f] X.env)=[(false,eval e X.env),(false,eval f X.env)]
section
variable {X:Cx} {pins:List (Addr × Obj)} {σ:St} {H:Hp} {s:Shared} {a:Addr} {y d:V} {u r:Value} {o:Option V} {A:Around} {E:Value→Shared→Prop}
end
section
variable {X:Cx} {o e f:Expr} {apos cpos:Pos} {td ty tx:TE}
end
section
variable {X:Cx} {pins:List (Addr × Obj)} {σ:St} {H:Hp} {s:Shared} {a:Addr} {kvs:List (Key × V)} {A:Around} {E:Value→Shared→Prop}
end
section
variable {X:Cx} {pins:List (Addr × Obj)} {σ:St} {H:Hp} {s:Shared} {a:Addr} {y:V} {u:Value} {A:Around} {E:Value→Shared→Prop}
end
end L2
namespace L2
open PySem PySem.Spec PyProof.Rows
structure Fly (P:Program) (w:World) (outer:List Env) (H:Hp) (s:Shared) (a:Addr) (C:Value) (H':Hp) (s':Shared):Prop where
 os:s'.os=s.os
 bare:AllBare s'.gens
 un:Un (frs outer) [] H H' s.heap s'.heap
 hok:HOk P w H' s'.heap
 fl:∃ (B:Heap) (a0:Value),Heap.FlyingW B outer a C a0 s'.heap∧(∀ b o,s.heap.get? b=some o→b ∉ frs outer→∃ o',B.get? b=some o')∧∀ b o,H' b=some o→∃ o',B.get? b=some o'
def CX1 (P:Program) (w:World):CXT:=fun outer H s E e s'=>∃ (a:Addr) (C:Value) (H':Hp),e = .ref a∧Fly P w outer H s a C H' s'∧E C none H'
theorem CX1.no {P:Program} {w:World} {outer:List Env} {H:Hp} {s s':Shared} {e:Value} (h:CX1 P w outer H s E0 e s'):False:=by
 obtain ⟨_,_,_,_,_,z⟩:=h;exact z
section
variable {X:Cx} {pins:List (Addr × Obj)} {σ:St} {H H':Hp} {s s':Shared}
structure Body (X:Cx):Prop where
 stk:X.stack=X.env::X.outer
 fr:X.env.frame=some X.env.locals
 ex:X.ex=[]
theorem Body.mem (hB:Body X) {b:Addr}:b∈frs X.stack ↔ b=X.env.locals∨b∈X.fs:=by
 unfold Cx.fs frs
 rw [hB.stk,List.filterMap_cons,hB.fr]
 exact List.mem_cons
theorem hok_stay {P:Program} {w:World} {h h':Heap} (x:HOk P w H h) (k:∀ b o u,H b=some o→h.get? b=some u→h'.get? b=some u):HOk P w H h':=fun a o e =>
 (x a o e).stay (fun b u hb q=>by
  rcases hb with z | z
  ·subst z;exact k b o u e q
  ·exact k b _ u z q) (fun _ q=>q) fun _ _ q=>q
theorem fly_hok {P:Program} {w:World} {h h' B:Heap} (x:HOk P w H h) (inB:∀ b o,H b=some o→∃ o',B.get? b=some o') (k1:B.StaysIn h) (k2:B.StaysIn h'):HOk P w H h' :=
 hok_stay x fun b o u e q=>by
  obtain ⟨o',z⟩:=inB b o e
  have:=k1 b o' z
  rw [q] at this;cases this
  exact k2 b _ z
theorem Inv.caught {a:Addr} {C:Value} {h6 B:Heap} {t':Nat} (hB:Body X) (I:Inv X pins σ H s) (un:Un (frs X.stack) [] H H' s.heap s'.heap) (hok:HOk X.prog X.w H' s'.heap) (os:s'.os=s.os) (bare:AllBare s'.gens)
  (k1:B.StaysIn s'.heap) (k2:B.StaysIn h6) (up:s'.heap.UpToSlots h6) (inB:∀ b o,s.heap.get? b=some o→b ∉ frs X.stack→∃ o',B.get? b=some o') (tr:∀ b o,H' b=some o→∃ o',B.get? b=some o') :
  Inv X pins σ H' { s' with heap:=h6,toks:=t' }:=by
 have nA:∀ b:Addr,b ∉ ([]:List Addr):=fun b=>by simp
 have fre:∀ b,b∈frs X.stack→H b=none:=I.stkFree
 have fro:∀ b,b∈frs X.stack→∀ o,s.heap.get? b=some o→∃ sl,h6.get? b=some { o with slots:=sl }:=fun b hb o e=>by
  obtain ⟨sl,e1⟩:=un.slot b o e (fre b hb) hb (nA b)
  obtain ⟨o2,e2,nf⟩:=(I.stack.mem hb).2
  rw [e] at e2;cases e2
  obtain ⟨sl2,e3⟩:=up b _ e1 nf
  exact ⟨sl2,e3⟩
 have key:=I.step (h':=h6) (H':=H') (g':=s'.gens) (t':=t') (d':=s'.drawn) (ch:=[]) (fun b hb=>absurd hb (nA b))
  (fun b o h1 h2 _ e n=>by
   have hb:b ∉ frs X.stack:=fun z=>(hB.mem.mp z).elim h1 h2
   have e1:=un.keep b o e n hb (nA b)
   obtain ⟨o',z⟩:=inB b o e hb
   have:=k1 b o' z
   rw [e1] at this;cases this
   exact k2 b _ z)
  (fun b o h1 h2 _ e n=>fro b (hB.mem.mpr (.inr h2)) o e)
  (fun b o _ e n=>un.free b o e n (nA b))
  (fun b o _ e=>by
   by_cases hb:b∈frs X.stack
   ·obtain ⟨sl,z⟩:=fro b hb o e
    exact ⟨_,z⟩
   ·obtain ⟨o',z⟩:=inB b o e hb
    exact ⟨o',k2 b _ z⟩)
  un.tups un.frzs un.tbls
  (fun m hn=>by
   obtain ⟨o,es,ep,ho,hd,r⟩:=hn
   obtain ⟨sl,z⟩:=fro _ (hB.mem.mpr (.inl rfl)) o ho
   exact ⟨_,es,ep,z,hd,r⟩)
  (fly_hok hok tr k1 k2) bare
 obtain ⟨hh,g,d,t,os'⟩:=s'
 obtain rfl:os'=s.os:=os
 exact key
theorem Inv.flown {a:Addr} {C a0:Value} {h6 B:Heap} (hB:Body X) (I:Inv X pins σ H s) (un:Un (frs X.stack) [] H H' s.heap s'.heap) (hok:HOk X.prog X.w H' s'.heap) (os:s'.os=s.os) (bare:AllBare s'.gens)
  (k1:B.StaysIn s'.heap) (fl:Heap.FlyingW B X.outer a C a0 h6) (up:s'.heap.UpToSlots h6) (inB:∀ b o,s.heap.get? b=some o→b ∉ frs X.stack→∃ o',B.get? b=some o') (tr:∀ b o,H' b=some o→∃ o',B.get? b=some o') :
  Fly X.prog X.w X.outer X.H₀ X.s₀ a C H' { s' with heap:=h6 }:=by
 have J:Inv X pins σ H' { s' with heap:=h6,toks:=s'.toks }:=I.caught (a:=a) (C:=C) (t':=s'.toks) hB un hok os bare k1 fl.1 up inB tr
 refine ⟨J.os,J.bare,by have:=J.base;rw [hB.ex] at this;exact this,J.hok,B,a0,fl,fun b o e hb=>?_,tr⟩
 obtain ⟨o',e1⟩:=I.base.there b o e (by rw [hB.ex];simp)
 refine inB b o' e1 fun z=>?_
 rcases hB.mem.mp z with z | z
 ·subst z
  exact absurd (Nat.lt_of_lt_of_le (Heap.lt_size e) I.ok.above) (Nat.lt_irrefl _)
 ·exact hb z
theorem fly_leave {a:Addr} {C:Value} {M:Model} {Q:Unit→Shared→Prop} {E:Value→Shared→Prop} (hB:Body X) (I:Inv X pins σ H s) (F:Fly X.prog X.w X.stack H s a C H' s') (q:∀ s'',Fly X.prog X.w X.outer X.H₀ X.s₀ a C H' s''→Q () s'') :
  wpAny M X.A (leaving X.env (.ref a)) Q E s':=by
 obtain ⟨os,bare,un,hok,B,a0,fl,inB,tr⟩:=F
 have fl':Heap.FlyingW B (X.env::X.outer) a C a0 s'.heap:=by rw [← hB.stk];exact fl
 refine wpAny_leaves_onW (by rw [I.ok.frames,hB.stk]) hB.fr fl' fun h6 f6 up=>q _ ?_
 exact I.flown hB un hok os bare fl.1 f6 up inB tr
theorem fly_raise {a:Addr} {C:Value} {vs:List Value} {h':Heap} {M:Model} {Q:Unit→Shared→Prop} {E:Value→Shared→Prop} (hB:Body X) (I:Inv X pins σ H s) (hx:Heap.MadeExcOf s.heap h' a C vs)
  (q:∀ s'',Fly X.prog X.w X.outer X.H₀ X.s₀ a C H s''→Q () s''):wpAny M X.A (leaving X.env (.ref a)) Q E { s with heap:=h' }:=by
 have hin:∀ env∈X.stack,∀ b,env.frame=some b→b∈frs X.stack:=fun env he b hb=>List.mem_filterMap.mpr ⟨env,he,hb⟩
 have hfr:s.heap.FunFrames (PySem.W.hideAll s.heap (frs X.stack)) (X.env::X.outer):=by
  rw [← hB.stk];exact PySem.W.funFrames_hide I.stack hin
 refine wpAny_leaves_madeW (base:=PySem.W.hideAll s.heap (frs X.stack)) (h:=s.heap) (by rw [I.ok.frames,hB.stk]) hB.fr (fun b o e=>PySem.W.of_hideAll _ e) hfr hx fun h6 t f6 _ _ up=>q _ ?_
 have kp:(PySem.W.hideAll s.heap (frs X.stack)).StaysIn h':=fun b o e=>hx.keeps b o (PySem.W.of_hideAll _ e)
 have inB:∀ b o,s.heap.get? b=some o→b ∉ frs X.stack→∃ o',(PySem.W.hideAll s.heap (frs X.stack)).get? b=some o':=fun b o e hb=>⟨o,PySem.W.hideAll_get _ e hb⟩
 refine I.flown (s':={ s with heap:=h' }) (H':=H) hB (Un.kept hx.keeps) (I.hok.kept hx.keeps) rfl I.bare kp f6 up inB fun b o e=>?_
 obtain ⟨u,e1⟩:∃ u,s.heap.get? b=some u:=by
  have lt:=I.hok.lt e
  cases z:s.heap.get? b with
  | some u=>exact ⟨u,rfl⟩
  | none =>
   have:=I.hok b o e
   cases o with
   | lst xs=>obtain ⟨_,_,_,_,e⟩:=this;rw [z] at e;cases e
   | tup xs=>obtain ⟨_,_,_,ob,e,_⟩:=this;rw [z] at e;cases e
   | dK kvs=>obtain ⟨_,_,_,_,o,_,_,e,_⟩:=this;rw [z] at e;cases e
   | dT kvs=>obtain ⟨_,_,_,_,o,_,_,e,_⟩:=this;rw [z] at e;cases e
   | set S n=>obtain ⟨o,_,_,_,e,_⟩:=this;rw [z] at e;cases e
   | ins C dx fs=>obtain ⟨_,_,_,e,_⟩:=this;rw [z] at e;cases e
   | own y=>obtain ⟨_,e⟩:=this;rw [z] at e;cases e
   | xd fs=>obtain ⟨_,⟨_,_,_,e,_⟩,_⟩:=this;rw [z] at e;cases e
   | rng lo hi=>obtain ⟨_,_,_,e⟩:=this;rw [z] at e;cases e
   | frz ob u=>obtain ⟨e,_⟩:=this;rw [z] at e;cases e
   | tbl ps=>have e:s.heap.get? b=some _:=this;rw [z] at e;cases e
   | met f y=>have e:s.heap.get? b=some _:=this;rw [z] at e;cases e
   | ext φ=>obtain ⟨_,⟨_,e⟩,_⟩:=this;rw [z] at e;cases e
 exact inB b u e1 fun hb=>by rw [I.stkFree b hb] at e;cases e
end
end L2
namespace L2
open PySem PySem.Spec PyProof.Rows
abbrev veM:List Value:=[.type "ValueError",.type "Exception",.type "BaseException",.type "object"]
def XCls (K:PySem.W.Frag) (C:Addr):Prop:=PySem.W.excIn K C veM "ValueError.__new__" = true
theorem XCls.obj {K:PySem.W.Frag} {C:Addr} {g:Heap} (inK:K.In g) (hx:XCls K C) :
  ∃ (bm:List Value) (N:Addr) (nm qn:Str) (bs:List Value) (hdct:Bool) (sn:List Str) (sub:List Value) (ab:Bool) (col:Option Bool) (dd:Option Addr) (k0 k1 k2 k3 k5:Option Value) (mN:Str→Option Value),
   g.get? C=some (excClassObj nm qn C N bs bm hdct sn sub ab col dd k0 k1 k2 k3 k5 "ValueError.__new__")∧g.Ns N mN∧mN "__init__" = none∧OwnTail g veM bm:=by
 unfold XCls PySem.W.excIn at hx
 split at hx
 ·next dd cd sl ho =>
  split at hx
  ·next C' bm k0 k1 k2 k3 n k5 hm hs =>
   rw [Bool.and_eq_true,Bool.and_eq_true,Bool.and_eq_true,Bool.and_eq_true,Bool.and_eq_true] at hx
   obtain ⟨⟨⟨⟨⟨h1,h2⟩,h3⟩,h4⟩,h5⟩,h6⟩:=hx
   have e1:=beq_iff_eq.mp h1
   have e2:=beq_iff_eq.mp h2
   have e6:=beq_iff_eq.mp h6
   have e3:cd.hasDel=false:=by simpa using h3
   subst e1 e2
   obtain ⟨nm,bs,mro,ns,qn,hd,sn,sub,ab,col,del⟩:=cd
   have em:mro=Value.ref C'::bm:=hm
   have ed:del=false:=e3
   subst em ed
   obtain ⟨l⟩:=sl
   have el:l=[k0,k1,k2,k3,some (Value.builtin "ValueError.__new__"),k5]:=hs
   subst el
   exact ⟨bm,ns,nm,qn,bs,hd,sn,sub,ab,col,dd,k0,k1,k2,k3,k5,_,inK _ _ ho,.of_isNs (PySem.W.isNs_of_in inK h5),PySem.W.nsMap_none_of_in inK h5 e6,PySem.W.tail_of_in inK h4⟩
  ·cases hx
 ·cases hx
structure XOut (X:Cx) (E:XK):Prop where
 body:Body X
 out:∀ e s',wpAny (model X.prog X.w) X.A (leaving X.env e) (fun _ s''=>CX1 X.prog X.w X.outer X.H₀ X.s₀ E e s'') (fun e' s''=>CX1 X.prog X.w X.outer X.H₀ X.s₀ E e' s'') s'→X.xe e s'
def PassX (X:Cx) (EX:St→XK):Prop:=∀ (pins:List (Addr × Obj)) (σ:St) (H:Hp) (s:Shared) (e:Value) (s':Shared),Inv X pins σ H s→CX1 X.prog X.w X.stack H s (EX σ) e s'→X.xe e s'
theorem passNo {X:Cx}:PassX X fun _=>E0:=fun _ _ _ _ _ _ _ h=>h.no.elim
theorem passOut {X:Cx} {E:XK} (O:XOut X E):PassX X fun _=>E:=fun pins σ H s e s' I h=>by
 obtain ⟨a,C,H',rfl,F,q⟩:=h
 exact O.out _ _ (fly_leave O.body I F fun s'' F'=>⟨a,C,H',rfl,F',q⟩)
theorem out_cx {P:Program} {w:World} {K:PySem.W.Frag} {mg:Str→Option Value} {base:Heap} {N:List Str} {qual:Str} {scope:Scope} {f:Addr} {cd:Value} {A:Around} {outer:List Env} {s:Shared} {H:Hp} {E:XK} :
  XOut (cxOf (CX1 P w) P w K mg base N qual scope f cd A outer s H E) E:=⟨⟨rfl,rfl,rfl⟩,fun _ _ h=>h⟩
def tRaise (C:Addr) (E:XK) (t:TA):TS:=fun _ σ H=>t σ H fun vs H1=>vs.length≤sizeLine∧E (.ref C) none H1
section
variable {X:Cx} {x:Str} {C:Addr} {E:XK} {np cpos pos:Pos} {e:Expr} {es:List Expr} {t:TA}
theorem ps_raise (O:XOut X E) (hc:X.calm=true) (hq:XCls X.K C) (hm:X.mg x=some (.ref C)) (ha:PA X (e::es) t) (hg:Gl X x:=by rfl) (h1:(x == ("__debug__":Str))=false:=by decide)
  (hs:starEach (e::es) X.env=(false,eval e X.env)::starEach es X.env:=by rfl) (hpl:(backTo cpos (starEach es X.env)).any (·.1)=false:=by rfl) :
  PS X (.Raise (some (.Call (.Name x np) (e::es) [] cpos)) none pos) (tRaise C E t):=by
 intro pins s σ H D I h
 obtain ⟨bm,N,nm,qn,bs,hdct,sn,sub,ab,col,dd,k0,k1,k2,k3,k5,mN,hC,hN,hni,T⟩:=hq.obj I.ok.mod.kin
 refine wpAny_Raise_call_subT (C:=C) (nm:=nm) (q:=qn) (N:=N) (bs:=bs) (bm:=bm) (hdct:=hdct) (sn:=sn) (sub:=sub) (ab:=ab) (col:=col) (dd:=dd) (k0:=k0) (k1:=k1) (k2:=k2) (k3:=k3) (k5:=k5) (mN:=mN)
  PySem.F.excBase_ValueError (T.hasType PySem.F.excBase_ValueError.hasBase) (I.ok.hd hc) (by rw [hs];show (false || (backTo cpos (starEach es X.env)).any (·.1))=false;rw [hpl];rfl) hni (ld_glob I hg hm ⟨rfl,?_⟩ h1)
 have h':=ha cpos pins s σ H _ I h
 rw [hs] at h' ⊢
 refine Calls.evalArgs_plain (wpAny_mono h' (fun vs s2 ⟨xs,H1,I1,r1,hl,q1⟩=>⟨rfl,by rw [← r1.length];exact hl,I1.bk _ _ hC,hN.keeps I1.bk,T.keeps I1.bk,fun h2 a hx=>?_⟩) fun _ _ y=>y)
 exact O.out _ _ (fly_raise O.body I1 hx fun s'' F=>⟨a,.ref C,H1,rfl,F,q1⟩)
end
def tCallX (sp:Sp) (EX:St→XK) (t:TA):TE:=fun σ H Q=>t σ H fun vs H1=>sp vs H1 Q (EX σ)
def tMethX (C:Addr) (m:Str) (sp:Sp) (EX:St→XK) (ta:TE) (t:TA):TE:=fun σ H Q=>ta σ H fun x H1=>∃ a dx fs,x = .ref a∧H1 a=some (.ins C dx fs)∧fs.lookup m=none∧t σ H1 fun vs H2=>sp (x::vs) H2 Q (EX σ)
def tMakeX (C:Addr) (sp:Sp) (EX:St→XK) (t:TA):TE:=fun σ H Q=>t σ H fun vs H1=>∀ x dx,H1 x=none→H1 dx=none→dx≠x →
 sp (.ref x::vs) (upd (upd H1 dx (.own x)) x (.ins C dx [])) (fun v H2=>v = .non∧Q (.ref x) H2) (fun Cx d H2=>EX σ Cx d H2)
def DefOkX (P:Program) (w:World) (K:PySem.W.Frag) (mg:Str→Option Value) (base:Heap) (x:Str) (ps:List Str) (k:Nat) (sp:Sp):Prop :=
 ∃ (f:Addr) (fd:FuncData),FnOk P w K mg base (CX1 P w) k f fd ps sp∧mg x=some (.ref f)∧PySem.W.keepIn K (.ref f)=true∧Binds K fd ps []
def MethOk (P:Program) (w:World) (K:PySem.W.Frag) (mg:Str→Option Value) (base:Heap) (C:Addr) (m:Str) (ps:List Str) (k:Nat) (sp:Sp):Prop :=
 ∃ (f:Addr) (fd:FuncData),FnOk P w K mg base (CX1 P w) k f fd ps sp∧Meth K C m f∧Cls K C∧Binds K fd ps []
def MakeOk (P:Program) (w:World) (K:PySem.W.Frag) (mg:Str→Option Value) (base:Heap) (x:Str) (C:Addr) (ps:List Str) (k:Nat) (sp:Sp):Prop :=
 ∃ (f:Addr) (fd:FuncData),FnOk P w K mg base (CX1 P w) k f fd ps sp∧Mk K C f∧mg x=some (.ref C)∧Binds K fd ps []
section
variable {X:Cx} {k j:Nat} {f C:Addr} {fd:FuncData} {ps:List Str} {sp:Sp} {EX:St→XK} {x m:Str} {p pos apos:Pos} {e o:Expr} {es:List Expr} {ta:TE} {t:TA}
theorem run_fnX {pins:List (Addr × Obj)} {σ:St} {H:Hp} {s:Shared} {Q:VK} {us:List Value} {vs:List V} (F:FnOk X.prog X.w X.K X.mg X.base (CX1 X.prog X.w) k f fd ps sp) (hr:Room k X.A) (hb:Binds X.K fd ps []) (hx:PassX X EX)
  (I:Inv X pins σ H s) (r:Vals vs us) (h:sp vs H Q (EX σ)):wpAny (model X.prog X.w) X.A (call (.ref f) us) (EP X pins σ Q) X.xe s:=by
 have hl:(us++[]).length=ps.length:=by rw [List.append_nil,← r.length];exact F.len _ _ _ _ h
 have hbd:=hb s us I.kIn hl
 rw [List.append_nil] at hbd
 refine wpAny_call (codeAny_mono (F.run X.A X.stack s H ⟨us,[]⟩ us vs Q (EX σ) hr I.env0 hbd r h) fun res s' hq=>?_)
 cases res with
 | error er=>exact hx pins σ H s er s' I hq
 | ok fl =>
  cases fl with
  | ret u=>exact I.after hq
  | next=>exact False.elim hq
  | brk=>exact False.elim hq
  | cont=>exact False.elim hq
theorem pe_callX (D:DefOkX X.prog X.w X.K X.mg X.base x ps k sp) (hr:Room j X.A) (hx:PassX X EX) (ha:PA X (e::es) t)
  (hkj:k≤j:=by decide) (hg:Gl X x:=by rfl) (h1:(x == ("__debug__":Str))=false:=by decide) (h2:starEach (e::es) X.env=(false,eval e X.env)::starEach es X.env:=by rfl) (h3:(backTo pos (starEach es X.env)).any (·.1)=false:=by rfl) :
  PE X (.Call (.Name x p) (e::es) [] pos) (tCallX sp EX t):=by
 obtain ⟨f,fd,F,hm,hk,hb⟩:=D
 intro pins s σ H Q I h
 refine wpAny_Call_Name_kw (ld_glob I hg hm ?_ h1)
 refine PySem.W.callWith_K (h₀:=X.base) I.ok.mod.kin hk (thn (ha pos pins s σ H _ I h) fun us s1 ⟨vs,H1,I1,r,q⟩=>⟨I1.kIn,?_⟩) h2 h3
 exact run_fnX F (hr.mono hkj) hb hx I1 r q
theorem pe_methX {pl:Sem Bool} (D:MethOk X.prog X.w X.K X.mg X.base C m ps k sp) (hr:Room j X.A) (hx:PassX X EX) (he:PE X o ta) (ha:PA X (e::es) t) (hkj:k≤j:=by decide)
  (hst:starEach (e::es) X.env=(false,eval e X.env)::starEach es X.env:=by rfl) (hpl:(backTo pos (starEach es X.env)).any (·.1)=false:=by rfl)
  (ht:eval (.Call (.Attribute o m apos) (e::es) [] pos) X.env=(eval o X.env >>= fun ov=>standAt apos.atName >>= fun _=>holding [ov] (getMethod ov m pl) >>= fun r =>
   callWith pos r.1 r.2 (backTo pos (starEach (e::es) X.env)) (backToKw pos (keywordEach [] X.env))):=by rfl) :
  PE X (.Call (.Attribute o m apos) (e::es) [] pos) (tMethX C m sp EX ta t):=by
 obtain ⟨f,fd,F,hm,c,hb⟩:=D
 intro pins s σ H Q I h
 refine PySem.W.methodCall_KW (pl:=pl) (thn (he pins s σ H _ I h) fun u s1 ⟨x,H1,I1,rx,a,dx,fs,ex,ea,l,q⟩=>?_) ht
 subst ex
 obtain rfl:u=Value.ref a:=rx
 refine getmeth_ok I1 ea c hm l ?_
 refine PySem.W.callWith_K (first:=[.ref a]) (h₀:=X.base) I.ok.mod.kin hm.kp (thn (ha pos pins s1 σ H1 _ I1 q) fun us s2 ⟨vs,H2,I2,r,q2⟩=>⟨I2.kIn,?_⟩) hst hpl
 exact run_fnX (us:=.ref a::us) (vs:=.ref a::vs) F (hr.mono hkj) hb hx I2 (.cons rfl r) q2
theorem pe_methX0 {pl:Sem Bool} (D:MethOk X.prog X.w X.K X.mg X.base C m ps k sp) (hr:Room j X.A) (hx:PassX X EX) (he:PE X o ta) (hkj:k≤j:=by decide)
  (ht:eval (.Call (.Attribute o m apos) [] [] pos) X.env=(eval o X.env >>= fun ov=>standAt apos.atName >>= fun _=>holding [ov] (getMethod ov m pl) >>= fun r =>
   callWith pos r.1 r.2 (backTo pos (starEach [] X.env)) (backToKw pos (keywordEach [] X.env))):=by rfl) :
  PE X (.Call (.Attribute o m apos) [] [] pos) (tMethX C m sp EX ta tNil):=by
 obtain ⟨f,fd,F,hm,c,hb⟩:=D
 intro pins s σ H Q I h
 refine PySem.W.methodCall_KW (pl:=pl) (thn (he pins s σ H _ I h) fun u s1 ⟨x,H1,I1,rx,a,dx,fs,ex,ea,l,q⟩=>?_) ht
 subst ex
 obtain rfl:u=Value.ref a:=rx
 refine getmeth_ok I1 ea c hm l ?_
 exact PySem.W.callWith_K0 (first:=[.ref a]) I1.kIn hm.kp (run_fnX (us:=[.ref a]) (vs:=[.ref a]) F (hr.mono hkj) hb hx I1 (.cons rfl .nil) q)
theorem run_makeX {pins:List (Addr × Obj)} {σ:St} {H:Hp} {s:Shared} {Q:VK} {us:List Value} {vs:List V} (M:Mk X.K C f) (F:FnOk X.prog X.w X.K X.mg X.base (CX1 X.prog X.w) k f fd ps sp) (hr:Room (k + 1) X.A) (hb:Binds X.K fd ps [])
  (hx:PassX X EX) (I:Inv X pins σ H s) (r:Vals vs us)
  (h:∀ x dx,H x=none→H dx=none→dx≠x→sp (.ref x::vs) (upd (upd H dx (.own x)) x (.ins C dx [])) (fun v H2=>v = .non∧Q (.ref x) H2) (EX σ)) :
  wpAny (model X.prog X.w) X.A (call (.ref C) us) (EP X pins σ Q) X.xe s:=by
 have n1:=I.hok.fresh (a:=s.heap.objs.size + 1) (Nat.le_succ _)
 have n2:=I.hok.fresh (a:=s.heap.objs.size) (Nat.le_refl _)
 have hq:=h (s.heap.objs.size + 1) s.heap.objs.size n1 n2 (Nat.ne_of_lt (Nat.lt_succ_self _))
 have I2:=Inv.made (C:=C) I
 have r2:Vals (V.ref (s.heap.objs.size + 1)::vs) (Value.ref (s.heap.objs.size + 1)::us):=.cons rfl r
 have hl:(Value.ref (s.heap.objs.size + 1)::us++[]).length=ps.length:=by
  have e:=r2.length
  rw [F.len _ _ _ _ hq] at e
  rw [List.append_nil]
  exact e.symm
 have hbd:=hb _ (Value.ref (s.heap.objs.size + 1)::us) I2.kIn hl
 rw [List.append_nil] at hbd
 refine wpAny_call (make_map (f:=f) I.kIn M.makes M.init (beq_iff_eq.mp M.fn) (codeAny_mono (F.run _ X.stack _ _ ⟨Value.ref (s.heap.objs.size + 1)::us,[]⟩ (Value.ref (s.heap.objs.size + 1)::us) _ _ (EX σ) (hr.make C us [])
  (I2.env0.make C us []) hbd r2 hq) fun res s' hq'=>?_))
 cases res with
 | error er=>exact hx pins σ _ _ er s' I2 hq'
 | ok fl =>
  cases fl with
  | ret u =>
   obtain ⟨v,H',I3,rv,ev,q3⟩:=I2.after hq'
   subst ev
   exact ⟨rv,⟨V.ref (s.heap.objs.size + 1),H',I3,rfl,q3⟩⟩
  | next=>exact False.elim hq'
  | brk=>exact False.elim hq'
  | cont=>exact False.elim hq'
theorem pe_makeX (D:MakeOk X.prog X.w X.K X.mg X.base x C ps k sp) (hr:Room j X.A) (hx:PassX X EX) (ha:PA X (e::es) t) (hkj:k + 1≤j:=by decide) (hg:Gl X x:=by rfl)
  (h1:(x == ("__debug__":Str))=false:=by decide) (h2:starEach (e::es) X.env=(false,eval e X.env)::starEach es X.env:=by rfl) (h3:(backTo pos (starEach es X.env)).any (·.1)=false:=by rfl) :
  PE X (.Call (.Name x p) (e::es) [] pos) (tMakeX C sp EX t):=by
 obtain ⟨f,fd,F,M,hm,hb⟩:=D
 intro pins s σ H Q I h
 refine wpAny_Call_Name_kw (ld_glob I hg hm ?_ h1)
 refine PySem.W.callWith_K (h₀:=X.base) I.ok.mod.kin M.kp (thn (ha pos pins s σ H _ I h) fun us s1 ⟨vs,H1,I1,r,q⟩=>⟨I1.kIn,?_⟩) h2 h3
 exact run_makeX M F (hr.mono hkj) hb hx I1 r q
theorem pe_makeX0 (D:MakeOk X.prog X.w X.K X.mg X.base x C ps k sp) (hr:Room j X.A) (hx:PassX X EX) (hkj:k + 1≤j:=by decide) (hg:Gl X x:=by rfl)
  (h1:(x == ("__debug__":Str))=false:=by decide):PE X (.Call (.Name x p) [] [] pos) (tMakeX C sp EX tNil):=by
 obtain ⟨f,fd,F,M,hm,hb⟩:=D
 intro pins s σ H Q I h
 refine wpAny_Call_Name_kw (ld_glob I hg hm ?_ h1)
 exact PySem.W.callWith_K0 I.kIn M.kp (run_makeX (us:=[]) M F (hr.mono hkj) hb hx I .nil h)
end
section
variable {P:Program} {w:World} {K:PySem.W.Frag} {mg:Str→Option Value} {base:Heap}
theorem Fun.ok1 {x qual:Str} {st:Stmt} {f:Addr} {fd:FuncData} {N ps:List Str} {k:Nat} {sp:Sp} (F:Fun K x qual st f fd) (S:FnScope N ps (defScope st)) (len:∀ vs H Q E,sp vs H Q E→vs.length=ps.length)
  (hbody:∀ (cdv:Value) (A:Around) (outer:List Env) (s:Shared) (H:Hp) (vs:List V) (Q:VK) (E:XK),Room k (A.deeper (envOfC qual (defScope st) s.heap.objs.size f cdv))→sp vs H Q E →
   ∃ t,PSs (cxOf (CX1 P w) P w K mg base N qual (defScope st) f cdv A outer s H E) (defBody st) t∧t { nx:=fun _ H'=>Q .non H',rt:=Q } (start N vs) H):FnOk P w K mg base (CX1 P w) (k + 1) f fd ps sp:=by
 obtain ⟨oc,od,kV,doc,pm,an,cdv,ct,osl,rfl,lk,hcd⟩:=F.ex
 exact fn_of lk hcd S len fun A outer s H vs Q E hr hsp=>hbody cdv A outer s H vs Q E hr hsp
end
end L2
namespace L2
open PySem PySem.Spec PyProof.Rows
theorem XCls.mro {K:PySem.W.Frag} {C:Addr} {g:Heap} {v:Value} {b:Bool} {bm:List Value} {N:Addr} {nm qn:Str} {bs:List Value} {hdct:Bool} {sn:List Str} {sub:List Value} {ab:Bool} {col:Option Bool} {dd:Option Addr} {k0 k1 k2 k3 k5:Option Value} {ni:String} (inK:K.In g)
  (hC:g.get? C=some (excClassObj nm qn C N bs bm hdct sn sub ab col dd k0 k1 k2 k3 k5 ni)) (h:PySem.W.mroIn K C v=some b):(Value.ref C::bm).contains v=b:=by
 unfold PySem.W.mroIn at h
 obtain ⟨cd,h1,h2⟩:=Option.bind_eq_some_iff.mp h
 unfold PySem.W.clsIn at h1
 split at h1
 ·next ho =>
  cases h1
  have:=inK _ _ ho
  rw [hC] at this
  cases this
  split at h2
  ·cases h2
  ·exact Option.some.inj h2
 ·cases h1
section
variable {M:Model} {A:Around} {E:Value→Shared→Prop} {g:Heap} {gs:Array GenState} {d:Drawn} {t:Nat} {os:OsState}
theorem exc_two {C Ce e:Addr} {oe:Obj} {bm bmE:List Value} {N N':Addr} {nm qn nm' qn':Str} {bs bs':List Value} {hdct hdct':Bool} {sn sn':List Str} {sub sub':List Value} {ab ab':Bool} {col col':Option Bool} {dd dd':Option Addr} {k0 k1 k2 k3 k5 j0 j1 j2 j3 j5:Option Value} {ni ni':String} {b:Bool} {Q:Bool→Shared→Prop}
  (hC:g.get? C=some (excClassObj nm qn C N bs bm hdct sn sub ab col dd k0 k1 k2 k3 k5 ni)) (hE:g.get? Ce=some (excClassObj nm' qn' Ce N' bs' bmE hdct' sn' sub' ab' col' dd' j0 j1 j2 j3 j5 ni')) (he:g.get? e=some oe) (hcls:oe.cls = .ref Ce)
  (hbase:bm.contains (.type "BaseException")=true) (hb:(Value.ref Ce::bmE).contains (.ref C)=b) (hq:Q b ⟨g,gs,d,t,os⟩):wpAny M A (excMatches (.ref e) (.ref C)) Q E ⟨g,gs,d,t,os⟩:=by
 have hcB:(Value.ref C::bm).contains (.type "BaseException")=true:=by rw [List.contains_cons,hbase,Bool.or_true]
 have f:=tc_notTuple
 unfold excMatches
 by_cases same:Ce=C
 ·subst same
  rw [hC] at hE
  cases hE
  have hcC:(Value.ref Ce::bm).contains (.ref Ce)=true:=by simp
  rw [hcC] at hb
  subst hb
  repeat (first | (with_reducible refine wpAny_loadPart_at he ?_;rw [hcls]) | with_reducible refine wpAny_loadPart_at hC ?_ | (with_reducible refine wpAny_isSubtype_exc hC ?_;first | rw [hcB] | rw [hcC]) | wp_step)
  exact hq
 ·repeat (first | (with_reducible refine wpAny_loadPart_at he ?_;rw [hcls]) | with_reducible refine wpAny_loadPart_at hC ?_ | (with_reducible refine wpAny_isSubtype_exc hC ?_;rw [hcB]) | (with_reducible refine wpAny_isSubtype_exc hE ?_;rw [hb]) | wp_step)
  cases b <;> (wp_walk;exact hq)
end
def ExcO (a Ce:Addr):HO:=.ext fun h=>∃ o,h.get? a=some o∧o.cls = .ref Ce
abbrev suiteCx (X:Cx) (a:Addr):Cx:={ X with A:=X.A.mark (some (.ref a)),calm:=false,xe:=fun _ _=>False }
abbrev tryCx (X:Cx) (pins:List (Addr × Obj)) (xe:Value→Shared→Prop):Cx:={ X with pn:=X.pn++pins,xe:=xe }
section
variable {X:Cx} {pins pins':List (Addr × Obj)} {σ:St} {H H':Hp} {s s':Shared} {a:Addr} {xe:Value→Shared→Prop}
theorem Cx.Ok.suite (ok:X.Ok):(suiteCx X a).Ok :=
 ⟨ok.mod,ok.kind,ok.glob,ok.blt,ok.above,ok.inj,ok.has,ok.cab,fun z=>(by cases z),ok.frames,ok.stk,ok.exf,ok.bs,ok.bsz,ok.noex,ok.exfs,ok.funs,ok.frf⟩
theorem Inv.suite (I:Inv X pins σ H s):Inv (suiteCx X a) pins σ H s:=⟨I.ok.suite,I.os,I.bare,I.base,I.loc,I.cell,I.free,I.freeC,I.pin,I.hok,I.len⟩
theorem Inv.unsuite (I:Inv (suiteCx X a) pins σ H s) (ok:X.Ok):Inv X pins σ H s:=⟨ok,I.os,I.bare,I.base,I.loc,I.cell,I.free,I.freeC,I.pin,I.hok,I.len⟩
theorem SP.unsuite {D:Ends} {f:Flow} (h:SP (suiteCx X a) pins D f s) (ok:X.Ok):SP X pins D f s:=by
 cases f with
 | next=>obtain ⟨σ',H',I,q⟩:=h;exact ⟨σ',H',I.unsuite ok,q⟩
 | brk=>obtain ⟨σ',H',I,q⟩:=h;exact ⟨σ',H',I.unsuite ok,q⟩
 | cont=>obtain ⟨σ',H',I,q⟩:=h;exact ⟨σ',H',I.unsuite ok,q⟩
 | ret u=>obtain ⟨v,σ',H',I,r,q⟩:=h;exact ⟨v,σ',H',I.unsuite ok,r,q⟩
theorem Cx.Ok.try_ (ok:X.Ok):(tryCx X pins xe).Ok :=
 ⟨ok.mod,ok.kind,ok.glob,ok.blt,ok.above,ok.inj,ok.has,ok.cab,ok.hd,ok.frames,ok.stk,ok.exf,ok.bs,ok.bsz,ok.noex,ok.exfs,ok.funs,ok.frf⟩
theorem Cx.Ok.untry (ok:(tryCx X pins xe).Ok):X.Ok :=
 ⟨ok.mod,ok.kind,ok.glob,ok.blt,ok.above,ok.inj,ok.has,ok.cab,ok.hd,ok.frames,ok.stk,ok.exf,ok.bs,ok.bsz,ok.noex,ok.exfs,ok.funs,ok.frf⟩
theorem Inv.try_ (I:Inv X pins σ H s):Inv (tryCx X pins xe) [] σ H s:=⟨I.ok.try_,I.os,I.bare,I.base,I.loc,I.cell,I.free,I.freeC,fun p hp=>I.pin p (by rw [List.append_nil] at hp;exact hp),I.hok,I.len⟩
theorem Inv.untry (I:Inv (tryCx X pins xe) pins' σ H s):Inv X pins σ H s:=⟨I.ok.untry,I.os,I.bare,I.base,I.loc,I.cell,I.free,I.freeC,fun p hp=>I.pin p (List.mem_append_left _ hp),I.hok,I.len⟩
theorem SP.untry {D:Ends} {f:Flow} (h:SP (tryCx X pins xe) pins' D f s):SP X pins D f s:=by
 cases f with
 | next=>obtain ⟨σ',H',I,q⟩:=h;exact ⟨σ',H',I.untry,q⟩
 | brk=>obtain ⟨σ',H',I,q⟩:=h;exact ⟨σ',H',I.untry,q⟩
 | cont=>obtain ⟨σ',H',I,q⟩:=h;exact ⟨σ',H',I.untry,q⟩
 | ret u=>obtain ⟨v,σ',H',I,r,q⟩:=h;exact ⟨v,σ',H',I.untry,r,q⟩
theorem Inv.track {o:HO} (I:Inv X pins σ H s) (hn:H a=none) (h0:∀ ob,X.s₀.heap.get? a≠some ob) (hl:a≠X.env.locals) (hc:∀ x c,X.env.cells.lookup x=some c→c≠a) (hp:∀ p∈X.pn++pins,p.1≠a)
  (new:ObjOk X.prog X.w (upd H a o) s.heap a o):Inv X pins σ (upd H a o) s:=by
 refine ⟨I.ok,I.os,I.bare,⟨I.base.keep,I.base.slot,fun b ob e n hx=>?_,I.base.there,fun b xs e=>?_,fun b ob u e=>?_,fun b ps e=>?_⟩,I.loc,I.cell,?_,fun x c e=>?_,fun p hp'=>?_,fun b u e=>?_,I.len⟩
 ·rw [upd_ne (fun z=>h0 ob (by rw [← z];exact e))];exact I.base.free b ob e n hx
 ·have:=I.base.tups b xs e
  rw [upd_ne (ne_of_none this hn)];exact this
 ·have:=I.base.frzs b ob u e
  rw [upd_ne (ne_of_none this hn)];exact this
 ·obtain ⟨more,this⟩:=I.base.tbls b ps e
  exact ⟨more,by rw [upd_ne (ne_of_none this hn)];exact this⟩
 ·rw [upd_ne (Ne.symm hl)];exact I.free
 ·rw [upd_ne (hc x c e)];exact I.freeC x c e
 ·obtain ⟨e,n,r⟩:=I.pin p hp'
  exact ⟨e,by rw [upd_ne (hp p hp')];exact n,r⟩
 ·by_cases hb:b=a
  ·subst hb;rw [upd_same] at e;cases e;exact new
  ·rw [upd_ne hb] at e
   exact (I.hok b u e).stay (fun c v _ q=>q) (fun c q=>by rw [upd_ne (ne_of_none q hn)];exact q) fun c xs q=>by rw [upd_ne (ne_of_none q hn)];exact q
theorem name_gone {M:Model} {A:Around} {E:Value→Shared→Prop} {i:Nat} {n:Str} {pos:Pos} {Q:Unit→Shared→Prop} (I:Inv X pins σ H s) (hN:X.N.Nodup) (hi:X.N[i]? = some n) (hk:X.env.kindOf n=some .local)
  (h:∀ s',Inv X pins (σ.set i none) H s'→Q () s'):wpAny M A (bindName X.env n .none >>= fun _=>unbindBehindTheSuite X.env n pos) Q E s:=by
 obtain ⟨m,hn,hl⟩:=id I.loc
 have hcls:(X.env.scope.kind == .class || (X.env.scope.kind == .module && X.env.locals != X.env.globals))=false:=by rw [I.ok.kind];rfl
 have hiσ:i<σ.length:=by rw [I.len];exact (List.getElem?_eq_some_iff.mp hi).1
 refine wpAny_nameGoes_keeps hk hn hcls fun h' v hn' hs=>h _ ?_
 have ne0:∀ b ob,X.s₀.heap.get? b=some ob→b≠X.env.locals:=fun b ob e=>Nat.ne_of_lt (Nat.lt_of_lt_of_le (Heap.lt_size e) I.ok.above)
 refine ⟨I.ok,I.os,I.bare,⟨fun b ob e nn hb hx=>(hs.2 b (ne0 b ob e)).trans (I.base.keep b ob e nn hb hx),fun b ob e nn hb hx=>?_,I.base.free,fun b ob e hx=>?_,I.base.tups,I.base.frzs,I.base.tbls⟩,⟨_,hn',fun j y v' e1 e2 e3=>?_⟩,fun y c e=>?_,I.free,I.freeC,fun p hp=>?_,fun b ob e=>?_,by simpa using I.len⟩
 ·obtain ⟨sl,z⟩:=I.base.slot b ob e nn hb hx
  exact ⟨sl,(hs.2 b (ne0 b ob e)).trans z⟩
 ·obtain ⟨o',z⟩:=I.base.there b ob e hx
  exact ⟨o',(hs.2 b (ne0 b ob e)).trans z⟩
 ·by_cases hj:j=i
  ·subst hj
   rw [List.getElem?_set_self hiσ] at e2
   cases e2
  ·rw [List.getElem?_set_ne (Ne.symm hj)] at e2
   obtain ⟨u',r',q⟩:=hl j y v' e1 e2 e3
   refine ⟨u',r',?_⟩
   rcases q with ⟨k,e⟩ | ⟨k,c,e,z⟩
   ·have:y≠n:=fun e=>hj (nodup_ix hN e1 (e ▸ hi))
    exact .inl ⟨k,by simp [this,e]⟩
   ·exact .inr ⟨k,c,e,z.sameBut hs (I.cne y c e)⟩
 ·obtain ⟨w',z⟩:=I.cell y c e
  exact ⟨w',z.sameBut hs (I.cne y c e)⟩
 ·obtain ⟨e,nn,ne,nf,d⟩:=I.pin p hp
  exact ⟨(hs.2 p.1 ne).trans e,nn,ne,nf,d⟩
 ·refine (I.hok b ob e).stay (fun c w' hc q=>(hs.2 c ?_).trans q) (fun _ q=>q) fun _ _ q=>q
  rintro rfl
  rcases hc with z | z
  ·rw [← z,I.free] at e;cases e
  ·rw [I.free] at z;cases z
end
def goH (K:PySem.W.Frag) (Ce:Addr) (D:Ends) (σ:St) (H:Hp):List (Addr × (Addr→TS))→Prop
 | []=>False
 | (C,t)::r=>∃ b,PySem.W.mroIn K Ce (.ref C)=some b∧if b=true then t Ce D σ H else goH K Ce D σ H r
def exH (K:PySem.W.Frag) (L:List (Addr × (Addr→TS))) (D:Ends):St→XK:=fun σ Cv _ H=>∃ Ce,Cv = .ref Ce∧XCls K Ce∧goH K Ce D σ H L
def asT (i:Nat) (t:TS) (Ce:Addr):TS:=fun D σ H=>∀ a,H a=none→t ⟨fun σ' H'=>D.nx (σ'.set i none) H',D.rt,fun σ' H'=>D.bk (σ'.set i none) H',fun σ' H'=>D.ct (σ'.set i none) H'⟩ (σ.set i (some (.ref a))) (upd H a (ExcO a Ce))
inductive PHs (X:Cx):List ExceptHandler→List (Addr × (Addr→TS))→Prop where
 | nil:PHs X [] []
 | cons {x:Str} {np pos:Pos} {C:Addr} {b₀:Stmt} {suite:List Stmt} {t:TS} {r:List ExceptHandler} {L:List (Addr × (Addr→TS))} (hg:Gl X x) (hm:X.mg x=some (.ref C)) (hx:XCls X.K C) (hd:(x == ("__debug__":Str))=false)
   (hs:∀ a,PSs (suiteCx X a) (b₀::suite) t) (hr:PHs X r L):PHs X (.ExceptHandler (some (.Name x np)) none (b₀::suite) pos::r) ((C,fun _=>t)::L)
 | as {x n:Str} {i:Nat} {np pos:Pos} {C:Addr} {b₀:Stmt} {suite:List Stmt} {t:TS} {r:List ExceptHandler} {L:List (Addr × (Addr→TS))} (hg:Gl X x) (hm:X.mg x=some (.ref C)) (hx:XCls X.K C) (hd:(x == ("__debug__":Str))=false)
   (hN:X.N.Nodup) (hi:X.N[i]? = some n) (hk:X.env.kindOf n=some .local) (hs:∀ a,PSs (suiteCx X a) (b₀::suite) t) (hr:PHs X r L):PHs X (.ExceptHandler (some (.Name x np)) (some n) (b₀::suite) pos::r) ((C,asT i t)::L)
section
variable {X:Cx} {pins:List (Addr × Obj)} {σ:St} {H H':Hp} {s s':Shared} {a Ce:Addr} {B:Heap} {a0:Value} {D:Ends}
theorem fly_new (fl:Heap.FlyingW B X.stack a (.ref Ce) a0 s'.heap) (inB:∀ b o,s.heap.get? b=some o→b ∉ frs X.stack→∃ o',B.get? b=some o'):s.heap.get? a=none:=by
 cases z:s.heap.get? a with
 | none=>rfl
 | some o =>
  obtain ⟨_,f2,f3,oe,vs,_,_,_,he,_,hd,_⟩:=fl
  by_cases hb:a∈frs X.stack
  ·obtain ⟨_,o2,e2,nf⟩:=f3.mem hb
   rw [he] at e2;cases e2
   exact absurd hd (nf vs)
  ·obtain ⟨o',e'⟩:=inB a o z hb
   rw [f2] at e';cases e'
theorem handle_go (hB:Body X) (I:Inv X pins σ H s) (un:Un (frs X.stack) [] H H' s.heap s'.heap) (hok:HOk X.prog X.w H' s'.heap) (os:s'.os=s.os) (bare:AllBare s'.gens) (k1:B.StaysIn s'.heap)
  (inB:∀ b o,s.heap.get? b=some o→b ∉ frs X.stack→∃ o',B.get? b=some o') (tr:∀ b o,H' b=some o→∃ o',B.get? b=some o') (new:s.heap.get? a=none) (xc:XCls X.K Ce) {hs:List ExceptHandler} {L:List (Addr × (Addr→TS))} (P:PHs X hs L) :
  ∀ {h3:Heap},Heap.FlyingW B X.stack a (.ref Ce) a0 h3→s'.heap.UpToSlots h3→goH X.K Ce D σ H' L→wpAny (model X.prog X.w) X.A (handleBy (.ref a) X.env hs) (SP X pins D) X.xe { s' with heap:=h3 }:=by
 induction P with
 | nil=>intro h3 _ _ g;exact g.elim
 | cons hg hm hx hd hsu hr ih =>
  intro h3 fl up g
  obtain ⟨b,hb,g⟩:=g
  have J:Inv X pins σ H' { s' with heap:=h3,toks:=s'.toks }:=I.caught (a:=a) (C:=.ref Ce) (t':=s'.toks) hB un hok os bare k1 fl.1 up inB tr
  refine wpAny_handleBy_cons (codeAny_handlers_test (ld_glob (J.suite (a:=a)) hg hm ?_ hd)) (by intro q;cases q)
  obtain ⟨bm,N,nm,qn,bs,hdct,sn,sub,ab,col,dd,j0,j1,j2,j3,j5,mN,hC,_,_,T⟩:=hx.obj J.kIn
  obtain ⟨bmE,N',nm',qn',bs',hdct',sn',sub',ab',col',dd',i0,i1,i2,i3,i5,mN',hE,_,_,_⟩:=xc.obj J.kIn
  obtain ⟨ob,hob,hobc⟩:=fl.there
  refine exc_two hC hE hob hobc (T.hasType PySem.F.excBase_ValueError.hasBase) (XCls.mro J.kIn hE hb) ?_
  cases b with
  | true =>
   rw [if_pos rfl] at g
   refine codeAny_handlers_suite (lands_againW fl fun h6 f6 up6=>?_)
   have J6:Inv X pins σ H' { s' with heap:=h6,toks:=s'.toks }:=I.caught (a:=a) (C:=.ref Ce) (t':=s'.toks) hB un hok os bare k1 f6.1 (up.trans up6) inB tr
   exact wpAny_mono (hsu a pins _ σ H' D J6.suite g) (fun f s4 h4=>h4.unsuite I.ok) fun _ _ z=>z.elim
  | false =>
   rw [if_neg Bool.false_ne_true] at g
   exact ih fl up g
 | as hg hm hx hd hN hi hk hsu hr ih =>
  intro h3 fl up g
  obtain ⟨b,hb,g⟩:=g
  have J:Inv X pins σ H' { s' with heap:=h3,toks:=s'.toks }:=I.caught (a:=a) (C:=.ref Ce) (t':=s'.toks) hB un hok os bare k1 fl.1 up inB tr
  refine wpAny_handleBy_cons (codeAny_handlers_test (ld_glob (J.suite (a:=a)) hg hm ?_ hd)) (by intro q;cases q)
  obtain ⟨bm,N,nm,qn,bs,hdct,sn,sub,ab,col,dd,j0,j1,j2,j3,j5,mN,hC,_,_,T⟩:=hx.obj J.kIn
  obtain ⟨bmE,N',nm',qn',bs',hdct',sn',sub',ab',col',dd',i0,i1,i2,i3,i5,mN',hE,_,_,_⟩:=xc.obj J.kIn
  obtain ⟨ob,hob,hobc⟩:=fl.there
  refine exc_two hC hE hob hobc (T.hasType PySem.F.excBase_ValueError.hasBase) (XCls.mro J.kIn hE hb) ?_
  cases b with
  | true =>
   rw [if_pos rfl] at g
   refine codeAny_handlers_suite_as (lands_againW fl fun h6 f6 up6=>?_)
   have J6:Inv X pins σ H' { s' with heap:=h6,toks:=s'.toks }:=I.caught (a:=a) (C:=.ref Ce) (t':=s'.toks) hB un hok os bare k1 f6.1 (up.trans up6) inB tr
   have hn:H' a=none:=by
    cases z:H' a with
    | none=>rfl
    | some o =>
     obtain ⟨o',e'⟩:=tr a o z
     rw [f6.2.1] at e';cases e'
   obtain ⟨oe,hoe,hoec⟩:=f6.there
   have nl:a≠X.env.locals:=fun z=>by
    obtain ⟨m,⟨o,_,_,ho,_⟩,_⟩:=I.loc
    rw [← z,new] at ho;cases ho
   have nc:∀ x c,X.env.cells.lookup x=some c→c≠a:=fun x c e z=>by
    obtain ⟨v,o,ho,_⟩:=I.cell x c e
    rw [z,new] at ho;cases ho
   have np:∀ p∈X.pn++pins,p.1≠a:=fun p hp z=>by
    have:=(I.pin p hp).1
    rw [z,new] at this;cases this
   have n0:∀ ob,X.s₀.heap.get? a≠some ob:=fun ob z=>by
    obtain ⟨o',e'⟩:=I.base.there a ob z (by rw [hB.ex];simp)
    rw [new] at e';cases e'
   refine store_ok2 (v:=.ref a) J6 hN hi (.inl hk) rfl (fun s7 J7 ⟨b,sb,hb⟩=>?_) (.inr hk)
   have e7:s7.heap.get? a=some oe:=by
    refine (sb.2 a fun z=>?_).trans hoe
    rcases hb with q | q
    ·exact nl (z.trans q)
    ·exact nc _ _ q z.symm
   have J8:=J7.track (o:=ExcO a Ce) hn n0 nl nc np ⟨⟨oe,e7,hoec⟩,⟨oe,e7⟩,fun h1 h2 ⟨o,z,zc⟩ k=>⟨o,k o z,zc⟩⟩
   refine wpAny_mono (hsu a pins _ _ _ _ J8.suite (g a hn)) (fun f s4 h4=>?_) fun _ _ z=>z.elim
   cases f with
   | next =>
    obtain ⟨σ',H5,J9,q⟩:=h4
    exact name_gone (J9.unsuite I.ok) hN hi hk fun s5 J=>⟨_,H5,J,q⟩
   | brk =>
    obtain ⟨σ',H5,J9,q⟩:=h4
    exact name_gone (J9.unsuite I.ok) hN hi hk fun s5 J=>⟨_,H5,J,q⟩
   | cont =>
    obtain ⟨σ',H5,J9,q⟩:=h4
    exact name_gone (J9.unsuite I.ok) hN hi hk fun s5 J=>⟨_,H5,J,q⟩
   | ret u =>
    obtain ⟨v,σ',H5,J9,r,q⟩:=h4
    exact name_gone (J9.unsuite I.ok) hN hi hk fun s5 J=>⟨v,_,H5,J,r,q⟩
  | false =>
   rw [if_neg Bool.false_ne_true] at g
   exact ih fl up g
end
def hx (X:Cx) (pins:List (Addr × Obj)) (D:Ends) (hs:List ExceptHandler):Value→Shared→Prop:=fun e s' =>
 wpAny (model X.prog X.w) X.A (noteFrame e X.env) (fun _ s2=>wpAny (model X.prog X.w) X.A (setFlight e none) (fun _ s3=>wpAny (model X.prog X.w) X.A (handleBy e X.env hs) (SP X pins D) X.xe s3) X.xe s2) X.xe s'
theorem passTry {X:Cx} {pins:List (Addr × Obj)} {D:Ends} {hs:List ExceptHandler} {L:List (Addr × (Addr→TS))} (hB:Body X) (P:PHs X hs L):PassX (tryCx X pins (hx X pins D hs)) (exH X.K L D):=fun pins' σ H s e s' I0 h=>by
 obtain ⟨a,C,H',rfl,F,Ce,rfl,xc,g⟩:=h
 have I:Inv X pins σ H s:=I0.untry
 obtain ⟨os,bare,un,hok,B,a0,fl,inB,tr⟩:=F
 have fl:Heap.FlyingW B X.stack a (.ref Ce) a0 s'.heap:=fl
 have new:s.heap.get? a=none:=fly_new (X:=X) fl inB
 have fl':Heap.FlyingW B (X.env::X.outer) a (.ref Ce) a0 s'.heap:=by rw [← hB.stk];exact fl
 refine wpAny_looks_onW (by rw [I.ok.frames,hB.stk]) hB.fr fl' fun h4 held4 up4=>?_
 refine wpAny_landsW held4 fun h5 fl5 up5=>?_
 have fl5':Heap.FlyingW B X.stack a (.ref Ce) a0 h5:=by rw [hB.stk];exact fl5
 exact handle_go hB I un hok os bare fl.1 inB tr new xc P fl5' (up4.trans up5) g
theorem ps_try {X:Cx} {body:List Stmt} {h₀:ExceptHandler} {hs:List ExceptHandler} {pos:Pos} {tb:Ends→TS} (hb:∀ pins D,PSs (tryCx X pins (hx X pins D (h₀::hs))) body (tb D)):PS X (.Try body (h₀::hs) [] [] pos) (fun D σ H=>tb D D σ H):=by
 intro pins s σ H D I h
 refine wpAny_Try_except (wpAny_mono (hb pins D [] s σ H D I.try_ h) (fun f s1 h1=>?_) fun e s1 h1=>h1)
 have h2:SP X pins D f s1:=h1.untry
 cases f with
 | next=>exact wpAny_execs_nil h2
 | brk=>exact h2
 | cont=>exact h2
 | ret u=>exact h2
end L2
namespace L2
open PySem PySem.Spec PyProof.Rows Builtin Builtin.ObjectAttr Builtin.Getset_descriptor
structure ClsAt (K:PySem.W.Frag) (C:Addr):Prop where
 ga:PySem.W.findIn K (.ref C) "__getattribute__" = some (some (.builtin "BaseException.__getattribute__"))
 gn:PySem.W.findIn K (.ref C) "__getattr__" = some none
 be:PySem.W.mroIn K C (.type "BaseException")=some true
 at_:PySem.W.findIn K (.ref C) "__class__" = some (some (.builtin "object.__class__"))
 get:PySem.W.specialIn K (.builtin "object.__class__") "__get__" = some (some (.builtin "getset_descriptor.__get__"))
 tk:PySem.W.takesIn K (.builtin "object.__class__")=some true
 ob:PySem.W.mroIn K C (.type "object")=some true
section
variable {K:PySem.W.Frag} {x C:Addr} {prog:Program} {w:World} {A:Around} {E:Value→Shared→Prop} {s:Shared}
end
end L2
namespace L2
open PySem PySem.Spec PyProof.Rows
def cOf (mg:Str→Option Value) (x:Str):Addr:=match mg x with
 | some (.ref a)=>a
 | _=>0
theorem cOf_of {mg:Str→Option Value} {x:Str} {a:Addr} (h:mg x=some (.ref a)):cOf mg x=a:=by unfold cOf;rw [h]
def HereM (K:PySem.W.Frag) (C:Addr) (m qual:Str) (st:Stmt) (ps:List Str):Prop:=∃ (f:Addr) (fd:FuncData),Fun K m qual st f fd∧Meth K C m f∧Binds K fd ps []
def HereI (K:PySem.W.Frag) (C:Addr) (qual:Str) (st:Stmt) (ps:List Str):Prop:=∃ (f:Addr) (fd:FuncData),Fun K "__init__" qual st f fd∧Mk K C f∧Binds K fd ps []
theorem body_nox {CX:CXT} {P:Program} {w:World} {K:PySem.W.Frag} {mg:Str→Option Value} {base:Heap} {N:List Str} {qual:Str} {scope:Scope} {f:Addr} {cd:Value} {A:Around} {outer:List Env} {s:Shared} {H:Hp} {E:XK} :
  Body (cxOf CX P w K mg base N qual scope f cd A outer s H E).nox:=⟨rfl,rfl,rfl⟩
end L2
namespace L2
open PySem PySem.Spec PyProof.Rows
end L2
namespace L2
open PySem PySem.Spec PyProof.Rows PySem.SeqAt
def SameV (K:PySem.W.Frag) (H:Hp):Nat→V→V→Prop
 | 0,x,y=>x=y∧flatV x=true
 | n + 1,x,y=>(x=y∧flatV x=true)∨∃ p q xs ys,x = .ref p∧y = .ref q∧SqT K H p xs∧SqT K H q ys∧xs.length=ys.length∧∀ (j:Nat) a b,xs[j]? = some a→ys[j]? = some b→SameV K H n a b
theorem eqV_self {x:V} (f:flatV x=true):eqV x x=true:=by
 cases x with
 | non=>rfl
 | bl b=>cases b <;> rfl
 | int i=>exact beq_self_eq_true i
 | str z=>exact beq_self_eq_true z
 | _=>cases f
section
variable {X:Cx} {pins:List (Addr × Obj)} {σ:St} {H:Hp} {s:Shared}
theorem all_true {n:Nat}:(List.range n).all (fun _=>true)=true:=by rw [List.all_eq_true];exact fun _ _=>rfl
theorem same_eqAt (I:Inv X pins σ H s):∀ (n:Nat) {x y:V} {u v:Value} {A:Around},A.units + n<cLine→SameV X.K H n x y→RelV x u→RelV y v→EqAt A s u v true
 | 0,x,y,u,v,A,_,h,ru,rv=>by
  obtain ⟨rfl,f⟩:=h
  have:=eqAt_V (A:=A) (s:=s) ru rv f f
  rwa [eqV_self f] at this
 | n + 1,x,y,u,v,A,hu,h,ru,rv=>by
  rcases h with ⟨rfl,f⟩ | ⟨p,q,xs,ys,rfl,rfl,hp,hq,hl,he⟩
  ·have:=eqAt_V (A:=A) (s:=s) ru rv f f
   rwa [eqV_self f] at this
  ·cases (show u=Value.ref p from ru)
   cases (show v=Value.ref q from rv)
   by_cases e:p=q
   ·subst e;exact EqAt.same _
   ·obtain ⟨us,r1,t1,_⟩:=I.tuple hp
    obtain ⟨vs,r2,t2,_⟩:=I.tuple hq
    have l1:=r1.length
    have l2:=r2.length
    refine EqAt.of_refs e ?_
    have r:=RcAt.tuples (A:=A) (s:=s) (e:=fun _=>true) t1 t2 (Nat.lt_of_le_of_lt (Nat.le_add_right _ _) hu) fun j h1 h2=>by
     have h1':j<us.length:=by simpa using h1
     have h2':j<vs.length:=by simpa using h2
     simp only [List.getElem_toArray]
     have e1:xs[j]? = some xs[j]:=List.getElem?_eq_getElem (by omega)
     have e2:ys[j]? = some ys[j]:=List.getElem?_eq_getElem (by omega)
     obtain ⟨z1,q1,w1⟩:=r1.get e1
     obtain ⟨z2,q2,w2⟩:=r2.get e2
     rw [List.getElem?_eq_getElem h1'] at q1
     rw [List.getElem?_eq_getElem h2'] at q2
     cases q1
     cases q2
     exact same_eqAt I n (A:=A.in1) (by show A.units + 1 + n<cLine;omega) (he j _ _ e1 e2) w1 w2
    rw [all_true] at r
    have z:(us.toArray.size == vs.toArray.size)=true:=by simp;omega
    rw [z] at r
    exact r
theorem hu4 {A:Around} {k:Nat} (hr:Room k A):A.units + 4<cLine:=Nat.lt_of_le_of_lt (Nat.add_le_add_left (by decide:4≤64) _) hr.units
end
end L2
namespace My
open PySem L2 Mt
abbrev Q2:=Int × Int
def red (t b:Int):Q2:=(ltN t b,ltD t b)
def qadd (a b:Q2):Q2:=red (a.1 * b.2 + b.1 * a.2) (a.2 * b.2)
def qmul (a b:Q2):Q2:=red (a.1 * b.1) (a.2 * b.2)
def qneg (a:Q2):Q2:=(-a.1,a.2)
def qabs (a:Q2):Q2:=(if a.1<0 then -a.1 else a.1,a.2)
def ratio (ts:List Int):Q2:=red (ratT ts) (ratB ts)
inductive Deed where
 | mount (ts:List Int) | turn (a:Q2) | wait | close | opn | move (a:Q2) | cut (a:Q2)
structure PS where
 train:List Int
 pitch:Option Q2
 work:Q2
 place:Q2
 closed:Bool
 off:Option Q2
 cuts:List Q2
 turned:Q2
 moved:Q2
def ps0:PS:=⟨[],none,(0,1),(0,1),false,none,[],(0,1),(0,1)⟩
def PS.r (p:PS):Q2:=p.pitch.getD (0,1)
def PS.ahead (p:PS):Q2:=match p.off with
 | none=>(0,1)
 | some o=>red (o.1 % (o.2 * p.r.1) * p.r.2) (o.2 * p.r.1)
def PS.turn (p:PS) (a:Q2):PS :=
 { p with work:=qadd p.work a,turned:=qadd p.turned (qabs a),place:=if p.closed then qadd p.place (qmul p.r a) else p.place,off:=if p.closed then p.off else p.off.map fun o=>qadd o (qneg (qmul p.r a)) }
def PS.closing (p:PS):Int:=(p.off.getD (0,1)).1
def PS.groove (p:PS):Int:=p.closing * p.r.2 % p.r.1
def PS.after (p:PS):Deed→PS
 | .mount ts=>{ ps0 with train:=ts,pitch:=some (ratio ts) }
 | .turn a=>p.turn a
 | .wait=>p.turn p.ahead
 | .close=>{ p with closed:=true,off:=some (p.off.getD (0,1)) }
 | .opn=>{ p with closed:=false }
 | .move a=>{ p with place:=qadd p.place a,moved:=qadd p.moved (qabs a),off:=p.off.map fun o=>qadd o a }
 | .cut a=>{ p.turn a with cuts:=p.cuts++[(p.closing,p.groove)] }
structure LS where
 shop:List Int
 teeth:Int
 book:List Deed
def LS.ps (l:LS):PS:=l.book.foldl PS.after ps0
def LS.push (l:LS) (d:Deed):LS:={ l with book:=l.book++[d] }
theorem LS.ps_push (l:LS) (d:Deed):(l.push d).ps=l.ps.after d:=by unfold LS.ps LS.push;rw [List.foldl_append];rfl
def LS.back (l:LS):LS:={ l with book:=l.book.dropLast }
inductive Req where
 | mount (ts:List Int) | turn (t b:Int) | wait | close | opn | move (t b:Int) | cut (t b:Int)
def Req.deed:Req→Deed
 | .mount ts=>.mount ts
 | .turn t b=>.turn (red t b)
 | .wait=>.wait
 | .close=>.close
 | .opn=>.opn
 | .move t b=>.move (red t b)
 | .cut t b=>.cut (red t b)
def tooMuch (a b:Q2):Bool:=decide (100000 * (qadd a (qabs b)).2<(qadd a (qabs b)).1)
def Req.bad (p:PS):Req→Bool
 | .mount ts=>!(decide (ts.length=2∨ts.length=4) && decide ts.Nodup)
 | .turn t b=>decide (b<1) || decide (1000<b) || tooMuch p.turned (t,b)
 | .wait=>tooMuch p.turned p.ahead
 | .close=>false
 | .opn=>false
 | .move t b=>decide (b<1) || decide (1000<b) || tooMuch p.moved (t,b)
 | .cut t b=>decide (b<1) || decide (1000<b) || decide (t≤0) || tooMuch p.turned (t,b)
def Req.wrong (p:PS):Req→Bool
 | .mount _=>p.closed
 | .turn _ _=>false
 | .wait=>p.closed
 | .close=>p.closed
 | .opn=>!p.closed
 | .move _ _=>p.closed
 | .cut _ _=>!p.closed
def Req.known (l:LS):Req→Bool
 | .mount ts=>ts.all fun w=>decide (w∈l.shop)
 | _=>true
def Req.has (l:LS):Req→Bool
 | .mount _=>true
 | _=>l.ps.pitch.isSome
def Req.meets (l:LS):Req→Bool
 | .close=>(l.ps.off.getD (0,1)).2 == 1
 | _=>true
def due (l:LS) (q:Req):Option String :=
 if q.known l=false then some "UnknownWheel"
 else if q.has l=false then some "NoTrain"
 else if q.wrong l.ps=true then some "WrongNut"
 else if q.bad l.ps=true then some "BadNumber"
 else if q.meets l=false then some "NoMeeting"
 else if 100≤l.book.length then some "BookFull"
 else none
def Tups (H H':Hp):Prop:=∀ b xs,H b=some (.tup xs)→H' b=some (.tup xs)
theorem Same.tups {H H':Hp} (s:Same H H'):Tups H H':=fun b xs h=>s b _ h
def TupK (K:PySem.W.Frag) (H:Hp) (a:Addr) (xs:List V):Prop:=H a=some (.tup xs)∨SqT K (fun _=>none) a xs
theorem TupK.sq {K:PySem.W.Frag} {H:Hp} {a:Addr} {xs:List V} (h:TupK K H a xs):SqT K H a xs:=by
 rcases h with h | ((h | ⟨o,h⟩) | h)
 ·exact SqT.of h
 ·cases h
 ·cases h
 ·exact .inr h
theorem TupK.tups {K:PySem.W.Frag} {H H':Hp} {a:Addr} {xs:List V} (h:TupK K H a xs) (s:Tups H H'):TupK K H' a xs:=h.elim (fun h=>.inl (s _ _ h)) .inr
theorem TupK.mono {K:PySem.W.Frag} {H H':Hp} {a:Addr} {xs:List V} (h:TupK K H a xs) (s:Same H H'):TupK K H' a xs:=h.tups (Same.tups s)
def FrA (K:PySem.W.Frag) (H:Hp) (a:Addr) (x:Q2):Prop:=TupK K H a [.int x.1,.int x.2]
def FrO (K:PySem.W.Frag) (H:Hp) (v:V):Option Q2→Prop
 | none=>v = .non
 | some x=>∃ a,v = .ref a∧FrA K H a x
def InO (v:V):Option Int→Prop
 | none=>v = .non
 | some x=>v = .int x
def LS.shown (l:LS):Option Q2:=l.ps.off.map fun o=>red (o.1 % (l.teeth * o.2)) o.2
def LS.last (l:LS):Option Int:=l.ps.cuts.getLast?.map (·.2)
def StandA (K:PySem.W.Frag) (H:Hp) (r:Addr) (l:LS):Prop:=∃ c v g,H r=some (.tup [.ref c,v,g])∧FrA K H c l.ps.place∧FrO K H v l.shown∧InO g l.last
theorem FrA.sq {K:PySem.W.Frag} {H:Hp} {a:Addr} {x:Q2} (h:FrA K H a x):SqT K H a [.int x.1,.int x.2]:=TupK.sq h
theorem FrA.tups {K:PySem.W.Frag} {H H':Hp} {a:Addr} {x:Q2} (h:FrA K H a x) (s:Tups H H'):FrA K H' a x:=TupK.tups h s
theorem FrA.mono {K:PySem.W.Frag} {H H':Hp} {a:Addr} {x:Q2} (h:FrA K H a x) (s:Same H H'):FrA K H' a x:=TupK.mono h s
theorem FrO.tups {K:PySem.W.Frag} {H H':Hp} {v:V} {x:Option Q2} (h:FrO K H v x) (s:Tups H H'):FrO K H' v x:=by
 cases x with
 | none=>exact h
 | some x=>obtain ⟨a,e,h⟩:=h;exact ⟨a,e,h.tups s⟩
structure Fit (F F':Addr→Prop) (H H':Hp):Prop where
 keep:∀ b o,H b=some o→¬ F b→H' b=some o
 foot:∀ b,F' b→F b∨H b=none
 tup:∀ b xs,H b=some (.tup xs)→H' b=some (.tup xs)
theorem Fit.refl (F:Addr→Prop) (H:Hp):Fit F F H H:=⟨fun _ _ h _=>h,fun _ h=>.inl h,fun _ _ h=>h⟩
theorem Fit.trans {F F1 F2:Addr→Prop} {H H1 H2:Hp} (a:Fit F F1 H H1) (b:Fit F1 F2 H1 H2):Fit F F2 H H2 where
 keep:=fun c o h n=>b.keep c o (a.keep c o h n) fun z=>(a.foot c z).elim n fun e=>by rw [e] at h;cases h
 foot:=fun c z=>(b.foot c z).elim (a.foot c) fun e=>by
  cases q:H c with
  | none=>exact .inr rfl
  | some o =>
   by_cases m:F c
   ·exact .inl m
   ·rw [a.keep c o q m] at e;cases e
 tup:=fun c xs h=>b.tup c xs (a.tup c xs h)
theorem Fit.of_same {F:Addr→Prop} {H H':Hp} (s:Same H H'):Fit F F H H':=⟨fun b o h _=>s b o h,fun _ h=>.inl h,fun b xs h=>s b _ h⟩
theorem Fit.out {F F':Addr→Prop} {H H':Hp} (a:Fit F F' H H') {b:Addr} {o:HO} (h:H b=some o) (n:¬ F b):¬ F' b:=fun z=>(a.foot b z).elim n fun e=>by rw [e] at h;cases h
end My
namespace My
open PySem L2 Mt
structure GoodShop (ws:List Int) (n:Int):Prop where
 l2:2≤ws.length
 l12:ws.length≤12
 shop:Shop ws
 n2:2≤n
 n64:n≤64
theorem good_mount {l:LS} {ts:List Int} (h1:∀ v∈ts,v∈l.shop) (h2:l.ps.closed=false) (h3:ts.length=2∨ts.length=4) (h4:ts.Nodup) (h5:l.book.length<100):due l (.mount ts)=none:=by
 have e1:(ts.all fun w=>decide (w∈l.shop))=true:=by rw [List.all_eq_true];exact fun v hv=>decide_eq_true (h1 v hv)
 have e2:(!(decide (ts.length=2∨ts.length=4) && decide ts.Nodup))=false:=by rw [decide_eq_true h3,decide_eq_true h4];rfl
 unfold due
 simp only [Req.known,Req.has,Req.meets,e1,Req.wrong,Req.bad,h2,e2]
 simp
 omega
theorem good_close {l:LS} (h1:l.ps.pitch.isSome=true) (h2:l.ps.closed=false) (h3:(l.ps.off.getD (0,1)).2=1) (h5:l.book.length<100):due l .close=none:=by
 unfold due
 simp only [Req.known,Req.has,Req.meets,h1,Req.wrong,Req.bad,h2,h3]
 simp
 omega
theorem good_open {l:LS} (h1:l.ps.pitch.isSome=true) (h2:l.ps.closed=true) (h5:l.book.length<100):due l .opn=none:=by
 unfold due
 simp only [Req.known,Req.has,Req.meets,h1,Req.wrong,Req.bad,h2]
 simp
 omega
end My
namespace My
open PySem L2 Mt
theorem Train.rat {ts:List Int} (h:Train ts):Rat2 (ratT ts) (ratB ts):=by
 obtain ⟨b1,b2,b3,b4⟩:=h.in
 exact ⟨by omega,by omega,by omega,by omega⟩
theorem Train.pl {ts:List Int} (h:Train ts):Pl (ratT ts) (ratB ts) (ratio ts).1 (ratio ts).2:=h.rat.pl
theorem Train.bd {ts:List Int} (h:Train ts):∀ v∈ts,Bd 200 v:=fun v hv=>by
 have h1:=h.lo v hv
 have h2:=h.hi v hv
 exact (bd20 (by omega) (by omega)).mono (by decide)
theorem Shop.bd {ts:List Int} (h:Shop ts):∀ v∈ts,Bd 200 v:=fun v hv=>by
 have h1:=h.lo v hv
 have h2:=h.hi v hv
 exact (bd20 (by omega) (by omega)).mono (by decide)
theorem Train.len2 {ts:List Int} (h:Train ts):ts.length≤4:=by have:=h.len;omega
theorem Fit.made {F:Addr→Prop} {H H':Hp} {x dx:Addr} {o o':HO} (nx:H x=none) (nd:H dx=none) (k:∀ b u,upd (upd H dx o) x o' b=some u→b≠x→H' b=some u) (f:∀ b,F b→b=x∨b=dx∨upd (upd H dx o) x o' b=none):Fit (fun _=>False) F H H' where
 keep:=fun b u e _=>by
  have n1:=ne_of_none e nx
  have n2:=ne_of_none e nd
  exact k b u (by rw [upd_ne n1,upd_ne n2];exact e) n1
 foot:=fun b z=>.inr (by
  rcases f b z with e | e | e
  ·rw [e];exact nx
  ·rw [e];exact nd
  ·by_cases n1:b=x
   ·rw [n1];exact nx
   ·by_cases n2:b=dx
    ·rw [n2];exact nd
    ·rw [upd_ne n1,upd_ne n2] at e;exact e)
 tup:=fun b xs e=>by
  have n1:=ne_of_none e nx
  have n2:=ne_of_none e nd
  exact k b _ (by rw [upd_ne n1,upd_ne n2];exact e) n1
end My
namespace My
open PySem L2 Mt
def Ob (F:Addr→Prop) (H:Hp) (p:Addr) (o:HO):Prop:=H p=some o∧¬ F p
theorem Ob.fit {F F':Addr→Prop} {H H':Hp} {p:Addr} {o:HO} (h:Ob F H p o) (f:Fit F F' H H'):Ob F' H' p o:=⟨f.keep _ _ h.1 h.2,f.out h.1 h.2⟩
theorem Ob.same {F:Addr→Prop} {H H':Hp} {p:Addr} {o:HO} (h:Ob F H p o) (s:Same H H'):Ob F H' p o:=⟨s _ _ h.1,h.2⟩
end My
namespace My
open PySem L2 Mt
def qv (a:Q2):Rat:=(a.1:Rat) / (a.2:Rat)
structure Ok2 (a:Q2):Prop where
 pos:1≤a.2
 co:Int.gcd a.1 a.2=1
theorem Ok2.ne {a:Q2} (h:Ok2 a):a.2≠0:=by have:=h.pos;omega
theorem Ok2.nz {a:Q2} (h:Ok2 a):(a.2:Rat)≠0:=by have:=h.ne;exact_mod_cast this
theorem Ok2.gt {a:Q2} (h:Ok2 a):(0:Rat)<(a.2:Rat):=by have:=h.pos;exact_mod_cast (show (0:Int)<a.2 by omega)
theorem red_ok {t b:Int} (h:b≠0):Ok2 (red t b):=⟨(lt_is h).pos,(lt_is h).co⟩
theorem qv_red {t b:Int} (h:b≠0):qv (red t b)=(t:Rat) / (b:Rat):=by
 have e:((red t b).1:Rat) * b=t * ((red t b).2:Rat):=by have:=(lt_is (t:=t) h).eq;exact_mod_cast this
 have n1:=(red_ok (t:=t) h).nz
 have n2:(b:Rat)≠0:=by exact_mod_cast h
 unfold qv
 grind
theorem qv_inj {a b:Q2} (ha:Ok2 a) (hb:Ok2 b) (h:qv a=qv b):a=b:=by
 have n1:=ha.nz
 have n2:=hb.nz
 have e:(a.1:Rat) * b.2=b.1 * a.2:=by unfold qv at h;grind
 have e:a.1 * b.2=b.1 * a.2:=by exact_mod_cast e
 have d1:a.2 ∣ b.2:=by
  have:a.2 ∣ b.2 * a.1:=⟨b.1,by rw [Int.mul_comm];rw [e];exact Int.mul_comm _ _⟩
  exact cop_dvd (by rw [Int.gcd_comm];exact ha.co) this
 have d2:b.2 ∣ a.2:=by
  have:b.2 ∣ a.2 * b.1:=⟨a.1,by rw [Int.mul_comm a.2];rw [← e];exact Int.mul_comm _ _⟩
  exact cop_dvd (by rw [Int.gcd_comm];exact hb.co) this
 have p1:=ha.pos
 have p2:=hb.pos
 have e2:a.2=b.2:=Int.le_antisymm (Int.le_of_dvd (by omega) d1) (Int.le_of_dvd (by omega) d2)
 rw [e2] at e
 have e1:a.1=b.1:=Int.eq_of_mul_eq_mul_right (by omega) e
 exact Prod.ext e1 e2
theorem red_self {a:Q2} (h:Ok2 a):red a.1 a.2=a:=qv_inj (red_ok h.ne) h (qv_red h.ne)
theorem qadd_ok {a b:Q2} (ha:a.2≠0) (hb:b.2≠0):Ok2 (qadd a b):=red_ok (Int.mul_ne_zero ha hb)
theorem qmul_ok {a b:Q2} (ha:a.2≠0) (hb:b.2≠0):Ok2 (qmul a b):=red_ok (Int.mul_ne_zero ha hb)
theorem qv_add {a b:Q2} (ha:a.2≠0) (hb:b.2≠0):qv (qadd a b)=qv a + qv b:=by
 unfold qadd
 rw [qv_red (Int.mul_ne_zero ha hb)]
 have n1:(a.2:Rat)≠0:=by exact_mod_cast ha
 have n2:(b.2:Rat)≠0:=by exact_mod_cast hb
 unfold qv
 rw [Rat.intCast_add,Rat.intCast_mul,Rat.intCast_mul,Rat.intCast_mul]
 grind
theorem qv_mul {a b:Q2} (ha:a.2≠0) (hb:b.2≠0):qv (qmul a b)=qv a * qv b:=by
 unfold qmul
 rw [qv_red (Int.mul_ne_zero ha hb)]
 have n1:(a.2:Rat)≠0:=by exact_mod_cast ha
 have n2:(b.2:Rat)≠0:=by exact_mod_cast hb
 unfold qv
 rw [Rat.intCast_mul,Rat.intCast_mul]
 grind
theorem qv_neg (a:Q2):qv (qneg a) = - qv a:=by
 unfold qv qneg
 rw [Rat.intCast_neg]
 grind
def rabs (x:Rat):Rat:=if x<0 then -x else x
theorem qabs_ok {a:Q2} (h:Ok2 a):Ok2 (qabs a):=by
 refine ⟨h.pos,?_⟩
 unfold qabs
 dsimp only
 split
 ·rw [Int.neg_gcd];exact h.co
 ·exact h.co
theorem qneg_ok {a:Q2} (h:Ok2 a):Ok2 (qneg a):=⟨h.pos,by show Int.gcd (-a.1) a.2=1;rw [Int.neg_gcd];exact h.co⟩
theorem qv_pos {a:Q2} (h:0<a.2):(qv a<0) ↔ a.1<0:=by
 have g:(0:Rat)<(a.2:Rat):=by exact_mod_cast h
 unfold qv
 constructor
 ·intro z
  have h2:(a.1:Rat) / a.2 * a.2<0 * a.2:=Rat.mul_lt_mul_of_pos_right z g
  have h3:(a.1:Rat) / a.2 * a.2=a.1:=by grind
  rw [h3,Rat.zero_mul] at h2
  exact_mod_cast h2
 ·intro z
  have z':(a.1:Rat)<0:=by exact_mod_cast z
  have i:(0:Rat)<(a.2:Rat)⁻¹:=Rat.inv_pos.mpr g
  have:=Rat.mul_lt_mul_of_pos_right z' i
  rw [Rat.zero_mul] at this
  rw [Rat.div_def];exact this
theorem qv_abs {a:Q2} (h:0<a.2):qv (qabs a)=rabs (qv a):=by
 unfold rabs
 by_cases z:a.1<0
 ·rw [if_pos ((qv_pos h).mpr z)]
  have:qabs a=qneg a:=by unfold qabs qneg;rw [if_pos z]
  rw [this,qv_neg]
 ·rw [if_neg (fun q=>z ((qv_pos h).mp q))]
  have:qabs a=a:=by unfold qabs;rw [if_neg z]
  rw [this]
theorem qv_le {a:Q2} {m:Int} (h:0<a.2):qv a≤(m:Rat) ↔ a.1≤m * a.2:=by
 have g:(0:Rat)<(a.2:Rat):=by exact_mod_cast h
 have h3:(a.1:Rat) / a.2 * a.2=a.1:=by grind
 unfold qv
 constructor
 ·intro z
  have h2:(a.1:Rat) / a.2 * a.2≤m * a.2:=Rat.mul_le_mul_of_nonneg_right z (by grind)
  rw [h3] at h2
  exact_mod_cast h2
 ·intro z
  have z':(a.1:Rat)≤m * a.2:=by exact_mod_cast z
  have i:(0:Rat)<(a.2:Rat)⁻¹:=Rat.inv_pos.mpr g
  have:=Rat.mul_le_mul_of_nonneg_right z' (Rat.le_of_lt i)
  have e:(m:Rat) * a.2 * (a.2:Rat)⁻¹=m:=by grind
  rw [e] at this
  rw [Rat.div_def];exact this
theorem rabs_add (x y:Rat):rabs (x + y)≤rabs x + rabs y:=by unfold rabs;split <;> split <;> split <;> grind
theorem rabs_nn (x:Rat):0≤rabs x:=by unfold rabs;split <;> grind
theorem rabs_neg (x:Rat):rabs (-x)=rabs x:=by unfold rabs;split <;> split <;> grind
theorem rabs_mul {r x:Rat} (h:0≤r):rabs (r * x)≤r * rabs x:=by
 unfold rabs
 by_cases z:x<0
 ·rw [if_pos z]
  have:r * x≤0:=by
   have:=Rat.mul_le_mul_of_nonneg_left (Rat.le_of_lt z) h
   grind
  split <;> grind
 ·rw [if_neg z]
  have:0≤r * x:=Rat.mul_nonneg h (by grind)
  split <;> grind
def Wh (x:Rat):Prop:=∃ z:Int,x=(z:Rat)
theorem Wh.add {x y:Rat} (h:Wh x) (g:Wh y):Wh (x + y):=by
 obtain ⟨a,rfl⟩:=h
 obtain ⟨b,rfl⟩:=g
 exact ⟨a + b,(Rat.intCast_add a b).symm⟩
theorem Wh.mul {x y:Rat} (h:Wh x) (g:Wh y):Wh (x * y):=by
 obtain ⟨a,rfl⟩:=h
 obtain ⟨b,rfl⟩:=g
 exact ⟨a * b,(Rat.intCast_mul a b).symm⟩
theorem Wh.neg {x:Rat} (h:Wh x):Wh (-x):=by
 obtain ⟨a,rfl⟩:=h
 exact ⟨-a,(Rat.intCast_neg a).symm⟩
theorem Wh.int (z:Int):Wh (z:Rat):=⟨z,rfl⟩
theorem den_dvd {a:Q2} {D:Int} (h:Ok2 a) (g:Wh (qv a * (D:Rat))):a.2 ∣ D:=by
 obtain ⟨z,e⟩:=g
 have n:=h.nz
 have e1:(a.1:Rat) * D=z * a.2:=by unfold qv at e;grind
 have e2:a.1 * D=z * a.2:=by exact_mod_cast e1
 have:a.2 ∣ D * a.1:=⟨z,by rw [Int.mul_comm,e2,Int.mul_comm]⟩
 exact cop_dvd (by rw [Int.gcd_comm];exact h.co) this
theorem den_bd {a:Q2} {D:Int} {k:Nat} (h:Ok2 a) (g:Wh (qv a * (D:Rat))) (d:0<D) (b:Bd k D):Bd k a.2:=by
 have:=Int.le_of_dvd d (den_dvd h g)
 have:=h.pos
 exact b.le (by omega)
theorem num_bd {a:Q2} {D m:Int} {k:Nat} (h:Ok2 a) (g:Wh (qv a * (D:Rat))) (d:0<D) (m0:0≤m) (l:rabs (qv a)≤(m:Rat)) (b:Bd k (m * D)):Bd k a.1:=by
 have h1:=Int.le_of_dvd d (den_dvd h g)
 have h2:=h.pos
 rw [← qv_abs (by omega)] at l
 have h3:=(qv_le (show 0<(qabs a).2 from by show 0<a.2;omega)).mp l
 have h4:m * a.2≤m * D:=Int.mul_le_mul_of_nonneg_left h1 m0
 have h5:(qabs a).1≤m * D:=Int.le_trans h3 h4
 refine b.le ?_
 have h6:(qabs a).1=(a.1.natAbs:Int):=by unfold qabs;dsimp only;split <;> omega
 omega
end My
namespace My
open PySem L2 Mt
def lcmTo:Nat→Nat
 | 0=>1
 | n + 1=>Nat.lcm (lcmTo n) (n + 1)
theorem lcmTo_dvd:∀ {n b:Nat},1≤b→b≤n→b ∣ lcmTo n
 | 0,b,h1,h2=>by omega
 | n + 1,b,h1,h2=>by
  unfold lcmTo
  by_cases e:b=n + 1
  ·rw [e];exact Nat.dvd_lcm_right _ _
  ·exact Nat.dvd_trans (lcmTo_dvd h1 (by omega)) (Nat.dvd_lcm_left _ _)
def LL:Int:=(lcmTo 1000:Nat)
theorem LL_bd:Bd 1500 LL:=by
 have h:lcmTo 1000<2 ^ 1500:=by decide +kernel
 unfold Bd LL
 exact h
theorem LL_pos:0<LL:=by
 have h:0<lcmTo 1000:=by decide +kernel
 unfold LL
 omega
theorem dvd_LL {b:Int} (h1:1≤b) (h2:b≤1000):b ∣ LL:=by
 have:=lcmTo_dvd (n:=1000) (b:=b.toNat) (by omega) (by omega)
 have h:=Int.natCast_dvd_natCast.mpr this
 rw [Int.toNat_of_nonneg (by omega)] at h
 exact h
theorem whole_LL {t b:Int} (h1:1≤b) (h2:b≤1000):Wh (qv (red t b) * (LL:Rat)):=by
 obtain ⟨k,hk⟩:=dvd_LL h1 h2
 rw [qv_red (by omega)]
 have n:(b:Rat)≠0:=by exact_mod_cast (show b≠0 by omega)
 refine ⟨t * k,?_⟩
 rw [hk,Rat.intCast_mul,Rat.intCast_mul]
 grind
theorem qv_zero:qv (0,1)=0:=by unfold qv;simp;grind
theorem ok_zero:Ok2 (0,1):=⟨by decide,by decide⟩
structure Pc (p:PS) (ts:List Int):Prop where
 tr:Train ts
 nd:ts.Nodup
 et:p.train=ts
 ep:p.pitch=some (ratio ts)
 w:Ok2 p.work
 pl:Ok2 p.place
 t:Ok2 p.turned
 m:Ok2 p.moved
 o:∀ x,p.off=some x→Ok2 x
 dw:Wh (qv p.work * ((LL * (ratio ts).1:Int):Rat))
 dt:Wh (qv p.turned * ((LL * (ratio ts).1:Int):Rat))
 dp:Wh (qv p.place * ((LL * (ratio ts).2:Int):Rat))
 dm:Wh (qv p.moved * (LL:Rat))
 dx:∀ x,p.off=some x→Wh (qv x * ((LL * (ratio ts).2:Int):Rat))
 lw:rabs (qv p.work)≤qv p.turned
 t0:0≤qv p.turned
 t1:qv p.turned≤100000
 m0:0≤qv p.moved
 m1:qv p.moved≤100000
 lp:rabs (qv p.place)≤qv p.moved + qv (ratio ts) * qv p.turned
 lo:∀ x,p.off=some x→rabs (qv x)≤qv p.moved + qv (ratio ts) * qv p.turned
 cl:p.closed=true→∃ k:Int,p.off=some (k,1)
 cu:∀ c∈p.cuts,c.2=c.1 * (ratio ts).2 % (ratio ts).1∧Bd 64 c.1
theorem Train.rok {ts:List Int} (h:Train ts):Ok2 (ratio ts):=⟨h.pl.q1,h.pl.co⟩
theorem Train.rpos {ts:List Int} (h:Train ts):0≤qv (ratio ts):=by
 have g:=h.rok.gt
 have p:(0:Rat)≤((ratio ts).1:Rat):=by have:=h.pl.p1;exact_mod_cast (show (0:Int)≤(ratio ts).1 by omega)
 have i:(0:Rat)<((ratio ts).2:Rat)⁻¹:=Rat.inv_pos.mpr g
 unfold qv
 rw [Rat.div_def]
 exact Rat.mul_nonneg p (Rat.le_of_lt i)
theorem Train.rle {ts:List Int} (h:Train ts):qv (ratio ts)≤20000:=by
 have:=(qv_le (a:=ratio ts) (m:=20000) (by have:=h.pl.q1;omega)).mpr (by
  have h1:=h.pl.p2
  have h2:=h.pl.q1
  have:(20000:Int) * 1≤20000 * (ratio ts).2:=Int.mul_le_mul_of_nonneg_left h2 (by decide)
  omega)
 exact_mod_cast this
theorem Pc.new {ts:List Int} (h:Train ts) (nd:ts.Nodup):Pc { ps0 with train:=ts,pitch:=some (ratio ts) } ts:=by
 have z0:rabs (qv (0,1))=0:=by rw [qv_zero];unfold rabs;simp
 have wz:∀ d:Rat,Wh (qv (0,1) * d):=fun d=>⟨0,by rw [qv_zero];simp⟩
 refine ⟨h,nd,rfl,rfl,ok_zero,ok_zero,ok_zero,ok_zero,(fun _ z=>by cases z),wz _,wz _,wz _,wz _,(fun _ z=>by cases z),?_,?_,?_,?_,?_,?_,(fun _ z=>by cases z),(fun z=>by cases z),(fun _ z=>by cases z)⟩
 all_goals (show _≤_)
 ·show rabs (qv (0,1))≤qv (0,1);rw [z0,qv_zero];grind
 ·show 0≤qv (0,1);rw [qv_zero];grind
 ·show qv (0,1)≤100000;rw [qv_zero];grind
 ·show 0≤qv (0,1);rw [qv_zero];grind
 ·show qv (0,1)≤100000;rw [qv_zero];grind
 ·show rabs (qv (0,1))≤qv (0,1) + qv (ratio ts) * qv (0,1);rw [z0,qv_zero];grind
theorem Pc.turn {p:PS} {ts:List Int} {a:Q2} (h:Pc p ts) (ha:Ok2 a) (d1:Wh (qv a * ((LL * (ratio ts).1:Int):Rat))) (d2:Wh (qv (ratio ts) * qv a * ((LL * (ratio ts).2:Int):Rat))) (l:qv p.turned + rabs (qv a)≤100000):Pc (p.turn a) ts:=by
 have hr:p.r=ratio ts:=by unfold PS.r;rw [h.ep];rfl
 have ro:=h.tr.rok
 have rp:=h.tr.rpos
 have pa:0<a.2:=by have:=ha.pos;omega
 have qa:=qabs_ok ha
 have ma:=rabs_mul (x:=qv a) rp
 have na:=rabs_nn (qv a)
 have mo:=qmul_ok (b:=a) ro.ne ha.ne
 have eW:qv (p.turn a).work=qv p.work + qv a:=qv_add h.w.ne ha.ne
 have eT:qv (p.turn a).turned=qv p.turned + rabs (qv a):=by
  show qv (qadd p.turned (qabs a))=_
  rw [qv_add h.t.ne qa.ne,qv_abs pa]
 have hmul:qv (ratio ts) * (qv p.turned + rabs (qv a))=qv (ratio ts) * qv p.turned + qv (ratio ts) * rabs (qv a):=by grind
 have nra:0≤qv (ratio ts) * rabs (qv a):=Rat.mul_nonneg rp na
 have eM:qv (p.turn a).moved=qv p.moved:=rfl
 have offc:∀ x,(p.turn a).off=some x→(p.off=some x)∨(∃ o,p.off=some o∧x=qadd o (qneg (qmul (ratio ts) a))):=fun x e=>by
  unfold PS.turn at e
  dsimp only at e
  cases hc:p.closed with
  | true=>rw [hc,if_pos rfl] at e;exact .inl e
  | false =>
   rw [hc,if_neg Bool.false_ne_true,hr] at e
   cases ho:p.off with
   | none=>rw [ho] at e;cases e
   | some o=>rw [ho] at e;cases e;exact .inr ⟨o,rfl,rfl⟩
 have plc:((p.turn a).place=p.place)∨(p.turn a).place=qadd p.place (qmul (ratio ts) a):=by
  unfold PS.turn
  dsimp only
  rw [hr]
  split
  ·exact .inr rfl
  ·exact .inl rfl
 refine ⟨h.tr,h.nd,h.et,h.ep,qadd_ok h.w.ne ha.ne,?_,qadd_ok h.t.ne qa.ne,h.m,?_,?_,?_,?_,h.dm,?_,?_,?_,?_,h.m0,h.m1,?_,?_,?_,h.cu⟩
 ·rcases plc with e | e <;> rw [e]
  ·exact h.pl
  ·exact qadd_ok h.pl.ne mo.ne
 ·intro x e
  rcases offc x e with e | ⟨o,ho,rfl⟩
  ·exact h.o x e
  ·exact qadd_ok (h.o o ho).ne (qneg_ok mo).ne
 ·rw [eW,Rat.add_mul];exact h.dw.add d1
 ·rw [eT,Rat.add_mul]
  refine h.dt.add ?_
  unfold rabs
  split
  ·have:=d1.neg
   rw [← Rat.neg_mul] at this
   exact this
  ·exact d1
 ·rcases plc with e | e <;> rw [e]
  ·exact h.dp
  ·rw [qv_add h.pl.ne mo.ne,Rat.add_mul,qv_mul ro.ne ha.ne];exact h.dp.add d2
 ·intro x e
  rcases offc x e with e | ⟨o,ho,rfl⟩
  ·exact h.dx x e
  ·rw [qv_add (h.o o ho).ne (qneg_ok mo).ne,Rat.add_mul,qv_neg,qv_mul ro.ne ha.ne,Rat.neg_mul]
   exact (h.dx o ho).add d2.neg
 ·rw [eW,eT]
  have:=rabs_add (qv p.work) (qv a)
  have:=h.lw
  grind
 ·rw [eT];have:=h.t0;grind
 ·rw [eT];exact l
 ·rw [eT,eM,hmul]
  have h0:=h.lp
  rcases plc with e | e <;> rw [e]
  ·grind
  ·rw [qv_add h.pl.ne mo.ne,qv_mul ro.ne ha.ne]
   have:=rabs_add (qv p.place) (qv (ratio ts) * qv a)
   grind
 ·intro x e
  rw [eT,eM,hmul]
  rcases offc x e with e | ⟨o,ho,rfl⟩
  ·have h0:=h.lo x e
   grind
  ·have h0:=h.lo o ho
   rw [qv_add (h.o o ho).ne (qneg_ok mo).ne,qv_neg,qv_mul ro.ne ha.ne]
   have:=rabs_add (qv o) (-(qv (ratio ts) * qv a))
   rw [rabs_neg] at this
   grind
 ·intro z
  have z':p.closed=true:=z
  obtain ⟨k,e⟩:=h.cl z'
  refine ⟨k,?_⟩
  unfold PS.turn
  dsimp only
  rw [z',if_pos rfl]
  exact e
end My
namespace My
open PySem L2 Mt
theorem wh_small {ts:List Int} {a:Q2} (d:Wh (qv a * (LL:Rat))) (ro:Ok2 (ratio ts)):Wh (qv a * ((LL * (ratio ts).1:Int):Rat))∧Wh (qv (ratio ts) * qv a * ((LL * (ratio ts).2:Int):Rat)):=by
 have n:=ro.nz
 refine ⟨?_,?_⟩
 ·rw [Rat.intCast_mul,← Rat.mul_assoc];exact d.mul (Wh.int _)
 ·have e:qv (ratio ts) * qv a * ((LL * (ratio ts).2:Int):Rat)=qv a * (LL:Rat) * ((ratio ts).1:Rat):=by
   rw [Rat.intCast_mul]
   have:qv (ratio ts)=((ratio ts).1:Rat) / ((ratio ts).2:Rat):=rfl
   rw [this]
   grind
  rw [e];exact d.mul (Wh.int _)
theorem c5:((100000:Int):Rat)=100000:=rfl
theorem tooMuch_no {x:Q2} {t b:Int} (hx:Ok2 x) (hb:1≤b) (h:tooMuch x (t,b)=false):qv x + rabs (qv (red t b))≤100000:=by
 unfold tooMuch at h
 have h:=of_decide_eq_false h
 have hn:(qabs (t,b)).2≠0:=by show b≠0;omega
 have ok:=qadd_ok (a:=x) (b:=qabs (t,b)) hx.ne hn
 have le:=(qv_le (a:=qadd x (qabs (t,b))) (m:=100000) (by have:=ok.pos;omega)).mpr (by omega)
 rw [qv_add hx.ne hn,qv_abs (show 0<b by omega),c5] at le
 rw [qv_red (by omega)]
 exact le
theorem tooMuch_yes {x:Q2} {t b:Int} (hx:Ok2 x) (hb:1≤b) (h:qv x + rabs (qv (red t b))≤100000):tooMuch x (t,b)=false:=by
 unfold tooMuch
 refine decide_eq_false ?_
 have hn:(qabs (t,b)).2≠0:=by show b≠0;omega
 have ok:=qadd_ok (a:=x) (b:=qabs (t,b)) hx.ne hn
 have e:qv (t,b)=qv (red t b):=by rw [qv_red (by omega)];rfl
 have le:qv (qadd x (qabs (t,b)))≤((100000:Int):Rat):=by
  rw [qv_add hx.ne hn,qv_abs (show 0<b by omega),e,c5]
  exact h
 have:=(qv_le (a:=qadd x (qabs (t,b))) (m:=100000) (by have:=ok.pos;omega)).mp le
 omega
theorem ahead_is {p:PS} {ts:List Int} (h:Pc p ts):Ok2 p.ahead∧0≤qv p.ahead∧(p.off=none→p.ahead=(0,1))∧∀ o,p.off=some o→∃ k:Int,qv (ratio ts) * qv p.ahead=qv o - ((ratio ts).1 * k:Int)∧k=o.1 / (o.2 * (ratio ts).1):=by
 have hr:p.r=ratio ts:=by unfold PS.r;rw [h.ep];rfl
 have L:=h.tr.pl
 have p1:=L.p1
 have q1:=L.q1
 cases ho:p.off with
 | none =>
  have e:p.ahead=(0,1):=by unfold PS.ahead;rw [ho]
  rw [e]
  exact ⟨ok_zero,by rw [qv_zero];grind,fun _=>rfl,fun _ z=>by cases z⟩
 | some o =>
  have oo:=h.o o ho
  have o2:=oo.pos
  have D:0<o.2 * (ratio ts).1:=Int.mul_pos (by omega) (by omega)
  have e:p.ahead=red (o.1 % (o.2 * (ratio ts).1) * (ratio ts).2) (o.2 * (ratio ts).1):=by unfold PS.ahead;rw [ho,hr]
  have r0:=Int.emod_nonneg o.1 (Int.ne_of_gt D)
  have dv:=Int.emod_add_mul_ediv o.1 (o.2 * (ratio ts).1)
  have va:qv p.ahead=((o.1 % (o.2 * (ratio ts).1) * (ratio ts).2:Int):Rat) / ((o.2 * (ratio ts).1:Int):Rat):=by rw [e,qv_red (Int.ne_of_gt D)]
  refine ⟨by rw [e];exact red_ok (Int.ne_of_gt D),?_,(fun z=>by cases z),fun o' z=>?_⟩
  ·rw [va,Rat.div_def]
   have n1:(0:Rat)≤((o.1 % (o.2 * (ratio ts).1) * (ratio ts).2:Int):Rat):=by exact_mod_cast Int.mul_nonneg r0 (show 0≤(ratio ts).2 by omega)
   have n2:(0:Rat)<((o.2 * (ratio ts).1:Int):Rat)⁻¹:=Rat.inv_pos.mpr (by exact_mod_cast D)
   exact Rat.mul_nonneg n1 (Rat.le_of_lt n2)
  ·cases z
   refine ⟨o.1 / (o.2 * (ratio ts).1),?_,rfl⟩
   rw [va]
   have hq:qv (ratio ts)=((ratio ts).1:Rat) / ((ratio ts).2:Rat):=rfl
   have ho':qv o=(o.1:Rat) / (o.2:Rat):=rfl
   have n1:((ratio ts).1:Rat)≠0:=by exact_mod_cast (show (ratio ts).1≠0 by omega)
   have n2:((ratio ts).2:Rat)≠0:=by exact_mod_cast (show (ratio ts).2≠0 by omega)
   have n3:(o.2:Rat)≠0:=oo.nz
   have dv':((o.1 % (o.2 * (ratio ts).1):Int):Rat)=(o.1:Rat) - (o.2:Rat) * ((ratio ts).1:Rat) * ((o.1 / (o.2 * (ratio ts).1):Int):Rat):=by
    have:o.1 % (o.2 * (ratio ts).1)=o.1 - o.2 * (ratio ts).1 * (o.1 / (o.2 * (ratio ts).1)):=by omega
    rw [this,Rat.intCast_sub,Rat.intCast_mul,Rat.intCast_mul]
   rw [hq,ho',Rat.intCast_mul,Rat.intCast_mul,Rat.intCast_mul,dv']
   generalize ((o.1 / (o.2 * (ratio ts).1):Int):Rat)=k at *
   grind
theorem ahead_wh {p:PS} {ts:List Int} (h:Pc p ts):Wh (qv p.ahead * ((LL * (ratio ts).1:Int):Rat))∧Wh (qv (ratio ts) * qv p.ahead * ((LL * (ratio ts).2:Int):Rat)):=by
 obtain ⟨_,_,h0,h1⟩:=ahead_is h
 cases ho:p.off with
 | none =>
  rw [h0 ho,qv_zero]
  exact ⟨⟨0,by simp⟩,⟨0,by simp⟩⟩
 | some o =>
  obtain ⟨k,e,_⟩:=h1 o ho
  have w:=h.dx o ho
  have both:Wh (qv (ratio ts) * qv p.ahead * ((LL * (ratio ts).2:Int):Rat)):=by
   rw [e,Rat.sub_eq_add_neg,Rat.add_mul]
   exact w.add ((Wh.int _).neg.mul (Wh.int _))
  refine ⟨?_,both⟩
  have n2:=h.tr.rok.nz
  have e2:qv p.ahead * ((LL * (ratio ts).1:Int):Rat)=qv (ratio ts) * qv p.ahead * ((LL * (ratio ts).2:Int):Rat):=by
   have hq:qv (ratio ts)=((ratio ts).1:Rat) / ((ratio ts).2:Rat):=rfl
   rw [hq,Rat.intCast_mul,Rat.intCast_mul]
   grind
  rw [e2];exact both
end My
namespace My
open PySem L2 Mt
inductive Reach:LS→Prop where
 | new {ws:List Int} {n:Int} (g:GoodShop ws n):Reach ⟨ws,n,[]⟩
 | step {l:LS} {q:Req} (h:Reach l) (d:due l q=none):Reach (l.push q.deed)
structure Due (l:LS) (q:Req):Prop where
 kn:∀ ts,q = .mount ts→∀ w∈ts,w∈l.shop
 tr:(∀ ts,q≠.mount ts)→l.ps.pitch.isSome=true
 nut:q.wrong l.ps=false
 ok:q.bad l.ps=false
 meet:q = .close→(l.ps.off.getD (0,1)).2=1
 room:l.book.length<100
theorem due_none {l:LS} {q:Req} (h:due l q=none):Due l q:=by
 unfold due at h
 cases h1:q.known l with
 | false=>rw [if_pos h1] at h;cases h
 | true =>
 rw [if_neg (by rw [h1];decide)] at h
 cases h2:q.has l with
 | false=>rw [if_pos h2] at h;cases h
 | true =>
 rw [if_neg (by rw [h2];decide)] at h
 cases h3:q.wrong l.ps with
 | true=>rw [if_pos h3] at h;cases h
 | false =>
 rw [if_neg (by rw [h3];decide)] at h
 cases h4:q.bad l.ps with
 | true=>rw [if_pos h4] at h;cases h
 | false =>
 rw [if_neg (by rw [h4];decide)] at h
 cases h5:q.meets l with
 | false=>rw [if_pos h5] at h;cases h
 | true =>
 rw [if_neg (by rw [h5];decide)] at h
 by_cases h6:100≤l.book.length
 ·rw [if_pos h6] at h;cases h
 refine ⟨fun ts e=>?_,fun e=>?_,h3,h4,fun e=>?_,by omega⟩
 ·subst e
  exact fun w hw=>of_decide_eq_true (List.all_eq_true.mp (show (ts.all fun w=>decide (w∈l.shop))=true from h1) w hw)
 ·cases q with
  | mount ts=>exact absurd rfl (e ts)
  | _=>exact h2
 ·subst e
  exact eq_of_beq (show ((l.ps.off.getD (0,1)).2 == 1)=true from h5)
theorem Pc.amount {p:PS} {ts:List Int} {t b:Int} (h:Pc p ts) (h1:1≤b) (h2:b≤1000) (l:tooMuch p.turned (t,b)=false):Pc (p.turn (red t b)) ts:=by
 have w:=wh_small (ts:=ts) (whole_LL (t:=t) h1 h2) h.tr.rok
 exact h.turn (red_ok (by omega)) w.1 w.2 (tooMuch_no h.t h1 l)
theorem Pc.wait {p:PS} {ts:List Int} (h:Pc p ts) (l:tooMuch p.turned p.ahead=false):Pc (p.turn p.ahead) ts:=by
 have a:=ahead_is h
 have w:=ahead_wh h
 have l':=tooMuch_no (t:=p.ahead.1) (b:=p.ahead.2) h.t a.1.pos l
 rw [red_self a.1] at l'
 exact h.turn a.1 w.1 w.2 l'
theorem Pc.offBd {p:PS} {ts:List Int} (h:Pc p ts) {x:Q2} (hx:p.off=some x):rabs (qv x)≤((2000100000:Int):Rat):=by
 have h1:=h.lo x hx
 have h2:=h.tr.rle
 have h3:=h.t1
 have h4:=h.t0
 have h5:=h.m1
 have h6:qv (ratio ts) * qv p.turned≤20000 * qv p.turned:=Rat.mul_le_mul_of_nonneg_right h2 h4
 have e:((2000100000:Int):Rat)=2000100000:=rfl
 rw [e]
 grind
theorem Pc.placeBd {p:PS} {ts:List Int} (h:Pc p ts):rabs (qv p.place)≤((2000100000:Int):Rat):=by
 have h1:=h.lp
 have h2:=h.tr.rle
 have h3:=h.t1
 have h4:=h.t0
 have h5:=h.m1
 have h6:qv (ratio ts) * qv p.turned≤20000 * qv p.turned:=Rat.mul_le_mul_of_nonneg_right h2 h4
 have e:((2000100000:Int):Rat)=2000100000:=rfl
 rw [e]
 grind
theorem Pc.closeBd {p:PS} {ts:List Int} (h:Pc p ts) {k:Int} (hx:p.off=some (k,1)):Bd 64 k:=by
 have h1:=h.offBd hx
 rw [← qv_abs (by show (0:Int)<1;decide)] at h1
 have h2:=(qv_le (a:=qabs (k,1)) (m:=2000100000) (by show (0:Int)<1;decide)).mp h1
 have h3:(qabs (k,1)).1=(k.natAbs:Int):=by unfold qabs;dsimp only;split <;> omega
 have h4:(qabs (k,1)).2=1:=rfl
 rw [h3,h4] at h2
 unfold Bd
 have:(2:Nat) ^ 64=18446744073709551616:=by decide
 omega
theorem reach_pc {l:LS} (h:Reach l):GoodShop l.shop l.teeth∧(l.ps=ps0∨∃ ts,Pc l.ps ts∧∀ v∈ts,v∈l.shop):=by
 induction h with
 | new g=>exact ⟨g,.inl rfl⟩
 | @step l q _ d ih =>
  obtain ⟨G,ih⟩:=ih
  obtain ⟨kn,tr,nut,ok,meet,room⟩:=due_none d
  refine ⟨G,.inr ?_⟩
  rw [LS.ps_push]
  cases q with
  | mount ts =>
   have k:=kn ts rfl
   have ok':(decide (ts.length=2∨ts.length=4) && decide ts.Nodup)=true:=by
    have z:(!(decide (ts.length=2∨ts.length=4) && decide ts.Nodup))=false:=ok
    cases hh:(decide (ts.length=2∨ts.length=4) && decide ts.Nodup) with
    | true=>rfl
    | false=>rw [hh] at z;cases z
   rw [Bool.and_eq_true] at ok'
   exact ⟨ts,Pc.new ⟨of_decide_eq_true ok'.1,fun v hv=>G.shop.lo v (k v hv),fun v hv=>G.shop.hi v (k v hv)⟩ (of_decide_eq_true ok'.2),k⟩
  | turn t b =>
   have s:=tr (fun ts z=>nomatch z)
   rcases ih with e | ⟨ts,P,k⟩
   ·rw [e] at s;cases s
   ·have ok':(decide (b<1) || decide (1000<b) || tooMuch l.ps.turned (t,b))=false:=ok
    rw [Bool.or_eq_false_iff,Bool.or_eq_false_iff] at ok'
    exact ⟨ts,P.amount (by have:=of_decide_eq_false ok'.1.1;omega) (by have:=of_decide_eq_false ok'.1.2;omega) ok'.2,k⟩
  | wait =>
   have s:=tr (fun ts z=>nomatch z)
   rcases ih with e | ⟨ts,P,k⟩
   ·rw [e] at s;cases s
   ·exact ⟨ts,P.wait ok,k⟩
  | close =>
   have s:=tr (fun ts z=>nomatch z)
   have m:=meet rfl
   rcases ih with e | ⟨ts,P,k⟩
   ·rw [e] at s;cases s
   ·refine ⟨ts,?_,k⟩
    have hoff:∀ x,(l.ps.after .close).off=some x→l.ps.off=some x∨x=(0,1):=fun x e=>by
     have e:some (l.ps.off.getD (0,1))=some x:=e
     cases ho:l.ps.off with
     | none=>rw [ho] at e;cases e;exact .inr rfl
     | some o=>rw [ho] at e;cases e;exact .inl rfl
    have z0:rabs (qv (0,1))=0:=by rw [qv_zero];unfold rabs;simp
    refine ⟨P.tr,P.nd,P.et,P.ep,P.w,P.pl,P.t,P.m,fun x e=>?_,P.dw,P.dt,P.dp,P.dm,fun x e=>?_,P.lw,P.t0,P.t1,P.m0,P.m1,P.lp,fun x e=>?_,fun _=>?_,P.cu⟩
    ·rcases hoff x e with e | rfl
     ·exact P.o x e
     ·exact ok_zero
    ·rcases hoff x e with e | rfl
     ·exact P.dx x e
     ·exact ⟨0,by rw [qv_zero];simp⟩
    ·rcases hoff x e with e | rfl
     ·exact P.lo x e
     ·rw [z0]
      have:=rabs_nn (qv l.ps.place)
      exact Rat.le_trans this P.lp
    ·refine ⟨(l.ps.off.getD (0,1)).1,?_⟩
     exact congrArg some (Prod.ext rfl m)
  | opn =>
   have s:=tr (fun ts z=>nomatch z)
   rcases ih with e | ⟨ts,P,k⟩
   ·rw [e] at s;cases s
   ·exact ⟨ts,⟨P.tr,P.nd,P.et,P.ep,P.w,P.pl,P.t,P.m,P.o,P.dw,P.dt,P.dp,P.dm,P.dx,P.lw,P.t0,P.t1,P.m0,P.m1,P.lp,P.lo,(fun z=>by cases z),P.cu⟩,k⟩
  | move t b =>
   have s:=tr (fun ts z=>nomatch z)
   rcases ih with e | ⟨ts,P,k⟩
   ·rw [e] at s;cases s
   ·have ok':(decide (b<1) || decide (1000<b) || tooMuch l.ps.moved (t,b))=false:=ok
    rw [Bool.or_eq_false_iff,Bool.or_eq_false_iff] at ok'
    have b1:1≤b:=by have:=of_decide_eq_false ok'.1.1;omega
    have b2:b≤1000:=by have:=of_decide_eq_false ok'.1.2;omega
    have ha:=red_ok (t:=t) (b:=b) (by omega)
    have qa:=qabs_ok ha
    have wl:=whole_LL (t:=t) b1 b2
    have mm:=tooMuch_no P.m b1 ok'.2
    have na:=rabs_nn (qv (red t b))
    have pa:0<(red t b).2:=by have:=ha.pos;omega
    have eM:qv (l.ps.after (.move (red t b))).moved=qv l.ps.moved + rabs (qv (red t b)):=by
     show qv (qadd l.ps.moved (qabs (red t b)))=_
     rw [qv_add P.m.ne qa.ne,qv_abs pa]
    have eP:qv (l.ps.after (.move (red t b))).place=qv l.ps.place + qv (red t b):=qv_add P.pl.ne ha.ne
    have hoff:∀ x,(l.ps.after (.move (red t b))).off=some x→∃ o,l.ps.off=some o∧x=qadd o (red t b):=fun x e=>by
     have e:(l.ps.off.map fun o=>qadd o (red t b))=some x:=e
     cases ho:l.ps.off with
     | none=>rw [ho] at e;cases e
     | some o=>rw [ho] at e;cases e;exact ⟨o,rfl,rfl⟩
    have w2:Wh (qv (red t b) * ((LL * (ratio ts).2:Int):Rat)):=by rw [Rat.intCast_mul,← Rat.mul_assoc];exact wl.mul (Wh.int _)
    show ∃ ts,Pc (l.ps.after (.move (red t b))) ts∧∀ v∈ts,v∈l.shop
    refine ⟨ts,⟨P.tr,P.nd,P.et,P.ep,P.w,qadd_ok P.pl.ne ha.ne,P.t,qadd_ok P.m.ne qa.ne,fun x e=>?_,P.dw,P.dt,?_,?_,fun x e=>?_,P.lw,P.t0,P.t1,?_,?_,?_,fun x e=>?_,fun z=>?_,P.cu⟩,k⟩
    ·obtain ⟨o,ho,rfl⟩:=hoff x e
     exact qadd_ok (P.o o ho).ne ha.ne
    ·rw [eP,Rat.add_mul];exact P.dp.add w2
    ·rw [eM,Rat.add_mul]
     refine P.dm.add ?_
     unfold rabs
     split
     ·have:=wl.neg
      rw [← Rat.neg_mul] at this
      exact this
     ·exact wl
    ·obtain ⟨o,ho,rfl⟩:=hoff x e
     rw [qv_add (P.o o ho).ne ha.ne,Rat.add_mul]
     exact (P.dx o ho).add w2
    ·rw [eM];have:=P.m0;grind
    ·rw [eM];exact mm
    ·rw [eM,eP]
     have h0:=P.lp
     have h1:=rabs_add (qv l.ps.place) (qv (red t b))
     have e3:qv (l.ps.after (.move (red t b))).turned=qv l.ps.turned:=rfl
     rw [e3]
     grind
    ·obtain ⟨o,ho,rfl⟩:=hoff x e
     have h0:=P.lo o ho
     rw [eM,qv_add (P.o o ho).ne ha.ne]
     have h1:=rabs_add (qv o) (qv (red t b))
     have e3:qv (l.ps.after (.move (red t b))).turned=qv l.ps.turned:=rfl
     rw [e3]
     grind
    ·have nut':l.ps.closed=false:=nut
     have z':l.ps.closed=true:=z
     rw [nut'] at z';cases z'
  | cut t b =>
   have s:=tr (fun ts z=>nomatch z)
   rcases ih with e | ⟨ts,P,k⟩
   ·rw [e] at s;cases s
   ·have ok':(decide (b<1) || decide (1000<b) || decide (t≤0) || tooMuch l.ps.turned (t,b))=false:=ok
    rw [Bool.or_eq_false_iff,Bool.or_eq_false_iff,Bool.or_eq_false_iff] at ok'
    have P2:=P.amount (t:=t) (b:=b) (by have:=of_decide_eq_false ok'.1.1.1;omega) (by have:=of_decide_eq_false ok'.1.1.2;omega) ok'.2
    have cz:l.ps.closed=true:=by
     have:(!l.ps.closed)=false:=nut
     simpa using this
    obtain ⟨kk,hk⟩:=P.cl cz
    refine ⟨ts,⟨P2.tr,P2.nd,P2.et,P2.ep,P2.w,P2.pl,P2.t,P2.m,P2.o,P2.dw,P2.dt,P2.dp,P2.dm,P2.dx,P2.lw,P2.t0,P2.t1,P2.m0,P2.m1,P2.lp,P2.lo,P2.cl,fun c hc=>?_⟩,k⟩
    have hr:l.ps.r=ratio ts:=by unfold PS.r;rw [P.ep];rfl
    have hc:c∈l.ps.cuts++[(l.ps.closing,l.ps.groove)]:=hc
    rcases List.mem_append.mp hc with z | z
    ·exact P.cu c z
    ·rw [List.mem_singleton.mp z]
     have e1:l.ps.closing=kk:=by unfold PS.closing;rw [hk];rfl
     refine ⟨?_,?_⟩
     ·show l.ps.groove=_
      unfold PS.groove
      rw [hr]
     ·show Bd 64 l.ps.closing
      rw [e1];exact P.closeBd hk
end My
namespace My
open PySem L2 Mt
theorem good_move {l:LS} {ts:List Int} {t b:Int} (P:Pc l.ps ts) (h1:1≤b) (h2:b≤1000) (nut:l.ps.closed=false) (room:l.book.length<100) (m:qv l.ps.moved + rabs (qv (red t b))≤100000):due l (.move t b)=none:=by
 have e1:tooMuch l.ps.moved (t,b)=false:=tooMuch_yes P.m h1 m
 have e2:decide (b<1)=false:=decide_eq_false (by omega)
 have e3:decide (1000<b)=false:=decide_eq_false (by omega)
 have e4:l.ps.pitch.isSome=true:=by rw [P.ep];rfl
 unfold due
 simp only [Req.known,Req.has,Req.meets,Req.wrong,Req.bad,e1,e2,e3,e4,nut]
 simp
 omega
theorem good_cut {l:LS} {ts:List Int} {t b:Int} (P:Pc l.ps ts) (h0:1≤t) (h1:1≤b) (h2:b≤1000) (nut:l.ps.closed=true) (room:l.book.length<100) (m:qv l.ps.turned + rabs (qv (red t b))≤100000):due l (.cut t b)=none:=by
 have e1:tooMuch l.ps.turned (t,b)=false:=tooMuch_yes P.t h1 m
 have e2:decide (b<1)=false:=decide_eq_false (by omega)
 have e3:decide (1000<b)=false:=decide_eq_false (by omega)
 have e5:decide (t≤0)=false:=decide_eq_false (by omega)
 have e4:l.ps.pitch.isSome=true:=by rw [P.ep];rfl
 unfold due
 simp only [Req.known,Req.has,Req.meets,Req.wrong,Req.bad,e1,e2,e3,e4,e5,nut]
 simp
 omega
theorem rabs_red {t b m:Int} (h1:1≤b) (h2:-m≤t) (h3:t≤m):rabs (qv (red t b))≤(m:Rat):=by
 have hb:(b:Int)≠0:=by omega
 rw [qv_red hb]
 show rabs (qv (t,b))≤(m:Rat)
 rw [← qv_abs (a:=(t,b)) (by show 0<b;omega)]
 refine (qv_le (a:=qabs (t,b)) (m:=m) (by show 0<b;omega)).mpr ?_
 have e:(qabs (t,b)).1≤m:=by
  unfold qabs
  dsimp only
  split <;> omega
 show (qabs (t,b)).1≤m * b
 have hm:0≤m:=by omega
 have:=Int.mul_le_mul_of_nonneg_left h1 hm
 omega
theorem sizes {a:Q2} {D m:Int} (h:Ok2 a) (g:Wh (qv a * (D:Rat))) (d:0<D) (bD:Bd 1565 D) (m0:0≤m) (bm:Bd 64 m) (l:rabs (qv a)≤(m:Rat)):Bd 1700 a.1∧Bd 1700 a.2 :=
 ⟨num_bd h g d m0 l ((bm.mul bD).mono (by decide)),(den_bd h g d bD).mono (by decide)⟩
theorem Train.D2 {ts:List Int} (h:Train ts):0<LL * (ratio ts).2∧Bd 1565 (LL * (ratio ts).2) :=
 ⟨Int.mul_pos LL_pos (by have:=h.pl.q1;omega),(LL_bd.mul h.pl.bq).mono (by decide)⟩
theorem Train.D1 {ts:List Int} (h:Train ts):0<LL * (ratio ts).1∧Bd 1565 (LL * (ratio ts).1) :=
 ⟨Int.mul_pos LL_pos (by have:=h.pl.p1;omega),(LL_bd.mul h.pl.bp).mono (by decide)⟩
theorem bd2e9:Bd 64 2000100000:=by unfold Bd;decide
theorem bd1e5:Bd 64 100000:=by unfold Bd;decide
theorem Pc.placeN {p:PS} {ts:List Int} (h:Pc p ts):Bd 1700 p.place.1∧Bd 1700 p.place.2:=sizes h.pl h.dp h.tr.D2.1 h.tr.D2.2 (by decide) bd2e9 h.placeBd
theorem Pc.offN {p:PS} {ts:List Int} (h:Pc p ts) {x:Q2} (hx:p.off=some x):Bd 1700 x.1∧Bd 1700 x.2:=sizes (h.o x hx) (h.dx x hx) h.tr.D2.1 h.tr.D2.2 (by decide) bd2e9 (h.offBd hx)
theorem Pc.turnedN {p:PS} {ts:List Int} (h:Pc p ts):Bd 1700 p.turned.1∧Bd 1700 p.turned.2:=sizes (m:=100000) h.t h.dt h.tr.D1.1 h.tr.D1.2 (by decide) bd1e5 (by
 have e:rabs (qv p.turned)=qv p.turned:=by unfold rabs;rw [if_neg (Rat.not_lt.mpr h.t0)]
 rw [e];exact h.t1)
theorem Pc.workN {p:PS} {ts:List Int} (h:Pc p ts):Bd 1700 p.work.1∧Bd 1700 p.work.2:=sizes (m:=100000) h.w h.dw h.tr.D1.1 h.tr.D1.2 (by decide) bd1e5 (Rat.le_trans h.lw h.t1)
theorem Pc.movedN {p:PS} {ts:List Int} (h:Pc p ts):Bd 1700 p.moved.1∧Bd 1700 p.moved.2:=sizes (m:=100000) h.m h.dm LL_pos (LL_bd.mono (by decide)) (by decide) bd1e5 (by
 have e:rabs (qv p.moved)=qv p.moved:=by unfold rabs;rw [if_neg (Rat.not_lt.mpr h.m0)]
 rw [e];exact h.m1)
theorem after_train (p:PS) (q:Req) (nm:∀ ts,q≠.mount ts):(p.after q.deed).train=p.train:=by
 cases q with
 | mount ts=>exact absurd rfl (nm ts)
 | _=>rfl
theorem Reach.keep {l:LS} {ts:List Int} {q:Req} (h:Reach l) (P:Pc l.ps ts) (d:due l q=none) (nm:∀ ts,q≠.mount ts):Reach (l.push q.deed)∧Pc (l.push q.deed).ps ts:=by
 have h':=Reach.step h d
 refine ⟨h',?_⟩
 have e:(l.push q.deed).ps.train=ts:=by rw [LS.ps_push,after_train _ _ nm];exact P.et
 rcases (reach_pc h').2 with z | ⟨ts',P',_⟩
 ·rw [z] at e
  have ln:=P.tr.len
  rw [← e] at ln
  rcases ln with ln | ln <;> cases ln
 ·have:ts'=ts:=P'.et.symm.trans e
  rw [← this];exact P'
def SqO (K:PySem.W.Frag) (F:Addr→Prop) (H:Hp) (a:Addr) (xs:List V):Prop:=SqL K H a xs∧(¬ F a∨∀ H',SqL K H' a xs)
end My
namespace L2
open PySem PySem.Spec PyProof.Rows
theorem met_all {ns:List Int}:∀ n,n≤ns.length→(firstMet (fun i=>ns.getD i 0) n).length=n→firstMet (fun i=>ns.getD i 0) n=ns.take n∧(ns.take n).Nodup
 | 0,_,_=>by rw [firstMet_zero,List.take_zero];exact ⟨rfl,List.nodup_nil⟩
 | n + 1,h,e=>by
  have hn:n<ns.length:=h
  have le:=firstMet_length_le (fun i=>ns.getD i 0) n
  have ex:ns.getD n 0=ns[n]:=by rw [List.getD_eq_getElem?_getD,List.getElem?_eq_getElem hn];rfl
  have t:ns.take (n + 1)=ns.take n++[ns[n]]:=by rw [List.take_add_one,List.getElem?_eq_getElem hn];rfl
  rw [firstMet_succ] at e ⊢
  unfold step_dedup at e ⊢
  by_cases z:((firstMet (fun i=>ns.getD i 0) n).any fun x=>x == ns.getD n 0)=true
  ·rw [if_pos z] at e;omega
  ·rw [if_neg z] at e ⊢
   have e':(firstMet (fun i=>ns.getD i 0) n).length=n:=by simpa using e
   obtain ⟨h1,h2⟩:=met_all n (by omega) e'
   rw [h1] at z ⊢
   rw [t,ex]
   refine ⟨rfl,List.nodup_append.mpr ⟨h2,by simp,fun a ha b hb=>?_⟩⟩
   rw [List.mem_singleton.mp hb]
   intro q
   exact z (List.any_eq_true.mpr ⟨a,ha,by rw [ex];simpa using q⟩)
def manyOf (ns:List Int):Nat:=(firstMet (fun i=>ns.getD i 0) ns.length).length
theorem manyOf_lt {ns:List Int}:manyOf ns<ns.length ↔ ¬ ns.Nodup:=by
 have le:=firstMet_length_le (fun i=>ns.getD i 0) ns.length
 constructor
 ·intro h nd
  unfold manyOf at h
  rw [met_nodup nd _ (Nat.le_refl _),List.take_length] at h
  omega
 ·intro h
  rcases Nat.lt_or_ge (manyOf ns) ns.length with l | l
  ·exact l
  ·have e:(firstMet (fun i=>ns.getD i 0) ns.length).length=ns.length:=by unfold manyOf at l;omega
   have:=(met_all ns.length (Nat.le_refl _) e).2
   rw [List.take_length] at this
   exact absurd this h
section
variable {X:Cx}
theorem call_set_any (hc:X.calm=true):CallR X (.type "set") (fun xs H Q=>∃ (p:Addr) (ns:List Int),xs=[.ref p]∧SqA X.K H p (ns.map V.int)∧ns.length≤1000∧∀ (l:Addr) (S:Int→Bool),H l=none→Q (.ref l) (upd H l (.set S (manyOf ns)))):=by
 intro pins s σ H xs us Q I r h
 obtain ⟨p,ns,rfl,hq,h100,q⟩:=h
 obtain ⟨u,rfl,rx⟩:=vals1 r
 cases rx
 rcases hq with hq | hq
 ·obtain ⟨its,r',pl,hz⟩:=I.list hq
  have hlen:=r'.length
  rw [List.length_map] at hlen
  have ez:its.toArray.size=ns.length:=by rw [List.size_toArray,hlen]
  refine PySem.call_set_list (items:=its.toArray) (ns:=ns) (I.ok.hd hc) pl.isList (by simpa using intsAre_of r') (by rw [List.size_toArray];show _<4096;omega) fun h' tk sS kk=>?_
  rw [ez] at sS
  exact ⟨.ref s.heap.objs.size,_,I.laid (t':=tk) (fun b o e=>kk b o (Heap.lt_size e) e) (Nat.le_refl _) (show ObjOk X.prog X.w _ _ _ (.set _ (manyOf ns)) from sS),rfl,q _ _ I.fresh⟩
 ·obtain ⟨its,r',pl,hz⟩:=I.tuple hq
  have hlen:=r'.length
  rw [List.length_map] at hlen
  have ez:its.toArray.size=ns.length:=by rw [List.size_toArray,hlen]
  refine set_tup (ns:=ns) (I.ok.hd hc) pl (by simpa using intsAre_of r') (by rw [List.size_toArray];show _<4096;omega) fun h' tk sS kk=>?_
  rw [ez] at sS
  exact ⟨.ref s.heap.objs.size,_,I.laid (t':=tk) (fun b o e=>kk b o (Heap.lt_size e) e) (Nat.le_refl _) (show ObjOk X.prog X.w _ _ _ (.set _ (manyOf ns)) from sS),rfl,q _ _ I.fresh⟩
theorem pe_fldK {K:PySem.W.Frag} {e:Expr} {f:Str} {pos:Pos} {ta:TE} (h:X.K=K) (he:PE X e ta) (hb:attributeBase e f X.env (eval e X.env)=eval e X.env):PE X (.Attribute e f pos) (tFld K ta f):=by subst h;exact pe_fld he hb
theorem pe_globC {x:Str} {v:V} {pos:Pos} (hg:Gl X x) (hm:∃ u,X.mg x=some u∧RelV v u) (hd:(x == ("__debug__":Str))=false:=by decide):PE X (.Name x pos) (tC v):=by
 obtain ⟨u,h1,h2⟩:=hm
 exact pe_glob hg h1 h2 hd
def iAny (K:PySem.W.Frag) (i:Nat):TI:=fun σ H R=>∃ a,σ[i]? = some (some (.ref a))∧(((∃ xs,SqL K H a xs)∧R (Itl K a) H)∨((∃ xs,SqT K H a xs)∧R (Itt K a) H))
theorem pi_any {tg l:Expr} {i:Nat} (hl:PE X l (tVar i)):PI X tg l (iAny X.K i):=by
 intro pins s σ H R I h
 obtain ⟨a,e,h⟩:=h
 rcases h with ⟨h1,h2⟩ | ⟨h1,h2⟩
 ·exact pi_list hl pins s σ H R I ⟨_,e,a,rfl,h1,h2⟩
 ·exact pi_tup hl pins s σ H R I ⟨_,e,a,rfl,h1,h2⟩
end
def Walk (it:It) (g:TG) (tb:TS) (D:Ends) (σ:St) (H:Hp):Prop:=∃ W:Nat→Nat→St→Hp→Prop,(∃ m,W 0 m σ H) ∧
 ∀ i m τ G,W i m τ G→(it.stop i G∧D.nx τ G)∨(it.go i G∧∃ N:St→Hp→Prop,(∀ τ' G',N τ' G'→∃ m',m'<m∧W (i + 1) m' τ' G') ∧
  ∀ x G',it.yld i G x G'→g x τ G' fun τ2 G2=>tb { D with nx:=N,ct:=N,bk:=D.nx } τ2 G2)
theorem for_any {K:PySem.W.Frag} {a:Addr} {xs:List V} {g:TG} {tb:TS} {D:Ends} {σ:St} {H:Hp} (Pv:Nat→St→Hp→Prop) (hA:SqA K H a xs) (h0:Pv 0 σ H) (hk:∀ i τ G,Pv i τ G→Same H G)
  (hs:∀ i x τ G,xs[i]? = some x→Pv i τ G→g x τ G fun τ2 G2=>tb { D with nx:=Pv (i + 1),ct:=Pv (i + 1),bk:=D.nx } τ2 G2) (hd:∀ τ G,Pv xs.length τ G→D.nx τ G) :
  ((∃ ys,SqL K H a ys)∧Walk (Itl K a) g tb D σ H)∨((∃ ys,SqT K H a ys)∧Walk (Itt K a) g tb D σ H):=by
 rcases hA with h | h
 ·exact .inl ⟨⟨_,h⟩,for_list (xs:=xs) Pv h0 (fun i τ G _ p=>(hk i τ G p).seq h) hs hd⟩
 ·exact .inr ⟨⟨_,h⟩,for_tup (xs:=xs) Pv h0 (fun i τ G _ p=>(hk i τ G p).tup h) hs hd⟩
theorem sqt_k {K:PySem.W.Frag} {a:Addr} {d:Option Addr} {its:Array Value} {n:Nat} {sl:Array (Option Value)} {xs:List V} (h:K.lookup a=some ⟨.type "tuple",d,.seq its n,sl⟩) (hz:its.size≤sizeLine) (r:Vals xs its.toList):SqT K (fun _=>none) a xs :=
 .inr ⟨_,its,n,h,rfl,rfl,hz,r⟩
end L2
namespace L2
open PySem PySem.Spec PyProof.Rows
theorem call_isinstT {X:Cx}:CallR X (.builtin "isinstance") (fun vs H Q=>∃ x T t b,vs=[x,.ty T]∧(TyOf X.K H x t∨∃ a xs,x = .ref a∧t = .type "tuple"∧SqT X.K H a xs)∧PySem.W.kitOne X.K t (.type T)=some b∧Q (.bl b) H):=by
 intro pins s σ H vs us Q I rv q
 obtain ⟨x,T,t,b,rfl,ty,e,q⟩:=q
 rcases ty with ty | ⟨a,xs,rfl,rfl,hq⟩
 ·exact call_isinst pins s σ H _ us Q I rv ⟨x,T,t,b,rfl,ty,e,q⟩
 ·obtain ⟨u,c,rfl,ru,rc⟩:=Vals.two rv
  cases (show c=Value.type T from rc)
  cases (show u=Value.ref a from ru)
  obtain ⟨its,_,p,_⟩:=I.tuple hq
  obtain ⟨o,h1,h2,_⟩:=p
  exact PySem.W.kia_one PySem.W.kitx_tuple I.kIn ⟨o,h1,h2⟩ e (fun z=>nomatch z) fun tk=>⟨.bl b,H,I.tok tk,rfl,q⟩
end L2
namespace L2
open PySem PySem.Spec PyProof.Rows
end L2
namespace My
open PySem L2 Mt
theorem pair_tups {H H':Hp} (e:Tups H H'):∀ {rs:List Addr} {tss:List (List Int)},Paired (fun r t=>H r=some (.tup (t.map V.int))) rs tss→Paired (fun r t=>H' r=some (.tup (t.map V.int))) rs tss
 | _,_,.nil=>.nil
 | _,_,.cons h t=>.cons (e _ _ h) (pair_tups e t)
def FrM (H:Hp) (v:V):Option Q2→Prop
 | none=>v = .non
 | some x=>∃ a,v = .ref a∧H a=some (.tup [.int x.1,.int x.2])
theorem FrM.tups {H H':Hp} {v:V} {x:Option Q2} (h:FrM H v x) (s:Tups H H'):FrM H' v x:=by
 cases x with
 | none=>exact h
 | some x=>obtain ⟨a,e,h⟩:=h;exact ⟨a,e,s _ _ h⟩
abbrev rowsOf (cs:List Q2):List (List Int):=cs.map fun c=>[c.1,c.2]
structure FirstOk (p:PS) (x y:Q2):Prop where
 ox:Ok2 x
 oy:Ok2 y
 wx:Wh (qv x * ((LL * (ratio p.train).2:Int):Rat))
 wy:Wh (qv y * ((LL * (ratio p.train).1:Int):Rat))
 bx:rabs (qv x)≤((2000100000:Int):Rat)
 bY:rabs (qv y)≤((100000:Int):Rat)
def FstA (K:PySem.W.Frag) (H:Hp) (v:V) (p:PS):Prop:=(p.off=none∧v = .non)∨∃ o f c w x y,p.off=some o∧v = .ref f∧H f=some (.tup [.ref c,.ref w])∧FrA K H c x∧FrA K H w y∧FirstOk p x y∧qv o=qv p.place - qv x - qv (ratio p.train) * (qv p.work - qv y)
theorem FstA.tups {K:PySem.W.Frag} {H H':Hp} {v:V} {p:PS} (h:FstA K H v p) (s:Tups H H'):FstA K H' v p:=by
 rcases h with h | ⟨o,f,c,w,x,y,h1,h2,h3,h4,h5,h6,h7⟩
 ·exact .inl h
 ·exact .inr ⟨o,f,c,w,x,y,h1,h2,s _ _ h3,h4.tups s,h5.tups s,h6,h7⟩
abbrev pcF (t:Addr) (rv:V) (w c:Addr) (cl:Bool) (fv:V) (tc mc cu:Addr):List (Str × V):=[("train",.ref t),("ratio",rv),("work_turns",.ref w),("place",.ref c),("closed",.bl cl),("first",fv),("turn_count",.ref tc),("move_count",.ref mc),("cuts",.ref cu)]
structure PRepA (K:PySem.W.Frag) (mg:Str→Option Value) (Fp:Addr→Prop) (H:Hp) (a:Addr) (p:PS) (dx t:Addr) (rv:V) (w c:Addr) (fv:V) (tc mc cu:Addr):Prop where
 ob:H a=some (.ins (cOf mg "Piece") dx (pcF t rv w c p.closed fv tc mc cu))
 fa:Fp a
 fc:Fp cu
 tr:TupK K H t (p.train.map V.int)
 ra:FrM H rv p.pitch
 wo:FrA K H w p.work
 pl:FrA K H c p.place
 fi:FstA K H fv p
 tu:FrA K H tc p.turned
 mo:FrA K H mc p.moved
 cu:TL H cu (rowsOf p.cuts)
def PRep (K:PySem.W.Frag) (mg:Str→Option Value) (Fp:Addr→Prop) (H:Hp) (a:Addr) (p:PS):Prop:=∃ dx t rv w c fv tc mc cu,PRepA K mg Fp H a p dx t rv w c fv tc mc cu
theorem TL.frame {H H':Hp} {D:Addr} {tss:List (List Int)} (h:TL H D tss) (k:∀ o,H D=some o→H' D=some o) (s:Tups H H'):TL H' D tss:=by
 obtain ⟨rs,h1,h2⟩:=h
 exact ⟨rs,k _ h1,pair_tups s h2⟩
theorem PRepA.frame {K:PySem.W.Frag} {mg:Str→Option Value} {Fp:Addr→Prop} {H H':Hp} {a:Addr} {p:PS} {dx t:Addr} {rv:V} {w c:Addr} {fv:V} {tc mc cu:Addr} (h:PRepA K mg Fp H a p dx t rv w c fv tc mc cu) (k:∀ b o,Fp b→H b=some o→H' b=some o) (s:Tups H H'):PRepA K mg Fp H' a p dx t rv w c fv tc mc cu :=
 ⟨k _ _ h.fa h.ob,h.fa,h.fc,h.tr.tups s,h.ra.tups s,h.wo.tups s,h.pl.tups s,h.fi.tups s,h.tu.tups s,h.mo.tups s,h.cu.frame (fun o e=>k _ _ h.fc e) s⟩
theorem PRepA.foot {K:PySem.W.Frag} {mg:Str→Option Value} {Fp Fp':Addr→Prop} {H:Hp} {a:Addr} {p:PS} {dx t:Addr} {rv:V} {w c:Addr} {fv:V} {tc mc cu:Addr} (h:PRepA K mg Fp H a p dx t rv w c fv tc mc cu) (k:∀ b,Fp b→Fp' b):PRepA K mg Fp' H a p dx t rv w c fv tc mc cu :=
 ⟨h.ob,k _ h.fa,k _ h.fc,h.tr,h.ra,h.wo,h.pl,h.fi,h.tu,h.mo,h.cu⟩
theorem PRep.frame {K:PySem.W.Frag} {mg:Str→Option Value} {Fp:Addr→Prop} {H H':Hp} {a:Addr} {p:PS} (h:PRep K mg Fp H a p) (k:∀ b o,Fp b→H b=some o→H' b=some o) (s:Tups H H'):PRep K mg Fp H' a p:=by
 obtain ⟨dx,t,rv,w,c,fv,tc,mc,cu,h⟩:=h
 exact ⟨dx,t,rv,w,c,fv,tc,mc,cu,h.frame k s⟩
theorem PRep.foot {K:PySem.W.Frag} {mg:Str→Option Value} {Fp Fp':Addr→Prop} {H:Hp} {a:Addr} {p:PS} (h:PRep K mg Fp H a p) (k:∀ b,Fp b→Fp' b):PRep K mg Fp' H a p:=by
 obtain ⟨dx,t,rv,w,c,fv,tc,mc,cu,h⟩:=h
 exact ⟨dx,t,rv,w,c,fv,tc,mc,cu,h.foot k⟩
def Deed.word:Deed→Str
 | .mount _=>"mount"
 | .turn _=>"turn"
 | .wait=>"wait"
 | .close=>"close"
 | .opn=>"open"
 | .move _=>"move"
 | .cut _=>"cut"
def WhatA (K:PySem.W.Frag) (H:Hp) (v:V):Deed→Prop
 | .mount ts=>∃ t,v = .ref t∧TupK K H t (ts.map V.int)
 | .turn a=>∃ t,v = .ref t∧FrA K H t a
 | .move a=>∃ t,v = .ref t∧FrA K H t a
 | .cut a=>∃ t,v = .ref t∧FrA K H t a
 | .wait=>v = .non
 | .close=>v = .non
 | .opn=>v = .non
theorem WhatA.tups {K:PySem.W.Frag} {H H':Hp} {v:V} {d:Deed} (h:WhatA K H v d) (s:Tups H H'):WhatA K H' v d:=by
 cases d with
 | mount ts=>obtain ⟨t,e,h⟩:=h;exact ⟨t,e,h.tups s⟩
 | turn a=>obtain ⟨t,e,h⟩:=h;exact ⟨t,e,h.tups s⟩
 | move a=>obtain ⟨t,e,h⟩:=h;exact ⟨t,e,h.tups s⟩
 | cut a=>obtain ⟨t,e,h⟩:=h;exact ⟨t,e,h.tups s⟩
 | wait=>exact h
 | close=>exact h
 | opn=>exact h
def EntA (K:PySem.W.Frag) (mg:Str→Option Value) (Fp:Addr→Prop) (H:Hp) (p:PS) (d:Deed) (v:V):Prop:=∃ e t b wv,v = .ref e∧H e=some (.tup [.ref t,.ref b])∧H t=some (.tup [.str d.word,wv])∧WhatA K H wv d∧PRep K mg Fp H b p
theorem EntA.frame {K:PySem.W.Frag} {mg:Str→Option Value} {Fp:Addr→Prop} {H H':Hp} {p:PS} {d:Deed} {v:V} (h:EntA K mg Fp H p d v) (k:∀ b o,Fp b→H b=some o→H' b=some o) (s:Tups H H'):EntA K mg Fp H' p d v:=by
 obtain ⟨e,t,b,wv,h1,h2,h3,h4,h5⟩:=h
 exact ⟨e,t,b,wv,h1,s _ _ h2,s _ _ h3,h4.tups s,h5.frame k s⟩
theorem EntA.foot {K:PySem.W.Frag} {mg:Str→Option Value} {Fp Fp':Addr→Prop} {H:Hp} {p:PS} {d:Deed} {v:V} (h:EntA K mg Fp H p d v) (k:∀ b,Fp b→Fp' b):EntA K mg Fp' H p d v:=by
 obtain ⟨e,t,b,wv,h1,h2,h3,h4,h5⟩:=h
 exact ⟨e,t,b,wv,h1,h2,h3,h4,h5.foot k⟩
def psOf (ds:List Deed):PS:=ds.foldl PS.after ps0
structure Ents (K:PySem.W.Frag) (mg:Str→Option Value) (Fp:Addr→Prop) (H:Hp) (ds:List Deed) (es:List V):Prop where
 len:es.length=ds.length
 ent:∀ i d v,ds[i]? = some d→es[i]? = some v→EntA K mg Fp H (psOf (ds.take i)) d v
theorem Ents.frame {K:PySem.W.Frag} {mg:Str→Option Value} {Fp:Addr→Prop} {H H':Hp} {ds:List Deed} {es:List V} (h:Ents K mg Fp H ds es) (k:∀ b o,Fp b→H b=some o→H' b=some o) (s:Tups H H'):Ents K mg Fp H' ds es:=⟨h.len,fun i d v h1 h2=>(h.ent i d v h1 h2).frame k s⟩
theorem Ents.foot {K:PySem.W.Frag} {mg:Str→Option Value} {Fp Fp':Addr→Prop} {H:Hp} {ds:List Deed} {es:List V} (h:Ents K mg Fp H ds es) (k:∀ b,Fp b→Fp' b):Ents K mg Fp' H ds es:=⟨h.len,fun i d v h1 h2=>(h.ent i d v h1 h2).foot k⟩
theorem Ents.push {K:PySem.W.Frag} {mg:Str→Option Value} {Fp:Addr→Prop} {H:Hp} {ds:List Deed} {es:List V} {d:Deed} {v:V} (h:Ents K mg Fp H ds es) (e:EntA K mg Fp H (psOf ds) d v):Ents K mg Fp H (ds++[d]) (es++[v]):=by
 refine ⟨by simp [h.len],fun i d' v' h1 h2=>?_⟩
 have hl:=h.len
 rcases Nat.lt_trichotomy i ds.length with l | l | l
 ·rw [List.getElem?_append_left l] at h1
  rw [List.getElem?_append_left (by omega)] at h2
  rw [List.take_append_of_le_length (by omega)]
  exact h.ent i d' v' h1 h2
 ·subst l
  rw [List.getElem?_append_right (Nat.le_refl _),Nat.sub_self] at h1
  rw [← hl,List.getElem?_append_right (Nat.le_refl _),Nat.sub_self] at h2
  cases h1;cases h2
  rw [List.take_append_of_le_length (Nat.le_refl _),List.take_length]
  exact e
 ·rw [List.getElem?_eq_none (by simp;omega)] at h1
  cases h1
abbrev laF (s:Addr) (n:Int) (pa ra:Addr):List (Str × V):=[("shop",.ref s),("teeth",.int n),("piece",.ref pa),("record",.ref ra)]
structure LRepA (K:PySem.W.Frag) (mg:Str→Option Value) (H:Hp) (a:Addr) (l:LS) (F Fp:Addr→Prop) (dx s pa ra rdx ea:Addr) (es:List V):Prop where
 re:Reach l
 ob:H a=some (.ins (cOf mg "Lathe") dx (laF s l.teeth pa ra))
 sh:H s=some (.tup (l.shop.map V.int))
 bo:H ra=some (.ins (cOf mg "Book") rdx [("entries",.ref ea)])
 he:H ea=some (.lst es)
 f1:F a
 f2:F ra
 f3:F ea
 fp:∀ b,Fp b→F b
 n1:¬ Fp a
 n2:¬ Fp ra
 n3:¬ Fp ea
 al:∀ b,F b→∃ o,H b=some o
 en:Ents K mg Fp H l.book es
 pc:PRep K mg Fp H pa l.ps
def LRep (K:PySem.W.Frag) (mg:Str→Option Value) (H:Hp) (a:Addr) (l:LS) (F:Addr→Prop):Prop:=∃ Fp dx s pa ra rdx ea es,LRepA K mg H a l F Fp dx s pa ra rdx ea es
theorem LRepA.keep {K:PySem.W.Frag} {mg:Str→Option Value} {H H':Hp} {a:Addr} {l:LS} {F Fp:Addr→Prop} {dx s pa ra rdx ea:Addr} {es:List V} (h:LRepA K mg H a l F Fp dx s pa ra rdx ea es) (k:∀ b o,F b→H b=some o→H' b=some o) (t:Tups H H'):LRepA K mg H' a l F Fp dx s pa ra rdx ea es :=
 ⟨h.re,k _ _ h.f1 h.ob,t _ _ h.sh,k _ _ h.f2 h.bo,k _ _ h.f3 h.he,h.f1,h.f2,h.f3,h.fp,h.n1,h.n2,h.n3,fun b z=>by obtain ⟨o,e⟩:=h.al b z;exact ⟨o,k _ _ z e⟩,h.en.frame (fun b o z e=>k b o (h.fp b z) e) t,h.pc.frame (fun b o z e=>k b o (h.fp b z) e) t⟩
abbrev latheMeths:List Str:=["stand","mount","turn","wait","close_nut","open_nut","move","cut","take_back","mounted","pitch","work","screw","nut","off","turned","moved","passes","book","wheels_for","marks","soonest","soonest_on","spoilt","reading","enter"]
theorem laF_no {s:Addr} {n:Int} {pa ra:Addr}:∀ m∈latheMeths,(laF s n pa ra).lookup m=none:=by
 intro m hm
 simp only [latheMeths,List.mem_cons,List.not_mem_nil,or_false] at hm
 rcases hm with rfl | rfl | rfl | rfl | rfl | rfl | rfl | rfl | rfl | rfl | rfl | rfl | rfl | rfl | rfl | rfl | rfl | rfl | rfl | rfl | rfl | rfl | rfl | rfl | rfl | rfl <;> rfl
theorem LRep.ins {K:PySem.W.Frag} {mg:Str→Option Value} {H:Hp} {a:Addr} {l:LS} {F:Addr→Prop} (h:LRep K mg H a l F):∃ dx fs,H a=some (.ins (cOf mg "Lathe") dx fs)∧∀ m∈latheMeths,fs.lookup m=none:=by
 obtain ⟨Fp,dx,s,pa,ra,rdx,ea,es,h⟩:=h
 exact ⟨dx,_,h.ob,laF_no⟩
theorem LRep.keep {K:PySem.W.Frag} {mg:Str→Option Value} {H H':Hp} {a:Addr} {l:LS} {F:Addr→Prop} (h:LRep K mg H a l F) (k:∀ b o,F b→H b=some o→H' b=some o) (t:Tups H H'):LRep K mg H' a l F:=by
 obtain ⟨Fp,dx,s,pa,ra,rdx,ea,es,h⟩:=h
 exact ⟨Fp,dx,s,pa,ra,rdx,ea,es,h.keep k t⟩
theorem LRep.at_ {K:PySem.W.Frag} {mg:Str→Option Value} {H:Hp} {a:Addr} {l:LS} {F:Addr→Prop} (h:LRep K mg H a l F) {b:Addr} (f:F b):∃ o,H b=some o:=by
 obtain ⟨Fp,dx,s,pa,ra,rdx,ea,es,h⟩:=h
 exact h.al b f
theorem LRep.reach {K:PySem.W.Frag} {mg:Str→Option Value} {H:Hp} {a:Addr} {l:LS} {F:Addr→Prop} (h:LRep K mg H a l F):Reach l:=by
 obtain ⟨Fp,dx,s,pa,ra,rdx,ea,es,h⟩:=h
 exact h.re
theorem LRep.same {K:PySem.W.Frag} {mg:Str→Option Value} {H H':Hp} {a:Addr} {l:LS} {F:Addr→Prop} (h:LRep K mg H a l F) (s:Same H H'):LRep K mg H' a l F:=h.keep (fun b o _ e=>s b o e) (Same.tups s)
def deedQ (K:PySem.W.Frag) (mg:Str→Option Value) (H:Hp) (a:Addr) (l:LS) (F:Addr→Prop) (q:Req) (Q:VK) (E:XK):Prop :=
 (due l q=none→∀ r H' F',LRep K mg H' a (l.push q.deed) F'→Fit F F' H H'→StandA K H' r (l.push q.deed)→Q (.ref r) H') ∧
 ∀ x,due l q=some x→∀ H' F',LRep K mg H' a l F'→Fit F F' H H'→E (.ref (cOf mg x)) none H'
def spDeed0 (K:PySem.W.Frag) (mg:Str→Option Value) (q:Req):Sp:=fun vs H Q E=>∃ a l F,vs=[.ref a]∧LRep K mg H a l F∧deedQ K mg H a l F q Q E
def spMountL (K:PySem.W.Frag) (mg:Str→Option Value):Sp:=fun vs H Q E=>∃ a t ts l F,vs=[.ref a,.ref t]∧LRep K mg H a l F∧(H t=some (.lst (ts.map V.int))∨TupK K H t (ts.map V.int))∧ts.length≤1000∧(∀ v∈ts,Bd 200 v)∧deedQ K mg H a l F (.mount ts) Q E
def spAmount (K:PySem.W.Frag) (mg:Str→Option Value) (q:Int→Int→Req):Sp:=fun vs H Q E=>∃ a t x y l F,vs=[.ref a,.ref t]∧LRep K mg H a l F∧FrA K H t (x,y)∧Bd 200 x∧Bd 200 y∧deedQ K mg H a l F (q x y) Q E
def spInitL (K:PySem.W.Frag) (mg:Str→Option Value):Sp:=fun vs H Q E=>∃ x dx wa ws n,vs=[.ref x,.ref wa,.int n]∧H x=some (.ins (cOf mg "Lathe") dx [])∧H dx=some (.own x)∧(H wa=some (.lst (ws.map V.int))∨H wa=some (.tup (ws.map V.int)))∧ws.length≤1000∧(∀ v∈ws,Bd 200 v)∧Bd 200 n ∧
 (GoodShop ws n→∀ H' F',LRep K mg H' x ⟨ws,n,[]⟩ F'→(∀ b o,H b=some o→b≠x→H' b=some o)→(∀ b,F' b→b=x∨b=dx∨H b=none)→Q .non H') ∧
 (¬ GoodShop ws n→∀ H',(∀ b o,H b=some o→b≠x→H' b=some o)→E (.ref (cOf mg "BadNumber")) none H')
def marksV (r:Q2) (n:Int):List V:=(List.range n.toNat).map fun (m:Nat)=>spoilV r.1 n (m:Int)
def spMarksL (K:PySem.W.Frag) (mg:Str→Option Value):Sp:=fun vs H Q E=>∃ a l F,vs=[.ref a]∧LRep K mg H a l F ∧
 (∀ r,l.ps.pitch=some r→∀ D H' F',LRep K mg H' a l F'→Fit F F' H H'→H D=none→¬ F' D→H' D=some (.lst (marksV r l.teeth))→Q (.ref D) H')∧(l.ps.pitch=none→∀ H' F',LRep K mg H' a l F'→Fit F F' H H'→E (.ref (cOf mg "NoTrain")) none H')
def spAsk (K:PySem.W.Frag) (mg:Str→Option Value) (R:LS→(Addr→Prop)→Hp→Hp→V→Prop):Sp:=fun vs H Q _=>∃ a l F,vs=[.ref a]∧LRep K mg H a l F∧∀ v H' F',LRep K mg H' a l F'→Fit F F' H H'→R l F' H H' v→Q v H'
abbrev tellStand (K:PySem.W.Frag):LS→(Addr→Prop)→Hp→Hp→V→Prop:=fun l _ _ H' v=>∃ r,v = .ref r∧StandA K H' r l
abbrev tellOpt (K:PySem.W.Frag) (f:PS→Option Q2):LS→(Addr→Prop)→Hp→Hp→V→Prop:=fun l _ _ H' v=>FrO K H' v (f l.ps)
abbrev tellTrain (K:PySem.W.Frag):LS→(Addr→Prop)→Hp→Hp→V→Prop:=fun l _ _ H' v=>∃ p,v = .ref p∧TupK K H' p (l.ps.train.map V.int)
abbrev tellPasses:LS→(Addr→Prop)→Hp→Hp→V→Prop:=fun l F' H H' v=>∃ D,v = .ref D∧H D=none∧¬ F' D∧TL H' D (rowsOf l.ps.cuts)
end My
namespace My
open PySem L2 Mt
theorem keep2 {H1:Hp} {x cu:Addr} {o1 o2:HO} (hcu:H1 cu=none):∀ b o,H1 b=some o→b≠x→upd (upd H1 cu o1) x o2 b=some o:=fun b o e n=>(upd_ne n).trans ((upd_ne (fun z=>by rw [z,hcu] at e;cases e)).trans e)
theorem paired_last {α β:Type} {R:α→β→Prop}:∀ {rs:List α} {ts:List β} {t:β},Paired R rs (ts++[t])→∃ rs' r,rs=rs'++[r]∧Paired R rs' ts∧R r t
 | _,[],_,.cons h .nil=>⟨[],_,rfl,.nil,h⟩
 | _,_::_,_,.cons h k=>by
  obtain ⟨rs',r,rfl,h1,h2⟩:=paired_last k
  exact ⟨_::rs',r,rfl,.cons h h1,h2⟩
theorem last_or {α:Type} (l:List α):l=[]∨∃ cs c,l=cs++[c]:=by
 rcases List.eq_nil_or_concat l with h | ⟨cs,c,h⟩
 ·exact .inl h
 ·exact .inr ⟨cs,c,by rw [h,List.concat_eq_append]⟩
def qsub (a b:Q2):Q2:=red (a.1 * b.2 - b.1 * a.2) (a.2 * b.2)
theorem qsub_ok {a b:Q2} (ha:a.2≠0) (hb:b.2≠0):Ok2 (qsub a b):=red_ok (Int.mul_ne_zero ha hb)
theorem qv_sub {a b:Q2} (ha:a.2≠0) (hb:b.2≠0):qv (qsub a b)=qv a - qv b:=by
 unfold qsub
 rw [qv_red (Int.mul_ne_zero ha hb)]
 have n1:(a.2:Rat)≠0:=by exact_mod_cast ha
 have n2:(b.2:Rat)≠0:=by exact_mod_cast hb
 unfold qv
 rw [Rat.intCast_sub,Rat.intCast_mul,Rat.intCast_mul,Rat.intCast_mul]
 grind
theorem qv_pair {t b:Int} (h:b≠0):qv (t,b)=qv (red t b):=(qv_red h).symm
theorem qadd_red {w:Q2} {t b:Int} (hw:w.2≠0) (h:b≠0):qadd w (t,b)=qadd w (red t b):=by
 have hr:=(red_ok (t:=t) h).ne
 refine qv_inj (qadd_ok hw h) (qadd_ok hw hr) ?_
 rw [qv_add hw (b:=(t,b)) h,qv_add hw hr,qv_pair h]
theorem qmul_red {w:Q2} {t b:Int} (hw:w.2≠0) (h:b≠0):qmul w (t,b)=qmul w (red t b):=by
 have hr:=(red_ok (t:=t) h).ne
 refine qv_inj (qmul_ok hw h) (qmul_ok hw hr) ?_
 rw [qv_mul hw (b:=(t,b)) h,qv_mul hw hr,qv_pair h]
theorem qadd_abs {w:Q2} {t b:Int} (hw:w.2≠0) (h:0<b):qadd w (qabs (t,b))=qadd w (qabs (red t b)):=by
 have hr:=red_ok (t:=t) (b:=b) (by omega)
 have ho:=(qabs_ok hr).ne
 have hb:(qabs (t,b)).2≠0:=by show b≠0;omega
 refine qv_inj (qadd_ok hw hb) (qadd_ok hw ho) ?_
 rw [qv_add hw hb,qv_add hw ho,qv_abs (a:=(t,b)) h,qv_abs (by have:=hr.pos;omega),qv_pair (t:=t) (b:=b) (by omega)]
theorem Pc.rr {p:PS} {ts:List Int} (h:Pc p ts):p.r=ratio ts:=by unfold PS.r;rw [h.ep];rfl
theorem off_steps {p:PS} {ts:List Int} {x y o:Q2} (P:Pc p ts) (F:FirstOk p x y) (ho:p.off=some o) (e:qv o=qv p.place - qv x - qv (ratio p.train) * (qv p.work - qv y)) :
  (Bd 1700 (qsub p.work y).1∧Bd 1700 (qsub p.work y).2∧(qsub p.work y).2≠0)∧(Bd 1700 (qmul (ratio ts) (qsub p.work y)).1∧Bd 1700 (qmul (ratio ts) (qsub p.work y)).2∧(qmul (ratio ts) (qsub p.work y)).2≠0) ∧
  (Bd 1700 (qsub p.place x).1∧Bd 1700 (qsub p.place x).2∧(qsub p.place x).2≠0)∧qsub (qsub p.place x) (qmul (ratio ts) (qsub p.work y))=o∧(Bd 1700 x.1∧Bd 1700 x.2)∧(Bd 1700 y.1∧Bd 1700 y.2):=by
 have et:=P.et
 rw [et] at e
 have wx:=F.wx
 have wy:=F.wy
 rw [et] at wx wy
 have ro:=P.tr.rok
 have rp:=P.tr.rpos
 have rl:=P.tr.rle
 have o1:=qsub_ok P.w.ne F.oy.ne
 have v1:=qv_sub P.w.ne F.oy.ne
 have o2:=qmul_ok (b:=qsub p.work y) ro.ne o1.ne
 have v2:qv (qmul (ratio ts) (qsub p.work y))=qv (ratio ts) * (qv p.work - qv y):=by rw [qv_mul ro.ne o1.ne,v1]
 have o3:=qsub_ok P.pl.ne F.ox.ne
 have v3:=qv_sub P.pl.ne F.ox.ne
 have w1:Wh (qv (qsub p.work y) * ((LL * (ratio ts).1:Int):Rat)):=by
  rw [v1,Rat.sub_eq_add_neg,Rat.add_mul,Rat.neg_mul]
  exact P.dw.add wy.neg
 have b1:rabs (qv (qsub p.work y))≤((200000:Int):Rat):=by
  rw [v1,Rat.sub_eq_add_neg]
  have h1:=rabs_add (qv p.work) (-(qv y))
  rw [rabs_neg] at h1
  have h2:=Rat.le_trans P.lw P.t1
  have h3:=F.bY
  have e1:((200000:Int):Rat)=200000:=rfl
  have e2:((100000:Int):Rat)=100000:=rfl
  rw [e1];rw [e2] at h3
  grind
 have w2:Wh (qv (qmul (ratio ts) (qsub p.work y)) * ((LL * (ratio ts).2:Int):Rat)):=by
  rw [v2,← v1]
  have n:=ro.nz
  have e3:qv (ratio ts) * qv (qsub p.work y) * ((LL * (ratio ts).2:Int):Rat)=qv (qsub p.work y) * ((LL * (ratio ts).1:Int):Rat):=by
   rw [Rat.intCast_mul,Rat.intCast_mul]
   have:qv (ratio ts)=((ratio ts).1:Rat) / ((ratio ts).2:Rat):=rfl
   rw [this]
   grind
  rw [e3];exact w1
 have b2:rabs (qv (qmul (ratio ts) (qsub p.work y)))≤((4000000000:Int):Rat):=by
  rw [v2,← v1]
  have h1:=rabs_mul (x:=qv (qsub p.work y)) rp
  have h2:=Rat.mul_le_mul_of_nonneg_left b1 rp
  have h3:=Rat.mul_le_mul_of_nonneg_right rl (show (0:Rat)≤((200000:Int):Rat) by decide)
  have e4:(20000:Rat) * ((200000:Int):Rat)=((4000000000:Int):Rat):=by rw [show (20000:Rat)=((20000:Int):Rat) from rfl,← Rat.intCast_mul];rfl
  rw [e4] at h3
  exact Rat.le_trans h1 (Rat.le_trans h2 h3)
 have w3:Wh (qv (qsub p.place x) * ((LL * (ratio ts).2:Int):Rat)):=by
  rw [v3,Rat.sub_eq_add_neg,Rat.add_mul,Rat.neg_mul]
  exact P.dp.add wx.neg
 have b3:rabs (qv (qsub p.place x))≤((4000200000:Int):Rat):=by
  rw [v3,Rat.sub_eq_add_neg]
  have h1:=rabs_add (qv p.place) (-(qv x))
  rw [rabs_neg] at h1
  have h2:=P.placeBd
  have h3:=F.bx
  have e1:((4000200000:Int):Rat)=4000200000:=rfl
  have e2:((2000100000:Int):Rat)=2000100000:=rfl
  rw [e1];rw [e2] at h2 h3
  grind
 have z1:=sizes o1 w1 P.tr.D1.1 P.tr.D1.2 (by decide) (by unfold Bd;decide) b1
 have z2:=sizes o2 w2 P.tr.D2.1 P.tr.D2.2 (by decide) (by unfold Bd;decide) b2
 have z3:=sizes o3 w3 P.tr.D2.1 P.tr.D2.2 (by decide) (by unfold Bd;decide) b3
 refine ⟨⟨z1.1,z1.2,o1.ne⟩,⟨z2.1,z2.2,o2.ne⟩,⟨z3.1,z3.2,o3.ne⟩,?_,sizes F.ox wx P.tr.D2.1 P.tr.D2.2 (by decide) bd2e9 F.bx,sizes F.oy wy P.tr.D1.1 P.tr.D1.2 (by decide) bd1e5 F.bY⟩
 refine qv_inj (qsub_ok o3.ne o2.ne) (P.o o ho) ?_
 rw [qv_sub o3.ne o2.ne,v3,v2,e]
def newPS (ts:List Int):PS:={ ps0 with train:=ts,pitch:=if ts=[] then none else some (ratio ts) }
theorem newPS_train {ts:List Int} (h:Train ts):newPS ts=ps0.after (.mount ts):=by
 have:ts≠[]:=fun e=>by have:=h.len;rw [e] at this;rcases this with z | z <;> cases z
 unfold newPS
 rw [if_neg this]
 rfl
def OffR (H H':Hp) (v:V):Option Q2→Prop
 | none=>v = .non
 | some x=>∃ n,v = .ref n∧H n=none∧H' n=some (.tup [.int x.1,.int x.2])
theorem OffR.fr {K:PySem.W.Frag} {H H':Hp} {v:V} {o:Option Q2} (h:OffR H H' v o):FrO K H' v o:=by
 cases o with
 | none=>exact h
 | some x=>obtain ⟨n,e,_,h⟩:=h;exact ⟨n,e,.inl h⟩
theorem Reach.pc {l:LS} (h:Reach l):l.ps=ps0∨∃ ts,Pc l.ps ts∧∀ v∈ts,v∈l.shop:=(reach_pc h).2
theorem Reach.good {l:LS} (h:Reach l):GoodShop l.shop l.teeth:=(reach_pc h).1
def PcO (p:PS):Prop:=p=ps0∨∃ ts,Pc p ts
theorem Reach.pco {l:LS} (h:Reach l):PcO l.ps:=h.pc.elim .inl fun ⟨ts,P,_⟩=>.inr ⟨ts,P⟩
theorem PcO.train {p:PS} (h:PcO p):(p.train=[]∨Train p.train)∧p.pitch=(newPS p.train).pitch:=by
 rcases h with rfl | ⟨ts,P⟩
 ·exact ⟨.inl rfl,rfl⟩
 ·refine ⟨.inr (by rw [P.et];exact P.tr),?_⟩
  rw [P.et,P.ep,newPS_train P.tr]
  rfl
theorem FstA.like {K:PySem.W.Frag} {H:Hp} {v:V} {p p':PS} (h:FstA K H v p) (e1:p'.off=p.off) (e2:p'.place=p.place) (e3:p'.work=p.work) (e4:p'.train=p.train):FstA K H v p':=by
 rcases h with ⟨h1,h2⟩ | ⟨o,f,c,w,x,y,h1,h2,h3,h4,h5,h6,h7⟩
 ·exact .inl ⟨e1.trans h1,h2⟩
 ·exact .inr ⟨o,f,c,w,x,y,e1.trans h1,h2,h3,h4,h5,⟨h6.ox,h6.oy,by rw [e4];exact h6.wx,by rw [e4];exact h6.wy,h6.bx,h6.bY⟩,by rw [e2,e3,e4];exact h7⟩
theorem twin_rep {K:PySem.W.Frag} {mg:Str→Option Value} {Fp:Addr→Prop} {H Hk:Hp} {a:Addr} {p:PS} {dx t:Addr} {rv rv1:V} {w c:Addr} {fv:V} {tc mc cu cu2 x dx2 C0 d0:Addr} {fs0:List (Str × V)} {rs:List Addr} (R:PRepA K mg Fp H a p dx t rv w c fv tc mc cu) (nx:H x=none)
  (hcu2:Hk cu2=none) (cx:cu2≠x) (kk:∀ b o,H b=some o→Hk b=some o) (prs:Paired (fun r t=>H r=some (.tup (t.map V.int))) rs (rowsOf p.cuts)) (hrv:FrM Hk rv1 p.pitch) (hkx:Hk x=some (.ins C0 d0 fs0)) :
  Same H (upd (upd Hk cu2 (.lst (rs.map V.ref))) x (.ins (cOf mg "Piece") dx2 (pcF t rv1 w c p.closed fv tc mc cu2))) ∧
  PRepA K mg (fun z=>z=x∨z=cu2) (upd (upd Hk cu2 (.lst (rs.map V.ref))) x (.ins (cOf mg "Piece") dx2 (pcF t rv1 w c p.closed fv tc mc cu2))) x p dx2 t rv1 w c fv tc mc cu2:=by
 have s2:Same H (upd (upd Hk cu2 (.lst (rs.map V.ref))) x (.ins (cOf mg "Piece") dx2 (pcF t rv1 w c p.closed fv tc mc cu2))):=fun b o e=>keep2 hcu2 b o (kk b o e) (ne_of_none e nx)
 refine ⟨s2,⟨upd_same,.inl rfl,.inr rfl,R.tr.mono s2,hrv.tups fun b xs e=>keep2 hcu2 b _ e (fun z=>by rw [z,hkx] at e;cases e),R.wo.mono s2,R.pl.mono s2,R.fi.tups (Same.tups s2),R.tu.mono s2,R.mo.mono s2,⟨rs,(upd_ne cx).trans upd_same,pair_mono s2 prs⟩⟩⟩
def spEnter (K:PySem.W.Frag) (mg:Str→Option Value):Sp:=fun vs H Q E=>∃ a l F d wv pb Fq,vs=[.ref a,.str (Deed.word d),wv,.ref pb]∧LRep K mg H a l F∧WhatA K H wv d∧PRep K mg Fq H pb (l.ps.after d)∧(∀ b,Fq b→¬ F b)∧(∀ b,Fq b→∃ o,H b=some o)∧(l.book.length<100→Reach (l.push d)) ∧
 (l.book.length<100→∀ r H' F',LRep K mg H' a (l.push d) F'→(∀ b,F' b→F b∨Fq b∨H b=none)→(∀ b o,H b=some o→¬ F b→¬ Fq b→H' b=some o)→Tups H H'→StandA K H' r (l.push d)→Q (.ref r) H')∧(100≤l.book.length→E (.ref (cOf mg "BookFull")) none H)
theorem Fit.enter {F Fq F':Addr→Prop} {H H3 H':Hp} (s:Same H H3) (nq:∀ b,Fq b→H b=none) (f:∀ b,F' b→F b∨Fq b∨H3 b=none) (k:∀ b o,H3 b=some o→¬ F b→¬ Fq b→H' b=some o) (t:Tups H3 H'):Fit F F' H H' where
 keep:=fun b o h n=>k b o (s b o h) n fun z=>by rw [nq b z] at h;cases h
 foot:=fun b z=>by
  rcases f b z with z | z | z
  ·exact .inl z
  ·exact .inr (nq b z)
  ·exact .inr (s.free z)
 tup:=fun b xs h=>t b xs (s b _ h)
theorem due1 {l:LS} {q:Req} (h:q.known l=false):due l q=some "UnknownWheel":=by unfold due;rw [if_pos h]
theorem due2 {l:LS} {q:Req} (h1:q.known l=true) (h:q.has l=false):due l q=some "NoTrain":=by unfold due;rw [if_neg (by rw [h1];decide),if_pos h]
theorem due3 {l:LS} {q:Req} (h1:q.known l=true) (h2:q.has l=true) (h:q.wrong l.ps=true):due l q=some "WrongNut":=by unfold due;rw [if_neg (by rw [h1];decide),if_neg (by rw [h2];decide),if_pos h]
theorem due4 {l:LS} {q:Req} (h1:q.known l=true) (h2:q.has l=true) (h3:q.wrong l.ps=false) (h:q.bad l.ps=true):due l q=some "BadNumber":=by unfold due;rw [if_neg (by rw [h1];decide),if_neg (by rw [h2];decide),if_neg (by rw [h3];decide),if_pos h]
theorem due5 {l:LS} {q:Req} (h1:q.known l=true) (h2:q.has l=true) (h3:q.wrong l.ps=false) (h4:q.bad l.ps=false) (h:q.meets l=false):due l q=some "NoMeeting":=by unfold due;rw [if_neg (by rw [h1];decide),if_neg (by rw [h2];decide),if_neg (by rw [h3];decide),if_neg (by rw [h4];decide),if_pos h]
theorem due6 {l:LS} {q:Req} (h1:q.known l=true) (h2:q.has l=true) (h3:q.wrong l.ps=false) (h4:q.bad l.ps=false) (h5:q.meets l=true):(l.book.length<100→due l q=none)∧(100≤l.book.length→due l q=some "BookFull"):=by
 unfold due
 rw [if_neg (by rw [h1];decide),if_neg (by rw [h2];decide),if_neg (by rw [h3];decide),if_neg (by rw [h4];decide),if_neg (by rw [h5];decide)]
 exact ⟨fun z=>if_neg (by omega),fun z=>if_pos z⟩
theorem deedQ.no {K:PySem.W.Frag} {mg:Str→Option Value} {H H':Hp} {a:Addr} {l:LS} {F:Addr→Prop} {q:Req} {Q:VK} {E:XK} {x:String} (D:deedQ K mg H a l F q Q E) (R:LRep K mg H a l F) (s:Same H H') (h:due l q=some x):E (.ref (cOf mg x)) none H':=D.2 x h H' F (R.same s) (Fit.of_same s)
theorem deedQ.enter {K:PySem.W.Frag} {mg:Str→Option Value} {H H3:Hp} {a:Addr} {l:LS} {F Fq:Addr→Prop} {q:Req} {Q:VK} {E:XK} {wv:V} {pb:Addr} (D:deedQ K mg H a l F q Q E) (R:LRep K mg H a l F) (s:Same H H3) (nq:∀ b,Fq b→H b=none) (aq:∀ b,Fq b→∃ o,H3 b=some o)
  (d:(l.book.length<100→due l q=none)∧(100≤l.book.length→due l q=some "BookFull")) (hw:WhatA K H3 wv q.deed) (Rb:PRep K mg Fq H3 pb (l.ps.after q.deed)):spEnter K mg [.ref a,.str (Deed.word q.deed),wv,.ref pb] H3 Q E :=
 ⟨a,l,F,q.deed,wv,pb,Fq,rfl,R.same s,hw,Rb,(fun b z f=>by obtain ⟨o,h⟩:=R.at_ f;rw [nq b z] at h;cases h),aq,fun z=>Reach.step R.reach (d.1 z),
  fun z r H' F' R' f k t st=>D.1 (d.1 z) r H' F' R' (Fit.enter s nq f k t) st,fun z=>D.no R s (d.2 z)⟩
theorem made_same {H:Hp} {x dx:Addr} (nx:H x=none) (ndx:H dx=none) (o o':HO):Same H (upd (upd H dx o) x o'):=fun b _ e=>(upd_ne (ne_of_none e nx)).trans ((upd_ne (ne_of_none e ndx)).trans e)
theorem made_next {H2 H3:Hp} {x dx:Addr} {o o':HO} (nx:H2 x=none) (ndx:H2 dx=none) (k:∀ b u,upd (upd H2 dx o) x o' b=some u→b≠x→H3 b=some u):Same H2 H3:=fun b u e=>k b u (made_same nx ndx o o' b u e) (ne_of_none e nx)
theorem PRep.same {K:PySem.W.Frag} {mg:Str→Option Value} {Fp:Addr→Prop} {H H':Hp} {a:Addr} {p:PS} (h:PRep K mg Fp H a p) (s:Same H H'):PRep K mg Fp H' a p:=h.frame (fun b o _ e=>s b o e) (Same.tups s)
theorem init_rep {K:PySem.W.Frag} {mg:Str→Option Value} {H7 H10:Hp} {x dx M px pdx e0 N cu bx bdx ea:Addr} {rv:V} {ws:List Int} {n:Int} (G:GoodShop ws n) (hM:H7 M=some (.tup (ws.map V.int))) (Mx:M≠x) (hob:H7 px=some (.ins (cOf mg "Piece") pdx (pcF e0 rv N N false .non N N cu))) (he0:H7 e0=some (.tup [])) (e0x:e0≠x)
  (hcu:H7 cu=some (.lst [])) (hrv:FrM H7 rv none) (pxx:px≠x) (cux:cu≠x) (hN:SqT K (fun _=>none) N [.int 0,.int 1]) (kx:∀ b o,H7 b=some o→b≠x→H10 b=some o) (hbx:H10 bx=some (.ins (cOf mg "Book") bdx [("entries",.ref ea)])) (hea:H10 ea=some (.lst []))
  (bxx:bx≠x) (eax:ea≠x) (nb:H7 bx=none) (ne:H7 ea=none):LRep K mg (upd H10 x (.ins (cOf mg "Lathe") dx (laF M n px bx))) x ⟨ws,n,[]⟩ (fun b=>b=x∨b=px∨b=cu∨b=bx∨b=ea):=by
 have k:∀ b o,H7 b=some o→b≠x→upd H10 x (.ins (cOf mg "Lathe") dx (laF M n px bx)) b=some o:=fun b o e z=>(upd_ne z).trans (kx b o e z)
 have fN:∀ H':Hp,FrA K H' N (0,1):=fun _=>.inr hN
 refine ⟨fun b=>b=px∨b=cu,dx,M,px,bx,bdx,ea,[],.new G,upd_same,k _ _ hM Mx,(upd_ne bxx).trans hbx,(upd_ne eax).trans hea,.inl rfl,.inr (.inr (.inr (.inl rfl))),.inr (.inr (.inr (.inr rfl))),fun b z=>z.elim (fun z=>.inr (.inl z)) fun z=>.inr (.inr (.inl z)),fun z=>z.elim (fun z=>pxx z.symm) fun z=>cux z.symm,fun z=>z.elim (fun z=>?_) fun z=>?_,fun z=>z.elim (fun z=>?_) fun z=>?_,fun b z=>?_,⟨rfl,fun i d v h=>by simp at h⟩,?_⟩
 ·rw [z,hob] at nb;cases nb
 ·rw [z,hcu] at nb;cases nb
 ·rw [z,hob] at ne;cases ne
 ·rw [z,hcu] at ne;cases ne
 ·rcases z with rfl | rfl | rfl | rfl | rfl
  ·exact ⟨_,upd_same⟩
  ·exact ⟨_,k _ _ hob pxx⟩
  ·exact ⟨_,k _ _ hcu cux⟩
  ·exact ⟨_,(upd_ne bxx).trans hbx⟩
  ·exact ⟨_,(upd_ne eax).trans hea⟩
 ·have hr:rv = .non:=hrv
  subst hr
  exact ⟨pdx,e0,.non,N,N,.non,N,N,cu,k _ _ hob pxx,.inl rfl,.inr rfl,.inl (k _ _ he0 e0x),rfl,fN _,fN _,.inl ⟨rfl,rfl⟩,fN _,fN _,⟨[],k _ _ hcu cux,.nil⟩⟩
theorem up3 {H2:Hp} {x e0 b:Addr} {o1 o2 u:HO} (he0:upd (upd H2 x o1) x o2 e0=none) (o3:HO) (nb:b≠x) (e:H2 b=some u):upd (upd (upd H2 x o1) x o2) e0 o3 b=some u:=by
 have e4:upd (upd H2 x o1) x o2 b=some u:=(upd_ne nb).trans ((upd_ne nb).trans e)
 exact (upd_ne (ne_of_none e4 he0)).trans e4
theorem up8 {H7:Hp} {x bx bdx ea b:Addr} {o1 o2 o3 o4 o5 u:HO} (nbx:upd H7 x o1 bx=none) (nbdx:upd H7 x o1 bdx=none) (hea:upd (upd (upd H7 x o1) bdx o2) bx o3 ea=none) (nb:b≠x) (e:H7 b=some u):upd (upd (upd (upd (upd H7 x o1) bdx o2) bx o3) ea o4) bx o5 b=some u:=by
 have e8:upd H7 x o1 b=some u:=(upd_ne nb).trans e
 have e9:=made_same nbx nbdx o2 o3 b u e8
 exact (upd_ne (ne_of_none e8 nbx)).trans ((upd_ne (ne_of_none e9 hea)).trans e9)
theorem keep1 {H H2 H3:Hp} {b:Addr} (s:Same H H2) (nb:H b=none) (k:∀ z o,H2 z=some o→z≠b→H3 z=some o):Same H H3:=fun z o h=>k z o (s z o h) (ne_of_none h nb)
theorem aq1 {H2 H3:Hp} {b:Addr} {Fq:Addr→Prop} (aq:∀ z,Fq z→∃ o,H2 z=some o) (k:∀ z o,H2 z=some o→z≠b→H3 z=some o) (h:∃ o,H3 b=some o):∀ z,Fq z→∃ o,H3 z=some o:=fun z f=>by
 by_cases e:z=b
 ·rw [e];exact h
 ·obtain ⟨o,h⟩:=aq z f;exact ⟨o,k z o h e⟩
theorem turn_rep {K:PySem.W.Frag} {mg:Str→Option Value} {Fp:Addr→Prop} {H H5:Hp} {a:Addr} {p:PS} {dx t rr w c:Addr} {fv:V} {tc mc cu n1 n2 c':Addr} {ts:List Int} {x y:Int} (R:PRepA K mg Fp H a p dx t (.ref rr) w c fv tc mc cu) (P:Pc p ts) (y1:1≤y) (k:∀ b o,H b=some o→b≠a→H5 b=some o)
  (ob:H5 a=some (.ins (cOf mg "Piece") dx (pcF t (.ref rr) n1 c' p.closed fv n2 mc cu))) (hw:H5 n1=some (.tup [.int (qadd p.work (x,y)).1,.int (qadd p.work (x,y)).2])) (hm:H5 n2=some (.tup [.int (qadd p.turned (qabs (x,y))).1,.int (qadd p.turned (qabs (x,y))).2]))
  (hc:p.closed=true→H5 c'=some (.tup [.int (qadd p.place (qmul (ratio ts) (x,y))).1,.int (qadd p.place (qmul (ratio ts) (x,y))).2])) (hc2:p.closed=false→c'=c):PRep K mg Fp H5 a (p.turn (red x y)):=by
 have y0:y≠0:=by omega
 have ha:=red_ok (t:=x) y0
 have ro:=P.tr.rok
 have er:=P.rr
 have t5:Tups H H5:=fun b xs e=>k b _ e fun z=>by rw [z,R.ob] at e;cases e
 obtain ⟨rs,hrs,prs⟩:=R.cu
 have hca:cu≠a:=fun z=>by rw [z,R.ob] at hrs;cases hrs
 rw [qadd_red P.w.ne y0] at hw
 rw [qadd_abs P.t.ne (by omega)] at hm
 have mo:=qmul_ok (b:=red x y) ro.ne ha.ne
 have vm:qv (qmul (ratio ts) (red x y))=qv (ratio ts) * qv (red x y):=qv_mul ro.ne ha.ne
 have vw:qv (qadd p.work (red x y))=qv p.work + qv (red x y):=qv_add P.w.ne ha.ne
 refine ⟨dx,t,.ref rr,n1,c',fv,n2,mc,cu,ob,R.fa,R.fc,R.tr.tups t5,R.ra.tups t5,.inl hw,?_,?_,.inl hm,R.mo.tups t5,⟨rs,k _ _ hrs hca,pair_tups t5 prs⟩⟩
 ·show FrA K H5 c' (if p.closed then qadd p.place (qmul p.r (red x y)) else p.place)
  cases cl:p.closed with
  | true =>
   have h:=hc cl
   rw [qmul_red ro.ne y0] at h
   rw [if_pos rfl,er]
   exact .inl h
  | false =>
   rw [if_neg Bool.false_ne_true,hc2 cl]
   exact R.pl.tups t5
 ·rcases R.fi with ⟨ho,hv⟩ | ⟨o,f1,c1,w1,u,v,ho,hv,hf,hc1,hw1,Fo,he⟩
  ·refine .inl ⟨?_,hv⟩
   show (if p.closed then p.off else p.off.map _)=none
   rw [ho];split <;> rfl
  ·have FO:FirstOk (p.turn (red x y)) u v:=⟨Fo.ox,Fo.oy,Fo.wx,Fo.wy,Fo.bx,Fo.bY⟩
   have et:ratio p.train=ratio ts:=by rw [P.et]
   cases cl:p.closed with
   | true =>
    refine .inr ⟨o,f1,c1,w1,u,v,?_,hv,t5 _ _ hf,hc1.tups t5,hw1.tups t5,FO,?_⟩
    ·show (if p.closed then p.off else p.off.map _)=some o
     rw [cl,if_pos rfl,ho]
    ·show qv o=qv (if p.closed then qadd p.place (qmul p.r (red x y)) else p.place) - qv u - qv (ratio p.train) * (qv (qadd p.work (red x y)) - qv v)
     rw [cl,if_pos rfl,er,qv_add P.pl.ne mo.ne,vm,vw,he,et]
     grind
   | false =>
    refine .inr ⟨qadd o (qneg (qmul (ratio ts) (red x y))),f1,c1,w1,u,v,?_,hv,t5 _ _ hf,hc1.tups t5,hw1.tups t5,FO,?_⟩
    ·show (if p.closed then p.off else p.off.map _)=_
     rw [cl,if_neg Bool.false_ne_true,ho,er];rfl
    ·show qv (qadd o (qneg (qmul (ratio ts) (red x y))))=qv (if p.closed then qadd p.place (qmul p.r (red x y)) else p.place) - qv u - qv (ratio p.train) * (qv (qadd p.work (red x y)) - qv v)
     rw [cl,if_neg Bool.false_ne_true,qv_add (P.o o ho).ne (qneg_ok mo).ne,qv_neg,vm,vw,he,et]
     grind
theorem Pc.more {p:PS} {ts:List Int} (P:Pc p ts) {k:Int} (b:Bd 64 k):Pc { p with cuts:=p.cuts++[(k,k * (ratio ts).2 % (ratio ts).1)] } ts :=
 ⟨P.tr,P.nd,P.et,P.ep,P.w,P.pl,P.t,P.m,P.o,P.dw,P.dt,P.dp,P.dm,P.dx,P.lw,P.t0,P.t1,P.m0,P.m1,P.lp,P.lo,P.cl,fun c hc=>by
  have hc:c∈p.cuts++[(k,k * (ratio ts).2 % (ratio ts).1)]:=hc
  rcases List.mem_append.mp hc with z | z
  ·exact P.cu c z
  ·rw [List.mem_singleton.mp z];exact ⟨rfl,b⟩⟩
theorem cut_rep {K:PySem.W.Frag} {mg:Str→Option Value} {Fp:Addr→Prop} {H H3:Hp} {a:Addr} {p:PS} {dx t:Addr} {rv:V} {w c:Addr} {fv:V} {tc mc cu m:Addr} {rs:List Addr} {e:Q2} (R:PRepA K mg Fp H a p dx t rv w c fv tc mc cu) (hrs:H cu=some (.lst (rs.map V.ref))) (prs:Paired (fun r t=>H r=some (.tup (t.map V.int))) rs (rowsOf p.cuts))
  (s3:Same H H3) (hm:H3 m=some (.tup [.int e.1,.int e.2])):PRep K mg Fp (upd H3 cu (.lst (rs.map V.ref++[.ref m]))) a { p with cuts:=p.cuts++[e] }:=by
 have hca:a≠cu:=fun z=>by have h:=R.ob;rw [z,hrs] at h;cases h
 have k:∀ b o,H b=some o→b≠cu→upd H3 cu (.lst (rs.map V.ref++[.ref m])) b=some o:=fun b o e n=>(upd_ne n).trans (s3 b o e)
 have t3:Tups H (upd H3 cu (.lst (rs.map V.ref++[.ref m]))):=fun b xs e=>k b _ e fun z=>by rw [z,hrs] at e;cases e
 refine ⟨dx,t,rv,w,c,fv,tc,mc,cu,k _ _ R.ob hca,R.fa,R.fc,R.tr.tups t3,R.ra.tups t3,R.wo.tups t3,R.pl.tups t3,(R.fi.tups t3).like rfl rfl rfl rfl,R.tu.tups t3,R.mo.tups t3,⟨rs++[m],by rw [upd_same,List.map_append];rfl,?_⟩⟩
 show Paired _ (rs++[m]) (rowsOf (p.cuts++[e]))
 rw [rowsOf,List.map_append]
 refine Paired.snoc (pair_tups t3 prs) ?_
 exact (upd_ne (fun z=>by rw [z,s3 _ _ hrs] at hm;cases hm)).trans hm
theorem bad_bottom {p:PS} {x y:Int} (h:¬ (1≤y∧y≤1000)):(decide (y<1) || decide (1000<y) || tooMuch p.turned (x,y))=true:=by
 rcases Int.lt_or_le y 1 with z | z
 ·rw [decide_eq_true z];rfl
 ·rw [decide_eq_true (show 1000<y by omega),Bool.or_true,Bool.true_or]
theorem bad_many {c:Q2} {x y:Int} (h:tooMuch c (x,y)=true):(decide (y<1) || decide (1000<y) || tooMuch c (x,y))=true:=by rw [h,Bool.or_true]
theorem bad_none {c:Q2} {x y:Int} (h:1≤y∧y≤1000) (f:tooMuch c (x,y)=false):(decide (y<1) || decide (1000<y) || tooMuch c (x,y))=false:=by rw [f,decide_eq_false (show ¬ y<1 by omega),decide_eq_false (show ¬ 1000<y by omega)];rfl
theorem bad_bottom2 {c:Q2} {x y:Int} (h:¬ (1≤y∧y≤1000)):(decide (y<1) || decide (1000<y) || tooMuch c (x,y))=true:=by
 rcases Int.lt_or_le y 1 with z | z
 ·rw [decide_eq_true z];rfl
 ·rw [decide_eq_true (show 1000<y by omega),Bool.or_true,Bool.true_or]
theorem count_bd {c:Q2} {x y:Int} (h1:Bd 1700 c.1) (h2:Bd 1700 c.2) (bx:Bd 200 x) (bY:Bd 200 y) (n1:c.2≠0) (n2:y≠0):Bd 2000 (qadd c (qabs (x,y))).1∧Bd 2000 (qadd c (qabs (x,y))).2:=by
 have L:=lt_is (t:=c.1 * y + (qabs (x,y)).1 * c.2) (b:=c.2 * y) (Int.mul_ne_zero n1 n2)
 have ba:Bd 200 (qabs (x,y)).1:=bx.le (by unfold qabs;dsimp only;split <;> omega)
 exact ⟨((h1.mul bY).add (ba.mul h2)).mono (show _≤2000 by decide) |>.le L.nx,((h2.mul bY).mono (show _≤2000 by decide)).le L.ny⟩
theorem cut_bottom {c:Q2} {x y:Int} (h:¬ (1≤y∧y≤1000)):(decide (y<1) || decide (1000<y) || decide (x≤0) || tooMuch c (x,y))=true:=by
 rcases Int.lt_or_le y 1 with z | z
 ·rw [decide_eq_true z];rfl
 ·rw [decide_eq_true (show 1000<y by omega),Bool.or_true];rfl
theorem cut_low {c:Q2} {x y:Int} (h:x≤0):(decide (y<1) || decide (1000<y) || decide (x≤0) || tooMuch c (x,y))=true:=by rw [decide_eq_true h,Bool.or_true];rfl
theorem cut_many {c:Q2} {x y:Int} (h:tooMuch c (x,y)=true):(decide (y<1) || decide (1000<y) || decide (x≤0) || tooMuch c (x,y))=true:=by rw [h,Bool.or_true]
theorem cut_none {c:Q2} {x y:Int} (h:1≤y∧y≤1000) (xp:¬ x≤0) (f:tooMuch c (x,y)=false):(decide (y<1) || decide (1000<y) || decide (x≤0) || tooMuch c (x,y))=false:=by rw [f,decide_eq_false (show ¬ y<1 by omega),decide_eq_false (show ¬ 1000<y by omega),decide_eq_false xp];rfl
theorem cuts_after (p:PS) (d:Deed):(p.after d).cuts.length≤p.cuts.length + 1:=by
 cases d with
 | mount ts=>exact Nat.zero_le _
 | cut a=>show (p.cuts++[_]).length≤_;rw [List.length_append];exact Nat.le_refl _
 | _=>exact Nat.le_succ _
theorem cuts_le (l:LS):l.ps.cuts.length≤l.book.length:=by
 have key:∀ (ds:List Deed) (p:PS),(ds.foldl PS.after p).cuts.length≤p.cuts.length + ds.length:=fun ds=>by
  induction ds with
  | nil=>exact fun p=>Nat.le_refl _
  | cons d ds ih=>intro p;have h1:=ih (p.after d);have h2:=cuts_after p d;rw [List.foldl_cons,List.length_cons];omega
 have h:=key l.book ps0
 have e:ps0.cuts.length=0:=rfl
 unfold LS.ps
 omega
theorem Reach.len {l:LS} (h:Reach l):l.book.length≤100:=by
 cases h with
 | new g=>exact Nat.zero_le _
 | step h d =>
  have r:=(due_none d).room
  show (_++[_]).length≤100
  rw [List.length_append,List.length_singleton];omega
def PS.screw (p:PS):Q2:=match p.pitch with
 | none=>(0,1)
 | some r=>qmul r p.work
theorem qadd_zero {q:Q2} (h:Ok2 q):qadd (0,1) q=q:=qv_inj (qadd_ok (by decide) h.ne) h (by rw [qv_add (by decide) h.ne,qv_zero,Rat.zero_add])
section
variable {l:LS} {a:Q2}
theorem move_off:(l.push (.move a)).ps.off=l.ps.off.map fun o=>qadd o a:=by rw [LS.ps_push];rfl
theorem move_shut:(l.push (.move a)).ps.closed=l.ps.closed:=by rw [LS.ps_push];rfl
theorem move_cuts:(l.push (.move a)).ps.cuts=l.ps.cuts:=by rw [LS.ps_push];rfl
theorem move_turned:(l.push (.move a)).ps.turned=l.ps.turned:=by rw [LS.ps_push];rfl
theorem close_off:(l.push .close).ps.off=some (l.ps.off.getD (0,1)):=by rw [LS.ps_push];rfl
theorem close_shut:(l.push .close).ps.closed=true:=by rw [LS.ps_push];rfl
theorem close_cuts:(l.push .close).ps.cuts=l.ps.cuts:=by rw [LS.ps_push];rfl
theorem close_turned:(l.push .close).ps.turned=l.ps.turned:=by rw [LS.ps_push];rfl
theorem close_moved:(l.push .close).ps.moved=l.ps.moved:=by rw [LS.ps_push];rfl
theorem opn_off:(l.push .opn).ps.off=l.ps.off:=by rw [LS.ps_push];rfl
theorem opn_shut:(l.push .opn).ps.closed=false:=by rw [LS.ps_push];rfl
theorem opn_cuts:(l.push .opn).ps.cuts=l.ps.cuts:=by rw [LS.ps_push];rfl
theorem opn_turned:(l.push .opn).ps.turned=l.ps.turned:=by rw [LS.ps_push];rfl
theorem opn_moved:(l.push .opn).ps.moved=l.ps.moved:=by rw [LS.ps_push];rfl
theorem cut_off (c:l.ps.closed=true):(l.push (.cut a)).ps.off=l.ps.off:=by rw [LS.ps_push];show (if l.ps.closed then l.ps.off else _)=_;rw [c];rfl
theorem cut_shut:(l.push (.cut a)).ps.closed=l.ps.closed:=by rw [LS.ps_push];rfl
theorem cut_cuts:(l.push (.cut a)).ps.cuts=l.ps.cuts++[(l.ps.closing,l.ps.groove)]:=by rw [LS.ps_push];rfl
theorem cut_moved:(l.push (.cut a)).ps.moved=l.ps.moved:=by rw [LS.ps_push];rfl
theorem push_len {d:Deed}:(l.push d).book.length=l.book.length + 1:=by unfold LS.push;rw [List.length_append];rfl
theorem turned_cut {ts:List Int} {t b:Int} (P:Pc l.ps ts) (h1:1≤b):qv (l.push (.cut (red t b))).ps.turned=qv l.ps.turned + rabs (qv (red t b)):=by
 have ha:=red_ok (t:=t) (b:=b) (by omega)
 rw [LS.ps_push]
 show qv (qadd l.ps.turned (qabs (red t b)))=_
 rw [qv_add P.t.ne (qabs_ok ha).ne,qv_abs (by have:=ha.pos;omega)]
end
theorem le_step {x y:Rat} {a b c:Int} (h1:x≤(a:Rat)) (h2:y≤(b:Rat)) (h:a + b≤c):x + y≤(c:Rat):=by
 have h3:((a + b:Int):Rat)≤(c:Rat):=by exact_mod_cast h
 rw [Rat.intCast_add] at h3
 grind
theorem le_most {x:Rat} {a:Int} (h1:x≤(a:Rat)) (h:a≤100000):x≤100000:=by
 have h3:(a:Rat)≤((100000:Int):Rat):=Rat.intCast_le_intCast.mpr h
 have e:((100000:Int):Rat)=100000:=rfl
 rw [e] at h3
 grind
theorem Pc.some {p:PS} {ts:List Int} (P:Pc p ts):p.pitch.isSome=true:=by rw [P.ep];rfl
theorem cut_groove {l:LS} {ts:List Int} {o:Int} (P:Pc l.ps ts) (h:l.ps.off=some (o,1)):(l.ps.closing,l.ps.groove)=(o,o * (ratio ts).2 % (ratio ts).1):=by
 have e:l.ps.closing=o:=by unfold PS.closing;rw [h];rfl
 unfold PS.groove
 rw [e,P.rr]
def Beside (D:Addr) (H H':Hp):Prop:=∀ b o,H b=some o→b≠D→H' b=some o
theorem Beside.tups {D:Addr} {H H':Hp} {xs:List V} (k:Beside D H H') (h:H D=some (.lst xs)):Tups H H':=fun b ys e=>k b _ e fun z=>by rw [z,h] at e;cases e
theorem LRep.beside {K:PySem.W.Frag} {mg:Str→Option Value} {H H':Hp} {a D:Addr} {l:LS} {F:Addr→Prop} {xs:List V} (R:LRep K mg H a l F) (n:¬ F D) (k:Beside D H H') (h:H D=some (.lst xs)):LRep K mg H' a l F:=R.keep (fun b o f e=>k b o e fun z=>n (z ▸ f)) (k.tups h)
end My
namespace My
open PySem L2 Mt
theorem Pc.offLe {p:PS} {ts:List Int} (h:Pc p ts) {o:Q2} (ho:p.off=Option.some o):-(2000100000 * o.2)≤o.1∧o.1≤2000100000 * o.2:=by
 have h1:=h.offBd ho
 have o2:0<o.2:=by have:=(h.o o ho).pos;omega
 rw [← qv_abs o2] at h1
 have h2:=(qv_le (a:=qabs o) (m:=2000100000) o2).mp h1
 have h3:(qabs o).1=(o.1.natAbs:Int):=by unfold qabs;dsimp only;split <;> omega
 have h4:(qabs o).2=o.2:=rfl
 rw [h3,h4] at h2
 omega
theorem Pc.safeBd {p:PS} {ts:List Int} (h:Pc p ts) {o:Q2} (ho:p.off=Option.some o):Bd 64 (0 + (o.1 - 0 * o.2) / ((ratio ts).1 * o.2) * (ratio ts).1):=by
 have ⟨h1,h2⟩:=h.offLe ho
 have o2:0<o.2:=by have:=(h.o o ho).pos;omega
 have p1:=h.tr.pl.p1
 have p2:=h.tr.pl.p2
 have fl:=floor_le (o.1 - 0 * o.2) (Int.mul_pos (show 0<(ratio ts).1 by omega) o2)
 rw [Int.zero_mul,Int.sub_zero] at fl ⊢
 generalize o.1 / ((ratio ts).1 * o.2)=q at fl ⊢
 have e1:q * ((ratio ts).1 * o.2)=(q * (ratio ts).1) * o.2:=by grind
 have e2:(q + 1) * ((ratio ts).1 * o.2)=(q * (ratio ts).1 + (ratio ts).1) * o.2:=by grind
 rw [e1,e2] at fl
 have u1:q * (ratio ts).1≤2000100000:=by
  have:(q * (ratio ts).1) * o.2≤2000100000 * o.2:=by omega
  exact Int.le_of_mul_le_mul_right this o2
 have u2:-2000100000≤q * (ratio ts).1 + (ratio ts).1:=by
  have:-2000100000 * o.2≤(q * (ratio ts).1 + (ratio ts).1) * o.2:=by rw [Int.neg_mul];omega
  exact Int.le_of_mul_le_mul_right this o2
 unfold Bd
 have:(2:Nat) ^ 64=18446744073709551616:=by decide
 omega
theorem Pc.ahead_of {p:PS} {ts:List Int} (h:Pc p ts) {o:Q2} (ho:p.off=Option.some o) {k X Y:Int} (k1:k % (ratio ts).1=0) (k2:k * o.2≤o.1) (k3:o.1<(k + (ratio ts).1) * o.2) (y1:1≤Y) (co:Int.gcd X Y=1) (e:X * (o.2 * (ratio ts).1)=(o.1 - k * o.2) * (ratio ts).2 * Y):p.ahead=(X,Y)∧0≤p.ahead.1:=by
 have o2:0<o.2:=by have:=(h.o o ho).pos;omega
 have p1:=h.tr.pl.p1
 have q1:=h.tr.pl.q1
 have d:0<o.2 * (ratio ts).1:=Int.mul_pos o2 (by omega)
 obtain ⟨j,rfl⟩:=Int.dvd_of_emod_eq_zero k1
 have er:o.1 % (o.2 * (ratio ts).1)=o.1 - (ratio ts).1 * j * o.2:=by
  have e1:o.1=(o.1 - (ratio ts).1 * j * o.2) + (o.2 * (ratio ts).1) * j:=by grind
  conv=>lhs;rw [e1]
  rw [Int.add_mul_emod_self_left]
  refine Int.emod_eq_of_lt (by omega) ?_
  have e2:((ratio ts).1 * j + (ratio ts).1) * o.2=(ratio ts).1 * j * o.2 + o.2 * (ratio ts).1:=by grind
  omega
 have ea:p.ahead=red ((o.1 - (ratio ts).1 * j * o.2) * (ratio ts).2) (o.2 * (ratio ts).1):=by
  unfold PS.ahead
  rw [ho]
  show red (o.1 % (o.2 * p.r.1) * p.r.2) (o.2 * p.r.1)=_
  rw [h.rr,er]
 have ok:Ok2 (X,Y):=⟨y1,co⟩
 have eq:p.ahead=(X,Y):=by
  rw [ea]
  refine qv_inj (red_ok (by omega)) ok ?_
  rw [qv_red (by omega)]
  have n1:((o.2 * (ratio ts).1:Int):Rat)≠0:=by exact_mod_cast (show o.2 * (ratio ts).1≠0 by omega)
  have n2:((Y:Int):Rat)≠0:=by exact_mod_cast (show Y≠0 by omega)
  have e':(X:Rat) * ((o.2 * (ratio ts).1:Int):Rat)=(((o.1 - (ratio ts).1 * j * o.2) * (ratio ts).2:Int):Rat) * (Y:Rat):=by exact_mod_cast e
  unfold qv
  dsimp only
  grind
 refine ⟨eq,?_⟩
 rw [eq]
 show 0≤X
 rcases Int.lt_or_le X 0 with z | z
 ·have h1:X * (o.2 * (ratio ts).1)<0:=Int.mul_neg_of_neg_of_pos z d
  have h2:0≤(o.1 - (ratio ts).1 * j * o.2) * (ratio ts).2 * Y:=Int.mul_nonneg (Int.mul_nonneg (by omega) (by omega)) (by omega)
  omega
 ·exact z
theorem Pc.aheadBd {p:PS} {ts:List Int} (h:Pc p ts):rabs (qv p.ahead)≤((20000:Int):Rat):=by
 cases ho:p.off with
 | none =>
  have e:p.ahead=(0,1):=by unfold PS.ahead;rw [ho]
  rw [e,qv_zero]
  exact_mod_cast (show rabs 0≤20000 by unfold rabs;decide)
 | some o =>
  have o2:0<o.2:=by have:=(h.o o ho).pos;omega
  have p1:=h.tr.pl.p1
  have q1:=h.tr.pl.q1
  have q2:=h.tr.pl.q2
  have d:0<o.2 * (ratio ts).1:=Int.mul_pos o2 (by omega)
  have ea:p.ahead=red (o.1 % (o.2 * (ratio ts).1) * (ratio ts).2) (o.2 * (ratio ts).1):=by
   unfold PS.ahead
   rw [ho]
   show red (o.1 % (o.2 * p.r.1) * p.r.2) (o.2 * p.r.1)=_
   rw [h.rr]
  have r0:=Int.emod_nonneg o.1 (show o.2 * (ratio ts).1≠0 by omega)
  have r1:=Int.emod_lt_of_pos o.1 d
  rw [ea,← qv_pair (by omega),← qv_abs d]
  refine (qv_le (a:=qabs (o.1 % (o.2 * (ratio ts).1) * (ratio ts).2,o.2 * (ratio ts).1)) (m:=20000) d).mpr ?_
  have n0:0≤o.1 % (o.2 * (ratio ts).1) * (ratio ts).2:=Int.mul_nonneg r0 (by omega)
  have e1:(qabs (o.1 % (o.2 * (ratio ts).1) * (ratio ts).2,o.2 * (ratio ts).1)).1=o.1 % (o.2 * (ratio ts).1) * (ratio ts).2:=by unfold qabs;dsimp only;rw [if_neg (by omega)]
  rw [e1]
  show o.1 % (o.2 * (ratio ts).1) * (ratio ts).2≤20000 * (o.2 * (ratio ts).1)
  have h1:=Int.mul_le_mul_of_nonneg_left q2 r0
  have h2:=Int.mul_le_mul_of_nonneg_right (show o.1 % (o.2 * (ratio ts).1)≤o.2 * (ratio ts).1 by omega) (show (0:Int)≤20000 by decide)
  omega
theorem Pc.waitN {p:PS} {ts:List Int} (h:Pc p ts):(Bd 1700 p.ahead.1∧Bd 1700 p.ahead.2)∧(Bd 1700 (qadd p.turned (qabs p.ahead)).1∧Bd 1700 (qadd p.turned (qabs p.ahead)).2):=by
 have a:=ahead_is h
 have w:=ahead_wh h
 have qa:=qabs_ok a.1
 have pa:0<p.ahead.2:=by have:=a.1.pos;omega
 refine ⟨sizes a.1 w.1 h.tr.D1.1 h.tr.D1.2 (by decide) (by unfold Bd;decide) h.aheadBd,sizes (m:=120000) (qadd_ok h.t.ne qa.ne) ?_ h.tr.D1.1 h.tr.D1.2 (by decide) (by unfold Bd;decide) ?_⟩
 ·rw [qv_add h.t.ne qa.ne,qv_abs pa,Rat.add_mul]
  refine h.dt.add ?_
  unfold rabs
  split
  ·have:=w.1.neg
   rw [← Rat.neg_mul] at this
   exact this
  ·exact w.1
 ·rw [qv_add h.t.ne qa.ne,qv_abs pa]
  have h1:=rabs_add (qv p.turned) (rabs (qv p.ahead))
  have e1:rabs (qv p.turned)=qv p.turned:=by unfold rabs;rw [if_neg (Rat.not_lt.mpr h.t0)]
  have e2:rabs (rabs (qv p.ahead))=rabs (qv p.ahead):=by rw [show rabs (rabs (qv p.ahead))=if rabs (qv p.ahead)<0 then -(rabs (qv p.ahead)) else rabs (qv p.ahead) from rfl,if_neg (Rat.not_lt.mpr (rabs_nn _))]
  rw [e1,e2] at h1
  have h2:qv p.turned≤((100000:Int):Rat):=h.t1
  exact Rat.le_trans h1 (le_step h2 h.aheadBd (by decide))
def Booked (K:PySem.W.Frag) (H:Hp) (ds:List Deed) (rs:List Addr):Prop:=Paired (fun r d=>∃ wv,H r=some (.tup [.str (Deed.word d),wv])∧WhatA K H wv d) rs ds
theorem Booked.tups {K:PySem.W.Frag} {H H':Hp} (s:Tups H H'):∀ {ds:List Deed} {rs:List Addr},Booked K H ds rs→Booked K H' ds rs
 | _,_,.nil=>.nil
 | _,_,.cons ⟨wv,h1,h2⟩ t=>.cons ⟨wv,s _ _ h1,h2.tups s⟩ (Booked.tups s t)
abbrev tellBook (K:PySem.W.Frag):LS→(Addr→Prop)→Hp→Hp→V→Prop:=fun l F' H H' v=>∃ D,v = .ref D∧H D=none∧¬ F' D∧∃ rs,H' D=some (.lst (rs.map V.ref))∧Booked K H' l.book rs
def sF (t pi w pl:V) (c:Bool) (o cu tu mo:V):List (Key × V):=[(.inr "train",t),(.inr "pitch",pi),(.inr "work",w),(.inr "place",pl),(.inr "closed",.bl c),(.inr "off",o),(.inr "cuts",cu),(.inr "turned",tu),(.inr "moved",mo)]
section
variable {t pi w pl o cu tu mo v:V} {c b:Bool}
end
structure SRepA (K:PySem.W.Frag) (N:Addr→Prop) (H:Hp) (s:Addr) (p:PS) (t:Addr) (pi:V) (w pl:Addr) (o:V) (cu tu mo:Addr):Prop where
 ob:H s=some (.dK (sF (.ref t) pi (.ref w) (.ref pl) p.closed o (.ref cu) (.ref tu) (.ref mo)))
 ns:N s
 nc:N cu
 tr:TupK K H t (p.train.map V.int)
 pi':FrO K H pi p.pitch
 wo:FrA K H w p.work
 pl':FrA K H pl p.place
 of':FrO K H o p.off
 cu':TL H cu (rowsOf p.cuts)
 tu':FrA K H tu p.turned
 mo':FrA K H mo p.moved
def SRep (K:PySem.W.Frag) (N:Addr→Prop) (H:Hp) (s:Addr) (p:PS):Prop:=∃ t pi w pl o cu tu mo,SRepA K N H s p t pi w pl o cu tu mo
def NewOk (N:Addr→Prop) (H:Hp):Prop:=∀ b,H b=none→N b
theorem LRep.newOk {K:PySem.W.Frag} {mg:Str→Option Value} {H:Hp} {a:Addr} {l:LS} {F:Addr→Prop} (R:LRep K mg H a l F):NewOk (fun b=>¬ F b) H:=fun b h f=>by obtain ⟨o,e⟩:=R.at_ f;rw [h] at e;cases e
def ReqV (K:PySem.W.Frag) (H:Hp) (v:V):Req→Prop
 | .mount ts=>∃ t,v = .ref t∧(H t=some (.lst (ts.map V.int))∨TupK K H t (ts.map V.int))∧ts.length≤1000∧∀ v∈ts,Bd 200 v
 | .turn x y=>∃ t,v = .ref t∧FrA K H t (x,y)∧Bd 200 x∧Bd 200 y
 | .move x y=>∃ t,v = .ref t∧FrA K H t (x,y)∧Bd 200 x∧Bd 200 y
 | .cut x y=>∃ t,v = .ref t∧FrA K H t (x,y)∧Bd 200 x∧Bd 200 y
 | .wait=>v = .non
 | .close=>v = .non
 | .opn=>v = .non
theorem ReqV.same {K:PySem.W.Frag} {H H':Hp} {v:V} {q:Req} (h:ReqV K H v q) (s:Same H H'):ReqV K H' v q:=by
 cases q with
 | mount ts=>obtain ⟨t,e,h,h2⟩:=h;exact ⟨t,e,h.elim (fun h=>.inl (s _ _ h)) (fun h=>.inr (h.mono s)),h2⟩
 | turn x y=>obtain ⟨t,e,h,h2⟩:=h;exact ⟨t,e,h.mono s,h2⟩
 | move x y=>obtain ⟨t,e,h,h2⟩:=h;exact ⟨t,e,h.mono s,h2⟩
 | cut x y=>obtain ⟨t,e,h,h2⟩:=h;exact ⟨t,e,h.mono s,h2⟩
 | wait=>exact h
 | close=>exact h
 | opn=>exact h
def Req.word (q:Req):Str:=Deed.word q.deed
def MayOk (K:PySem.W.Frag) (H:Hp) (v d:V):Prop:=(v = .non∧d = .non)∨∃ (a b:Addr) (ws:List Int),v = .ref a∧d = .ref b∧TupK K H a (ws.map V.int)∧TupK K H b (ws.map V.int)∧ws.length≤1000
def RowsOk (K:PySem.W.Frag) (H:Hp) (D E:Addr):Prop:=∃ xs ys:List V,H D=some (.lst xs)∧H E=some (.lst ys)∧xs.length=ys.length∧ys.length≤1000∧∀ (i:Nat) x y,xs[i]? = some x→ys[i]? = some y→MayOk K H x y
theorem tl_may {K:PySem.W.Frag} {H:Hp} {D E:Addr} {rows:List (List Int)} (h1:TL H D rows) (h2:TL H E rows) (hl:rows.length≤1000) (hr:∀ t∈rows,t.length≤1000):RowsOk K H D E:=by
 obtain ⟨rs,e1,p1⟩:=h1
 obtain ⟨us,e2,p2⟩:=h2
 have l1:=Paired.length p1
 have l2:=Paired.length p2
 refine ⟨_,_,e1,e2,by rw [List.length_map,List.length_map,l1,l2],by rw [List.length_map,l2];exact hl,fun i x y hx hy=>?_⟩
 obtain ⟨r1,t1,rfl,g1,k1⟩:=tl_at p1 hx
 obtain ⟨r2,t2,rfl,g2,k2⟩:=tl_at p2 hy
 have et:t2=t1:=by rw [g1] at g2;exact (Option.some.inj g2).symm
 subst et
 exact .inr ⟨r1,r2,t2,rfl,rfl,.inl k1,.inl k2,hr t2 (List.mem_of_getElem? g1)⟩
end My
namespace L2
open PySem PySem.Spec PyProof.Rows
end L2
namespace My
open PySem L2 Mt
def spanV (f:Int) (n:Nat):List V:=(List.range n).map fun (i:Nat)=>V.int (f + i * 1)
structure QtB (l:LS):Prop where
 tu:qv l.ps.turned≤((80000 + 200 * (l.book.length:Int):Int):Rat)
 mo:qv l.ps.moved≤((200 * (l.book.length:Int):Int):Rat)
inductive Qt:LS→Prop where
 | new {ws:List Int} {n:Int} (g:GoodShop ws n):Qt ⟨ws,n,[]⟩
 | step {l:LS} {q:Req} (h:Qt l) (d:due l q=none) (b:QtB (l.push q.deed)):Qt (l.push q.deed)
section
variable {l:LS} {ts:List Int}
end
def ShopO (F:Addr→Prop) (H:Hp) (W:Addr) (ws:List Int):Prop:=(H W=some (.lst (ws.map V.int))∨H W=some (.tup (ws.map V.int)))∧¬ F W
theorem ShopO.fit {F F':Addr→Prop} {H H':Hp} {W:Addr} {ws:List Int} (h:ShopO F H W ws) (f:Fit F F' H H'):ShopO F' H' W ws:=by
 obtain ⟨h | h,n⟩:=h
 ·exact ⟨.inl (f.keep _ _ h n),f.out h n⟩
 ·exact ⟨.inr (f.keep _ _ h n),f.out h n⟩
theorem ShopO.same {F:Addr→Prop} {H H':Hp} {W:Addr} {ws:List Int} (h:ShopO F H W ws) (s:Same H H'):ShopO F H' W ws:=⟨h.1.elim (fun h=>.inl (s _ _ h)) (fun h=>.inr (s _ _ h)),h.2⟩
theorem ShopO.sq {K:PySem.W.Frag} {F:Addr→Prop} {H:Hp} {W:Addr} {ws:List Int} (h:ShopO F H W ws):SqA K H W (ws.map V.int):=h.1.elim (fun h=>.inl (SqL.of h)) (fun h=>.inr (SqT.of h))
theorem beside1 {H:Hp} {D:Addr} (o':HO):Beside D H (upd H D o'):=fun _ _ e n=>(upd_ne n).trans e
def ReqT (K:PySem.W.Frag) (H:Hp) (v:V):Req→Prop
 | .mount ts=>∃ t,v = .ref t∧TupK K H t (ts.map V.int)∧ts.length≤1000∧∀ v∈ts,Bd 200 v
 | .turn x y=>∃ t,v = .ref t∧FrA K H t (x,y)∧Bd 200 x∧Bd 200 y
 | .move x y=>∃ t,v = .ref t∧FrA K H t (x,y)∧Bd 200 x∧Bd 200 y
 | .cut x y=>∃ t,v = .ref t∧FrA K H t (x,y)∧Bd 200 x∧Bd 200 y
 | .wait=>v = .non
 | .close=>v = .non
 | .opn=>v = .non
end My
namespace My
open PySem L2 Mt
section
variable {K:PySem.W.Frag} {N:Addr→Prop} {G:Hp} {s:Addr} {p:PS} {t:Addr} {pi:V} {w pl:Addr} {o:V} {cu tu mo:Addr}
end
end My
namespace My
open PySem L2 Mt
section
variable {i o w p v:Int}
end
section
variable {r:Q2} {x t b:Int}
end
end My
namespace PySem
namespace F
theorem tyCallKw (a v:Value):checkTypeCall "enumerate" ⟨[a],[("start",v)]⟩=pure ():=by kernel_rfl
theorem nwCallKw (a v:Value):checkBuiltinCall "enumerate.__new__" ⟨[.type "enumerate",a],[("start",v)]⟩=pure ():=by kernel_rfl
end F
section
variable {P:Program} {w:World} {A:Around} {E:Value→Shared→Prop} {s:Shared}
theorem ct_weight (T:String) (xs:List Value) (kw:List (Str × Value)):(Code.builtin "type.__call__" ⟨.type T::xs,kw⟩).weight=0:=rfl
theorem ct_units (T:String) (xs:List Value) (kw:List (Str × Value)):(Code.builtin "type.__call__" ⟨.type T::xs,kw⟩).cUnits=1:=rfl
theorem ct_kw {T nw it:String} {B1 B2:Builtin} {xs:List Value} {kw:List (Str × Value)} {S1:Spec} {Q Q1:Value→Shared→Prop} (ft:TypeCalled T nw it) (c1:checkTypeCall T ⟨xs,kw⟩=pure ()) (c2:checkBuiltinCall nw ⟨.type T::xs,kw⟩=pure ())
  (e1:entryFor table nw=some B1) (e2:entryFor table it=some B2) (g1:Meets (B1 ⟨.type T::xs,kw⟩) S1) (h:S1 A.in1 (wants Q1 E) s)
  (nx:∀ o s1,Q1 o s1→s1.TypeIs o T∧argsOk it ⟨o::xs,kw⟩∧∃ S2,Meets (B2 ⟨o::xs,kw⟩) S2∧S2 A.in1 (wants (fun r s2=>r = .none∧Q o s2) E) s1):wpAny (model P w) A (call (.type T) xs kw) Q E s:=by
 have hmade:=ft.made
 have hsub:=ft.sub
 have n1:=ft.notType
 have n2:=ft.canCreate
 obtain ⟨c0,cs0,hmro⟩:=ft.mro
 refine wpAny_call (codeAny_of_tree ?_);show wpAny _ _ (callAny (Value.type T) _) _ _ _
 refine wpAny_pure ⟨Code.quiet_builtin _ (by decide +kernel),codeAny_builtin F.entry_type_call (?_:_)⟩
 rw [Around.under_plain (ct_weight T xs kw) (ct_units T xs kw)]
 repeat (any_goals (first | assumption | wp_step | fail))
 refine codeAny_mono (codeAny_call_builtin ft.plain e1 (wpAny_of_eq c2 (g1 P w A.in1 _ s h))) fun r s1 hr=>?_
 cases r with
 | error e=>exact hr
 | ok f1 =>
  cases f1 with
  | ret o =>
   obtain ⟨hT,ok,S2,g2,h2⟩:=nx _ _ hr
   have li:=ft.init.lookup
   have bi:=ft.init.bind o
   repeat (any_goals (first | assumption | wp_step | fail))
   refine codeAny_mono (codeAny_call_builtin ft.init.plain e2 (ft.init.check _ _ _ _ _ _ _ _ hT ok (g2 P w A.in1 _ s1 h2))) fun r2 s2 hr2=>?_
   cases r2 with
   | error e=>exact hr2
   | ok f2 =>
    cases f2 with
    | ret r =>
     obtain ⟨rfl,hq⟩:=hr2
     repeat (any_goals (first | assumption | wp_step | fail))
    | _=>exact hr2.elim
  | _=>exact hr.elim
theorem obj_init_kw {T nw:String} {o:Value} {xs:List Value} {k:Str} {v:Value} (hl:typeLookup (.type T) "__init__" = pure (some (.builtin "object.__init__"))) (hm:Bind.madeBy (.type T)=pure (some nw)) (hne:(some nw != some "object.__new__")=true) :
  Meets (Builtin.«object.__init__» ⟨o::xs,[(k,v)]⟩) (fun _ R s=>s.TypeIs o T∧R (.ok (.ret .none)) s):=by
 refine Meets.of_wp fun prog w A R s ⟨hT,hq⟩=>?_
 repeat (any_goals (first | assumption | wp_step | fail))
 exact ⟨_,rfl,hq⟩
theorem en_new (l:Addr) (its:Array Value) (n:Nat) (dc:Option Addr) (sl:Array (Option Value)) (t:Tok) :
  Meets (Builtin.«enumerate.__new__» ⟨[.type "enumerate",.ref l],[("start",.int 1 t)]⟩) (fun _ R s=>s.heap.get? l=some ⟨.type "list",dc,.seq its n,sl⟩ ∧
   R (.ok (.ret (.ref (s.heap.push { cls:=.type "list_iterator",data:=.fields #[.ref l,.int 0 0] }).objs.size))) { s with heap:=(s.heap.push { cls:=.type "list_iterator",data:=.fields #[.ref l,.int 0 0] }).push { cls:=.type "enumerate",data:=.fields #[.none,.bool false,.ref s.heap.objs.size,rawInt 1,.none,.none] } }):=by
 refine .of_wp fun prog w A R ⟨hp,g,d,tk,os⟩ h=>?_
 obtain ⟨hl,h⟩:=h
 have hsub:=sub_enumerate
 have hL:Heap.IsList (Shared.heap ⟨hp,g,d,tk,os⟩) l its:=⟨_,hl,rfl,n,rfl⟩
 wp_walk using (AutoSeq1.wpAny_loadPart' hl)
 refine wpAny_stack_any fun stk=>wpAny_pure ?_
 split
 ·rename_i c _ _ _ _ _
  cases (c == (Value.type "enumerate":Value))
  ·wp_walk using (AutoSeq1.wpAny_loadPart' hl),(wpAny_pyIter_list hL)
   exact ⟨_,rfl,h⟩
  ·wp_walk using (AutoSeq1.wpAny_loadPart' hl),(wpAny_pyIter_list hL)
   exact ⟨_,rfl,h⟩
 ·wp_walk using (AutoSeq1.wpAny_loadPart' hl),(wpAny_pyIter_list hL)
  exact ⟨_,rfl,h⟩
theorem en_call {l:Addr} {its:Array Value} {t:Tok} {Q:Value→Shared→Prop} (hL:s.heap.IsList l its)
  (h:∀ g,IsEnum g (s.heap.objs.size + 1) s.heap.objs.size 1 .none→g.IsListIter s.heap.objs.size l 0→(∀ b o,s.heap.get? b=some o→g.get? b=some o)→Q (.ref (s.heap.objs.size + 1)) { s with heap:=g }) :
  wpAny (model P w) A (call (.type "enumerate") [.ref l] [("start",.int 1 t)]) Q E s:=by
 obtain ⟨⟨c,dc,dt,sl⟩,hl,hc,n,hd⟩:=hL
 cases (show c = .type "list" from hc)
 cases (show dt = .seq its n from hd)
 have hz:(s.heap.push { cls:=.type "list_iterator",data:=.fields #[.ref l,.int 0 0] }).objs.size=s.heap.objs.size + 1:=by rw [Heap.size_push]
 have hE:IsEnum ((s.heap.push { cls:=.type "list_iterator",data:=.fields #[.ref l,.int 0 0] }).push { cls:=.type "enumerate",data:=.fields #[.none,.bool false,.ref s.heap.objs.size,rawInt 1,.none,.none] }) (s.heap.objs.size + 1) s.heap.objs.size 1 .none:=by
  have q:=Heap.get?_push_size (s.heap.push { cls:=.type "list_iterator",data:=.fields #[.ref l,.int 0 0] }) (o:={ cls:=.type "enumerate",data:=.fields #[.none,.bool false,.ref s.heap.objs.size,rawInt 1,.none,.none] }) rfl
  rw [hz] at q
  exact q
 refine ct_kw (Q1:=fun o s1=>s1.TypeIs o "enumerate"∧Q o s1) F.called_enumerate (F.tyCallKw _ _) (F.nwCallKw _ _) F.entry_enumerate_new F.entry_object_init (en_new l its n dc sl t) ⟨hl,?_⟩ fun o s1 hq=>⟨hq.1,?_,_,obj_init_kw F.called_enumerate.init.lookup F.called_enumerate.made (by decide),hq.1,rfl,hq.2⟩
 ·show _∧_
  rw [hz]
  exact ⟨⟨_,hE,rfl⟩,h _ hE ⟨_,Heap.get?_push_of_some _ (Heap.get?_push_size _ rfl),rfl,rfl⟩ fun b o x=>Heap.get?_push_of_some _ (Heap.get?_push_of_some _ x)⟩
 ·unfold argsOk
  have sg:=signature?_of (id:="object.__init__") (n:="__tini__".toList) (o:="tcejbo".toList) (by kernel_rfl) F.owner_object
  rw [sg]
  kernel_rfl
theorem en_next {e it l:Addr} {i:Nat} {j:Int} {its:Array Value} {x old:Value} {Q:Option Value→Shared→Prop} (hE:IsEnum s.heap e it j old) (hI:s.heap.IsListIter it l i) (hL:s.heap.IsList l its) (hx:its[i]? = some x) (ne:e≠it)
  (hQ:∀ g,IsEnumOut g e it (j + 1) x s.heap.objs.size→g.IsListIter it l (i + 1)→g.get? s.heap.objs.size=some { cls:=.type "tuple",data:=.seq #[.int j s.toks,x] }→(∀ b o,b≠e→b≠it→s.heap.get? b=some o→g.get? b=some o)→g.objs.size=s.heap.objs.size + 1→Q (some (.ref s.heap.objs.size)) { s with heap:=g,toks:=s.toks + 1 }) :
  wpAny (model P w) A (pyNext (.ref e)) Q E s:=by
 have tE:s.TypeIs (.ref e) "enumerate":=⟨_,hE,rfl⟩
 unfold pyNext
 refine wpAny_bind (wpAny_attempt (wpAny_callSpecial?_slot (name:=Str.ofString "__next__") tE F.slot_enumerate_next (wpAny_call_entry F.slot_enumerate_next tE F.entry_enumerate_next ?_ (F.args_enumerate_next_1 _))))
 obtain ⟨hp,g0,d,tk,os⟩:=s
 show wpAny _ _ (field (Value.ref e) 2 >>= _) _ _ _
 refine wpAny_bind (wpAny_field hE rfl (x:=.ref it) rfl (wpAny_bind (wpAny_nextOf_list_item hI hL hx fun g1 i1 b1=>?_)))
 have b1:Heap.SameBut it hp g1:=b1
 have E1:IsEnum g1 e it j old:=(b1.2 e ne).trans hE
 show wpAny _ _ (field (.ref e) 3 >>= _) _ _ ⟨g1,g0,d,tk,os⟩
 refine wpAny_bind (wpAny_field E1 rfl (x:=rawInt j) rfl ?_)
 show wpAny _ _ (field (.ref e) 4 >>= _) _ _ ⟨g1,g0,d,tk,os⟩
 refine wpAny_bind (wpAny_field E1 rfl (x:=.none) rfl ?_)
 show wpAny _ _ (mkInt j >>= _) _ _ ⟨g1,g0,d,tk,os⟩
 refine wpAny_bind (wpAny_mkInt ?_);show wpAny _ _ (setField (.ref e) 3 (rawInt (j + 1)) >>= _) _ _ ⟨g1,g0,d,tk + 1,os⟩
 refine wpAny_bind (wpAny_setField_rec E1 (by simp) fun g2 E2 b2=>?_)
 have b2:Heap.SameBut e g1 g2:=b2
 have E2:IsEnum g2 e it (j + 1) old:=E2
 show wpAny _ _ (setField (.ref e) 4 .none >>= _) _ _ ⟨g2,g0,d,tk + 1,os⟩
 refine wpAny_bind (wpAny_setField_rec E2 (by simp) fun g3 E3 b3=>?_)
 have b3:Heap.SameBut e g2 g3:=b3
 have E3:IsEnum g3 e it (j + 1) old:=E3
 show wpAny _ _ (newTuple [.int j tk,x] >>= _) _ _ ⟨g3,g0,d,tk + 1,os⟩
 refine wpAny_bind (wpAny_newTuple (?_:_))
 have E4:IsEnum (g3.push { cls:=.type "tuple",data:=.seq #[.int j tk,x] }) e it (j + 1) old:=Heap.get?_push_of_some _ E3
 generalize hg:g3.push { cls:=.type "tuple",data:=.seq #[.int j tk,x] } = g4 at E4
 have z3:g3.objs.size=hp.objs.size:=by rw [b3.1,b2.1,b1.1]
 have le:e<hp.objs.size:=Heap.lt_size hE
 have t4:g4.get? hp.objs.size=some { cls:=.type "tuple",data:=.seq #[.int j tk,x] }:=by
  rw [← hg,← z3]
  exact Heap.get?_push_size _ rfl
 have z4:g4.objs.size=hp.objs.size + 1:=by rw [← hg,Heap.size_push,z3]
 have k4:∀ b o,b≠e→b≠it→hp.get? b=some o→g4.get? b=some o:=fun b o n1 n2 q=>by
  rw [← hg]
  exact Heap.get?_push_of_some _ (b3.extBut b o n1 (b2.extBut b o n1 (b1.extBut b o n2 q)))
 have i4:g4.IsListIter it l (i + 1):=by
  rw [← hg]
  obtain ⟨o,q,r⟩:=(i1.extBut b2.extBut (Ne.symm ne)).extBut b3.extBut (Ne.symm ne)
  exact ⟨o,Heap.get?_push_of_some _ q,r⟩
 show wpAny _ _ (Builtin.SmallTypes.ownedTupleIsFree (.ref e) >>= _) _ _ ⟨g4,g0,d,tk + 1,os⟩
 rw [z3]
 refine wpAny_bind ?_;unfold Builtin.SmallTypes.ownedTupleIsFree
 refine wpAny_bind (wpAny_field E4 rfl (x:=.none) rfl (wpAny_pure ?_))
 simp only [if_true]
 refine wpAny_bind (wpAny_rule (wpAny_bind (wpAny_field E4 rfl (x:=old) rfl (wpAny_bind (wpAny_setField_rec E4 (by simp) fun g5 E5 b5=>?_)))))
 have b5:Heap.SameBut e g4 g5:=b5
 have E5:IsEnum g5 e it (j + 1) x:=E5
 show wpAny _ _ (Builtin.SmallTypes.ownedTupleHandOut (.ref e) (.ref hp.objs.size) >>= _) _ _ ⟨g5,g0,d,tk + 1,os⟩
 refine wpAny_bind ?_;unfold Builtin.SmallTypes.ownedTupleHandOut
 refine wpAny_bind (wpAny_setField_rec E5 (by simp) fun g6 E6 b6=>?_)
 have b6:Heap.SameBut e g5 g6:=b6
 have E6:IsEnumOut g6 e it (j + 1) x hp.objs.size:=E6
 refine wpAny_setField_rec E6 (by simp) fun g7 E7 b7=>?_
 have b7:Heap.SameBut e g6 g7:=b7
 have E7:IsEnumOut g7 e it (j + 1) x hp.objs.size:=E7
 have nt:hp.objs.size≠e:=Nat.ne_of_gt le
 have all:∀ b o,b≠e→g4.get? b=some o→g7.get? b=some o:=fun b o n q=>b7.extBut b o n (b6.extBut b o n (b5.extBut b o n q))
 refine wpAny_bind (wpAny_letGo (wpAny_pure ⟨_,rfl,wpAny_pure (hQ g7 E7 ?_ (all _ _ nt t4) (fun b o n1 n2 q=>all b o n1 (k4 b o n1 n2 q)) ?_)⟩))
 ·exact i4.at fun o q=>all it o (Ne.symm ne) q
 ·show g7.objs.size=hp.objs.size + 1
  rw [b7.1,b6.1,b5.1,z4]
theorem en_end {e it l:Addr} {i:Nat} {j:Int} {its:Array Value} {old:Value} {Q:Option Value→Shared→Prop} (hh:A.handled=none) (hE:IsEnum s.heap e it j old) (hI:s.heap.IsListIter it l i) (hL:s.heap.IsList l its) (hx:its[i]? = none)
  (hQ:∀ g,Heap.ExtBut it s.heap g→Q none { s with heap:=g }):wpAny (model P w) A (pyNext (.ref e)) Q E s:=by
 have tE:s.TypeIs (.ref e) "enumerate":=⟨_,hE,rfl⟩
 unfold pyNext
 refine wpAny_bind (wpAny_attempt (wpAny_callSpecial?_slot (name:=Str.ofString "__next__") tE F.slot_enumerate_next (wpAny_call_entry F.slot_enumerate_next tE F.entry_enumerate_next ?_ (F.args_enumerate_next_1 _))))
 show wpAny _ _ (field (Value.ref e) 2 >>= _) _ _ _
 refine wpAny_bind (wpAny_field hE rfl (x:=.ref it) rfl (wpAny_bind (wpAny_nextOf_list_end hh hI hL hx fun g x q k=>?_)))
 obtain ⟨o,ho,hc⟩:=k
 exact wpAny_bind (wpAny_isInstance (T:="StopIteration") (b:=true) ⟨o,ho,hc⟩ isSubtype_stop (wpAny_pure (hQ _ q)))
end
end PySem
namespace L2
open PySem PySem.Spec PyProof.Rows
def Ite (K:PySem.W.Frag) (a:Addr):It :=
 ⟨fun i H=>∃ xs x,SqL K H a xs∧xs[i]? = some x,fun i H x H'=>∃ t v,x = .ref t∧H t=none∧H'=upd H t (.tup [.int (1 + (i:Int)),v])∧∀ xs,SqL K H a xs→xs[i]? = some v,fun i H=>∃ xs,SqL K H a xs∧xs.length≤i⟩
theorem Inv.turned2 {X:Cx} {pins:List (Addr × Obj)} {σ:List (Option V)} {H:Hp} {s:Shared} {h':Heap} {t':Nat} {e it:Addr} (I:Inv X pins σ H s) (k:∀ b o,b≠e→b≠it→s.heap.get? b=some o→h'.get? b=some o) (f:∀ b,b=e∨b=it→H b=none∧b≠X.env.locals∧(b∈X.ex∨X.s₀.heap.objs.size≤b)∧(∀ x c,X.env.cells.lookup x=some c→c≠b)∧∀ p∈X.pn++pins,p.1≠b):Inv X pins σ H { s with heap:=h',toks:=t' }:=by
 have n:∀ b u,H b=some u→b≠e∧b≠it:=fun b u q=>⟨fun z=>(by rw [z,(f e (.inl rfl)).1] at q;cases q),fun z=>(by rw [z,(f it (.inr rfl)).1] at q;cases q)⟩
 have k':∀ b o,b ∉ [e,it]→s.heap.get? b=some o→h'.get? b=some o:=fun b o hc q=>k b o (fun z=>hc (by simp [z])) (fun z=>hc (by simp [z])) q
 refine I.step (g':=s.gens) (d':=s.drawn) (ch:=[e,it]) (fun b hb=>?_) (fun b o _ _ hc q _=>k' b o hc q) (fun b o _ _ hc q _=>⟨o.slots,k' b o hc q⟩) (fun _ _ _ _ n=>n) (fun b o hc q=>⟨o,k' b o hc q⟩) (fun _ _ q=>q) (fun _ _ _ q=>q) (fun b ps q=>⟨#[],by rw [q];simp⟩) (fun m hm=>?_) (fun b u q=>?_) I.bare
 ·obtain ⟨_,a1,a2,a3,a4⟩:=f b (by simpa using hb)
  exact ⟨a2,a1,a3,a4⟩
 ·obtain ⟨o,es,ep,ho,r⟩:=hm
  exact ⟨o,es,ep,k _ o (Ne.symm (f e (.inl rfl)).2.1) (Ne.symm (f it (.inr rfl)).2.1) ho,r⟩
 ·refine (I.hok b u q).stay (fun c v hc z=>?_) (fun _ z=>z) fun _ _ z=>z
  rcases hc with y | y
  ·rw [y] at z ⊢
   exact k b v (n b u q).1 (n b u q).2 z
  ·exact k c v (n c _ y).1 (n c _ y).2 z
theorem turn_enum {P:Program} {w:World} {K:PySem.W.Frag} {es:List Expr} {k:Nat} {tp:Pos} (a it e:Addr) (ne:e≠it):Turn P w K (.Tuple es k tp) (Ite K a) [e,it] e (fun i h=>(∃ old,IsEnum h e it (1 + (i:Int)) old)∧h.IsListIter it a i) where
 mem:=by simp
 obj:=fun i h st b hb=>by
  rcases (show b=e∨b=it by simpa using hb) with z | z
  ·obtain ⟨⟨old,q⟩,_⟩:=st
   rw [z]
   exact ⟨_,q,fun v y=>by cases (show Data.fields _=Data.cell v from y)⟩
  ·obtain ⟨_,o,q,c,d⟩:=st
   rw [z]
   exact ⟨o,q,fun v y=>by rw [d] at y;cases y⟩
 keep:=fun i h h' st k=>⟨by obtain ⟨⟨old,q⟩,_⟩:=st;exact ⟨old,k e (by simp) _ q⟩,st.2.at fun o q=>k it (by simp) o q⟩
 item:=by
  intro X hP hw hK hc i pins s σ H E I hf st hg
  subst hP hw hK
  obtain ⟨xs,x,hq,hx⟩:=hg
  obtain ⟨⟨old,hE⟩,hI⟩:=st
  obtain ⟨its,rv,p,hz⟩:=I.list hq
  obtain ⟨u,hu,ru⟩:=rv.get hx
  have fe:=hf e (by simp)
  have fi:=hf it (by simp)
  refine en_next hE hI p.isList (x:=u) (by simpa using hu) ne fun g gE gI gT gk gz=>⟨_,rfl,?_⟩
  refine wpAny_letOwnedTupleGo_enum gE fun g2 gE2 gs=>?_
  have fr:H s.heap.objs.size=none:=I.hok.fresh (Nat.le_refl _)
  have te:s.heap.objs.size≠e:=Nat.ne_of_gt (Heap.lt_size hE)
  have ti:s.heap.objs.size≠it:=by
   obtain ⟨o,q,_⟩:=hI
   exact Nat.ne_of_gt (Heap.lt_size q)
  have gs:Heap.SameBut e g g2:=gs
  have ht2:g2.get? s.heap.objs.size=some { cls:=.type "tuple",data:=.seq #[.int (1 + (i:Int)) s.toks,u] }:=gs.extBut _ _ te gT
  have I1:Inv X pins σ (upd H s.heap.objs.size (.tup [.int (1 + (i:Int)),x])) { s with heap:=s.heap.push { cls:=.type "tuple",data:=.seq #[.int (1 + (i:Int)) s.toks,u] },toks:=s.toks } :=
   I.laid (fun b o q=>Heap.get?_push_of_some _ q) (Nat.le_refl _) ⟨by show 2≤sizeLine;decide,[.int (1 + (i:Int)) s.toks,u],.cons ⟨_,rfl⟩ (.cons ru .nil),⟨_,Heap.get?_push_size _ rfl,rfl,_,rfl⟩⟩
  have ff:∀ b,b=e∨b=it→FpOk X pins (upd H s.heap.objs.size (.tup [.int (1 + (i:Int)),x])) b:=fun b hb=>by
   rcases hb with rfl | rfl
   ·exact ⟨(upd_ne (Ne.symm te)).trans fe.1,fe.2⟩
   ·exact ⟨(upd_ne (Ne.symm ti)).trans fi.1,fi.2⟩
  have I2:Inv X pins σ (upd H s.heap.objs.size (.tup [.int (1 + (i:Int)),x])) { s with heap:=g2,toks:=s.toks + 1 }:=by
   have z:=Inv.turned2 (e:=e) (it:=it) (h':=g2) (t':=s.toks + 1) I1 (fun b o n1 n2 q=>by
    rcases Heap.get?_push_cases q with ⟨z,y⟩ | q
    ·rw [z,y];exact ht2
    ·exact gs.extBut _ _ n1 (gk b o n1 n2 q)) fun b hb=>⟨(ff b hb).1,(ff b hb).2.1,(ff b hb).2.2.2.1,(ff b hb).2.2.2.2.1,(ff b hb).2.2.2.2.2⟩
   exact z
  refine ⟨.ref s.heap.objs.size,_,I2,rfl,⟨_,x,rfl,fr,rfl,fun ys hy=>by rw [I.list_inj hy hq];exact hx⟩,⟨⟨u,?_⟩,?_⟩,fun b hb=>(ff b (by simpa using hb)).1⟩
  ·rw [show (1:Int) + ((i + 1:Nat):Int)=1 + (i:Int) + 1 by omega]
   exact gE2
  ·exact gI.extBut gs.extBut (Ne.symm ne)
 done:=by
  intro X hP hw hK hc i pins s σ H E I hf st hg
  subst hP hw hK
  obtain ⟨xs,hq,hx⟩:=hg
  obtain ⟨⟨old,hE⟩,hI⟩:=st
  obtain ⟨its,rv,p,hz⟩:=I.list hq
  obtain ⟨f0,f1,f2,f3,f4,f5⟩:=hf it (by simp)
  have hl:=rv.length
  exact en_end (I.ok.hd hc) hE hI p.isList (by simp;omega) fun g eb=>⟨rfl,I.turned (t':=s.toks) (fun b o hb q=>eb b o hb q) f0 f1 f3 f4 f5⟩
 self:=fun _ _ _ _ _ st h=>by
  obtain ⟨⟨old,hE⟩,_⟩:=st
  exact wpAny_pyIter_enum hE h
theorem cw_ty {M:Model} {A:Around} {E:Value→Shared→Prop} {s:Shared} {pos:Pos} {T:String} {as:List (Bool × Sem Value)} {ks:List (Option Str × Sem Value)} {Q:Value→Shared→Prop} (p1:as.any (·.1)=false) (p2:ks.any (·.1.isNone)=false)
  (h:wpAny M A (evalArgs (.type T) true as ks) (fun a s1=>wpAny M A (call (.type T) ([]++a.pos) a.kw) Q E s1) E s):wpAny M A (callWith pos (.type T) [] as ks) Q E s:=by
 unfold callWith
 refine wpAny_bind (wpAny_holding (thn h fun a s1 h1=>wpAny_bind (wpAny_standAt ?_)))
 simp only [p1,p2,Bool.or_false]
 exact wpAny_bind (wpAny_pure (wpAny_bind (thn h1 fun r s2 hr=>wpAny_bind (wpAny_holding (wpAny_point (wpAny_pure hr))))))
section
variable {X:Cx}
def iEnum (K:PySem.W.Frag) (ta:TA):TI:=fun σ H R=>ta σ H fun vs H1=>∃ a,vs=[.ref a]∧(∃ xs,SqL K H1 a xs)∧R (Ite K a) H1
theorem pi_enum {l c:Expr} {ta:TA} {p pos kp tp:Pos} {es:List Expr} {k:Nat} (hg:Gl X "enumerate") (hm:X.mg "enumerate" = none) (ha:PA X [l] ta) (hc:PE X c (tC (.int 1)))
  (hs:starEach [l] X.env=(false,eval l X.env)::starEach [] X.env:=by rfl):PI X (.Tuple es k tp) (.Call (.Name "enumerate" p) [l] [⟨some "start",c,kp⟩] pos) (iEnum X.K ta):=by
 intro pins s σ H R I h
 refine wpAny_Call_Name_kw (ld_blt I hg hm PyProof.Rows.boot_enumerate ?_)
 refine cw_ty (by rw [hs];rfl) (by rfl) (PyProof.Rows.evalArgs_kw2 (by rfl) ?_ hs)
 refine thn (ha pos pins s σ H _ I h) fun us s1 ⟨vs,H1,I1,r1,q1⟩=>?_
 refine PyProof.Rows.kws_cons (thn (hc pins s1 σ H1 (fun v H'=>v=V.int 1∧H'=H1) I1 ⟨rfl,rfl⟩) fun v s2 ⟨x2,H2,I2,r2,q2⟩=>PyProof.Rows.kws_nil ?_)
 obtain ⟨rfl,rfl⟩:=q2
 obtain ⟨t2,rfl⟩:=r2
 obtain ⟨a,rfl,⟨xs,hq⟩,q⟩:=q1
 obtain ⟨u,rfl,rx⟩:=vals1 r1
 cases rx
 obtain ⟨its,rv,pl,hz⟩:=I2.list hq
 refine en_call pl.isList fun g gE gI gk=>wpAny_pyIter_enum gE ?_
 have I3:=I2.kept (t':=s2.toks) gk
 refine ⟨_,_,_,_,_,rfl,I3,turn_enum a s2.heap.objs.size (s2.heap.objs.size + 1) (Nat.succ_ne_self _),⟨⟨.none,gE⟩,gI⟩,fun b hb=>?_,q⟩
 rcases (show b=s2.heap.objs.size + 1∨b=s2.heap.objs.size by simpa using hb) with z | z
 ·rw [z];exact I2.fpOk (Nat.le_succ _) (I2.hok.fresh (Nat.le_succ _))
 ·rw [z];exact I2.fpOk (Nat.le_refl _) (I2.hok.fresh (Nat.le_refl _))
theorem for_enum {K:PySem.W.Frag} {a:Addr} {xs:List V} {g:TG} {tb:TS} {D:Ends} {σ:St} {H:Hp} (Pv:Nat→St→Hp→Prop) (h0:Pv 0 σ H) (hl:∀ i σ H,i≤xs.length→Pv i σ H→SqL K H a xs)
  (hs:∀ i x σ H t,xs[i]? = some x→Pv i σ H→H t=none→g (.ref t) σ (upd H t (.tup [.int (1 + (i:Int)),x])) fun σ2 H2=>tb { D with nx:=Pv (i + 1),ct:=Pv (i + 1),bk:=D.nx } σ2 H2) (hd:∀ σ H,Pv xs.length σ H→D.nx σ H) :
  Walk (Ite K a) g tb D σ H:=by
 refine ⟨fun i m σ H=>m=xs.length - i∧i≤xs.length∧Pv i σ H,⟨xs.length,by simp,Nat.zero_le _,h0⟩,?_⟩
 rintro i m σ H ⟨rfl,hi,p⟩
 have q:=hl i σ H hi p
 by_cases hlt:i<xs.length
 ·refine .inr ⟨⟨xs,xs[i],q,by simp [hlt]⟩,Pv (i + 1),fun σ' H' p'=>⟨xs.length - (i + 1),by omega,rfl,hlt,p'⟩,fun x H' y=>?_⟩
  obtain ⟨t,v,rfl,ht,rfl,hv⟩:=y
  exact hs i v σ H t (hv xs q) p ht
 ·have e:i=xs.length:=by omega
  subst e
  exact .inl ⟨⟨xs,q,Nat.le_refl _⟩,hd σ H p⟩
end
end L2
namespace PySem
section
variable {P:Program} {w:World} {A:Around} {E:Value→Shared→Prop}
end
end PySem
namespace L2
open PySem PySem.Spec PyProof.Rows
end L2
namespace My
open PySem L2 Mt
structure Stk (K:PySem.W.Frag) (N:Addr→Prop) (H:Hp) (l:LS) (ss:List Addr):Prop where
 len:ss.length=l.book.length + 1
 at_:∀ i s,ss[i]? = some s→SRep K N H s (psOf (l.book.take i))
section
variable {K:PySem.W.Frag} {N N':Addr→Prop} {H H':Hp} {l:LS} {ss:List Addr}
end
def NoE2 (F:Addr→Prop) (E L:Addr):Addr→Prop:=fun b=>¬ F b∧b≠E∧b≠L
section
variable {K:PySem.W.Frag} {mg:Str→Option Value} {F F':Addr→Prop} {E L:Addr} {H H':Hp} {l:LS} {ss:List Addr} {s:Addr} {p:PS}
end
section
variable {o r x:Q2} {n mk k:Int}
end
end My
namespace My
open PySem L2 Mt
def allL:Nat→(List Value→Prop)→Prop
 | 0,P=>P []
 | n + 1,P=>∀ x,allL n fun l=>P (x::l)
theorem allL_of:∀ {n:Nat} {P:List Value→Prop},allL n P→∀ us:List Value,us.length=n→P us
 | 0,_,h,[],_=>h
 | n + 1,P,h,x::us,e=>allL_of (n:=n) (P:=fun l=>P (x::l)) (h x) us (Nat.succ.inj e)
def BindD (nm qual:Str) (st:Stmt) (ps:List Str):Prop:=∀ (kV doc pm:Value) (an:Option Addr) (cdv ct:Value),allL ps.length fun us=>bindArgs (PySem.W.fnOf nm qual (defArgs st) (defBody st) (defScope st) .none kV doc pm an cdv ct) ⟨us,[]⟩=pure (ps.zip us)
theorem BindD.all {nm qual:Str} {st:Stmt} {ps:List Str} (b:BindD nm qual st ps) (kV doc pm:Value) (an:Option Addr) (cdv ct:Value) (us:List Value) (e:us.length=ps.length):bindArgs (PySem.W.fnOf nm qual (defArgs st) (defBody st) (defScope st) .none kV doc pm an cdv ct) ⟨us,[]⟩=pure (ps.zip us):=allL_of (b kV doc pm an cdv ct) us e
section
variable {K:PySem.W.Frag} {mg:Str→Option Value} {h:Heap} {nm qual:Str} {st:Stmt} {ps:List Str} {f C B:Addr} {cv bv:Addr} {oc:Value} {od an:Option Addr} {osl:Array (Option Value)} {kV doc pm cdv ct:Value}
theorem tx_c {g:Prop} (X:K.In h) (G:h.Ns mainGlobals mg) (a:PySem.W.nsIn K mainGlobals nm=some (some (.ref C))) (k:cOf mg nm=C∧mg nm=some (.ref (cOf mg nm))→g):g:=by
 have e:=PySem.W.mg_of X G a
 have c:=cOf_of e
 exact k ⟨c,by rw [c];exact e⟩
theorem tx_h (X:K.In h) (G:h.Ns mainGlobals mg) (a:PySem.W.nsIn K mainGlobals nm=some (some (.ref f))) (l:K.lookup f=some ⟨oc,od,.func (PySem.W.fnOf nm nm (defArgs st) (defBody st) (defScope st) .none kV doc pm an cdv ct),osl⟩) (c:PySem.W.codeIn K cdv nm=true) (k:PySem.W.keepIn K (.ref f)=true)
  (b:BindD nm nm st ps):Here K mg nm st ps:=⟨_,_,fun_mk l c k,PySem.W.mg_of X G a,(fun_mk (st:=st) l c k).binds b.all⟩
theorem tx_m (e:cv=C) (a:PySem.W.findIn K (.ref C) nm=some (some (.ref f))) (i:PySem.W.isFn K (.ref f)=true) (l:K.lookup f=some ⟨oc,od,.func (PySem.W.fnOf nm qual (defArgs st) (defBody st) (defScope st) .none kV doc pm an cdv ct),osl⟩) (c:PySem.W.codeIn K cdv qual=true) (k:PySem.W.keepIn K (.ref f)=true)
  (b:BindD nm qual st ps):HereM K cv nm qual st ps:=by subst e;exact ⟨_,_,fun_mk l c k,⟨a,i,k⟩,(fun_mk (st:=st) l c k).binds b.all⟩
theorem tx_i (e:cv=C) (mk:PySem.W.makesIn K C=true) (kc:PySem.W.keepIn K (.ref C)=true) (a:PySem.W.findIn K (.ref C) "__init__" = some (some (.ref f))) (i:PySem.W.isFn K (.ref f)=true) (l:K.lookup f=some ⟨oc,od,.func (PySem.W.fnOf "__init__" qual (defArgs st) (defBody st) (defScope st) .none kV doc pm an cdv ct),osl⟩) (c:PySem.W.codeIn K cdv qual=true) (k:PySem.W.keepIn K (.ref f)=true)
  (b:BindD "__init__" qual st ps):HereI K cv qual st ps:=by subst e;exact ⟨_,_,fun_mk l c k,⟨mk,a,i,kc⟩,(fun_mk (st:=st) l c k).binds b.all⟩
theorem tx_n {z:Int} {tk:Tok} (X:K.In h) (G:h.Ns mainGlobals mg) (a:PySem.W.nsIn K mainGlobals nm=some (some (.int z tk))):∃ u,mg nm=some u∧RelV (.int z) u:=⟨_,PySem.W.mg_of X G a,_,rfl⟩
theorem tx_t {x y:Int} {t u:Tok} {n:Nat} (e:cv=C) (l:K.lookup C=some ⟨.type "tuple",od,.seq #[.int x t,.int y u] n,osl⟩):SqT K (fun _=>none) cv [.int x,.int y]:=by subst e;exact sqt_k l (by show 2≤sizeLine;decide) (.cons ⟨_,rfl⟩ (.cons ⟨_,rfl⟩ .nil))
theorem tx_cl (e:cv=C) (p:PySem.W.plainGet K C Str.empty=true) (d:PySem.W.hasDictIn K C=true) (o:PySem.W.plainOver K C=true) (s:PySem.W.findIn K (.ref C) "__setattr__" = some (some (.builtin "object.__setattr__"))):Cls K cv:=by subst e;exact ⟨p,d,o,s⟩
theorem tx_na (e:cv=C) (n:PySem.W.findIn K (.ref C) nm=some none):NoAttr K cv nm:=by subst e;exact n
theorem tx_x (e:cv=C) (x:PySem.W.excIn K C veM "ValueError.__new__" = true):XCls K cv:=by subst e;exact x
theorem tx_mr {b:Bool} (e:cv=C) (e':bv=B) (m:PySem.W.mroIn K C (.ref B)=some b):PySem.W.mroIn K cv (.ref bv)=some b:=by subst e e';exact m
end
end My
namespace My
open PySem L2 Mt
structure Hold (K:PySem.W.Frag) (mg:Str→Option Value) (x st E a W:Addr) (ns ws:List Int) (n:Int) (l ms mb:LS) (F:Addr→Prop) (H:Hp) (ss us:List Addr):Prop where
 R:LRep K mg H x l F
 oS:Ob F H st (.lst (ss.map V.ref))
 oE:Ob F H E (.lst (us.map V.ref))
 ne:st≠E
 Sk:Stk K (NoE2 F E st) H ms ss
 B:Booked K H mb.book us
 hO:SqO K F H a (ns.map V.int)
 hW:ShopO F H W ws
 aS:a≠st∨∀ H',SqL K H' a (ns.map V.int)
 aE:a≠E∨∀ H',SqL K H' a (ns.map V.int)
 wS:W≠st
 wE:W≠E
section
variable {K:PySem.W.Frag} {mg:Str→Option Value} {x st E a W:Addr} {ns ws:List Int} {n:Int} {l l' ms mb:LS} {F F':Addr→Prop} {H H':Hp} {ss us:List Addr}
end
end My
namespace L2
open PySem PySem.Spec PyProof.Rows
section
variable {X:Cx} {a:Expr} {ta:TE}
end
end L2
namespace My
open PySem L2 Mt
theorem at_in {xs:List V} {i:Int} (h0:0≤i) (h1:i<(xs.length:Int)):∃ v,v∈xs∧atI xs i=some v:=by
 obtain ⟨j,rfl⟩:=Int.eq_ofNat_of_zero_le h0
 have hj:j<xs.length:=by omega
 exact ⟨xs[j],List.getElem_mem hj,atI_nat (List.getElem?_eq_getElem hj)⟩
end My
namespace L2
open PySem PySem.Spec PyProof.Rows
end L2
namespace My
open PySem L2 Mt
def LS.pre (l:LS) (i:Nat):LS:={ l with book:=l.book.take i }
end My
namespace My
open PySem L2 Mt
structure WalkH (K:PySem.W.Frag) (mg:Str→Option Value) (x a W D E:Addr) (ns ws:List Int) (nm:Nat) (l mb:LS) (F:Addr→Prop) (H:Hp) (us:List Addr):Prop where
 R:LRep K mg H x l F
 oE:Ob F H E (.lst (us.map V.ref))
 B:Booked K H mb.book us
 hO:SqO K F H a (ns.map V.int)
 hW:ShopO F H W ws
 oD:Ob F H D (.lst (spanV 6 nm))
 aE:a≠E∨∀ H',SqL K H' a (ns.map V.int)
 wE:W≠E
 dE:D≠E
section
variable {K:PySem.W.Frag} {mg:Str→Option Value} {x a W D E:Addr} {ns ws:List Int} {nm:Nat} {l l' mb:LS} {F F':Addr→Prop} {H H':Hp} {us:List Addr}
end
end My
namespace L2
open PySem PySem.Spec PyProof.Rows
theorem comp_listD {K:PySem.W.Frag} {a:Addr} {xs:List V} {tt:TT} {te:TE} {σ:St} {H:Hp} {Qd:Hp→Prop} {D:Addr} (Pv:Nat→Hp→List V→Prop) (h0:Pv 0 (upd H D (.lst [])) []) (hl:∀ i H2 ys,Pv i H2 ys→SqL K H2 a xs∧H2 D=some (.lst ys))
  (hs:∀ i x H2 ys (kk:Hp→List V→Prop),(∀ H' ys',Pv (i + 1) H' ys'→kk H' ys')→xs[i]? = some x→Pv i H2 ys→tt (some x::σ) H2 fun b H4 =>
   if b=true then te (some x::σ) H4 fun v H5=>H5 D=some (.lst ys)∧ys.length<sizeLine∧kk (upd H5 D (.lst (ys++[v]))) (ys++[v]) else kk H4 ys)
  (hd:∀ H2 ys,Pv xs.length H2 ys→Qd H2) :
  ∃ W:Nat→Nat→Hp→List V→Prop,(∃ m,W 0 m (upd H D (.lst [])) [])∧∀ i m H2 ys,W i m H2 ys→H2 D=some (.lst ys)∧(((Itl K a).stop i H2∧Qd H2)∨((Itl K a).go i H2∧∀ x H3,(Itl K a).yld i H2 x H3→tt (some x::σ) H3 fun b H4 =>
   if b=true then te (some x::σ) H4 fun v H5=>H5 D=some (.lst ys)∧ys.length<sizeLine∧∃ m',m'<m∧W (i + 1) m' (upd H5 D (.lst (ys++[v]))) (ys++[v]) else ∃ m',m'<m∧W (i + 1) m' H4 ys)) :=
 comp_list (Q:=fun _ H=>Qd H) Pv h0 hl hs hd
variable {X:Cx}
end L2
namespace My
open PySem L2 Mt
structure Kept (E st:Addr) (F F':Addr→Prop) (H H':Hp):Prop where
 ob:∀ b o,H b=some o→¬ F b→b≠E→b≠st→H' b=some o∧¬ F' b
 tup:Tups H H'
section
variable {K:PySem.W.Frag} {mg:Str→Option Value} {x st E a W D:Addr} {ns ws:List Int} {n:Int} {l l' ms mb:LS} {F F' F2:Addr→Prop} {H H' H2:Hp} {ss us:List Addr}
end
end My
namespace My
open PySem L2 Mt
theorem for_any2 {K:PySem.W.Frag} {a:Addr} {xs:List V} {g:TG} {tb:TS} {D:Ends} {σ:St} {H H0:Hp} (Pv:Nat→St→Hp→Prop) (hA:SqA K H0 a xs) (h0:Pv 0 σ H) (hk:∀ i τ G,Pv i τ G→Same H0 G)
  (hs:∀ i x τ G,xs[i]? = some x→Pv i τ G→g x τ G fun τ2 G2=>tb { D with nx:=Pv (i + 1),ct:=Pv (i + 1),bk:=D.nx } τ2 G2) (hd:∀ τ G,Pv xs.length τ G→D.nx τ G) :
  ((∃ ys,SqL K H a ys)∧Walk (Itl K a) g tb D σ H)∨((∃ ys,SqT K H a ys)∧Walk (Itt K a) g tb D σ H):=by
 rcases hA with h | h
 ·exact .inl ⟨⟨_,(hk _ _ _ h0).seq h⟩,for_list (xs:=xs) Pv h0 (fun i τ G _ p=>(hk i τ G p).seq h) hs hd⟩
 ·exact .inr ⟨⟨_,(hk _ _ _ h0).tup h⟩,for_tup (xs:=xs) Pv h0 (fun i τ G _ p=>(hk i τ G p).tup h) hs hd⟩
structure DeedV (K:PySem.W.Frag) (H:Hp) (rs:List Addr) (qs:List Req):Prop where
 len:rs.length=qs.length
 at_:∀ (i:Nat) (r:Addr),rs[i]? = some r→∃ q wv,qs[i]? = some q∧H r=some (.tup [.str (Req.word q),wv])∧ReqV K H wv q
theorem DeedV.same {K:PySem.W.Frag} {H H':Hp} {rs:List Addr} {qs:List Req} (h:DeedV K H rs qs) (s:Same H H'):DeedV K H' rs qs:=by
 refine ⟨h.len,fun i r e=>?_⟩
 obtain ⟨q,wv,h1,h2,h3⟩:=h.at_ i r e
 exact ⟨q,wv,h1,s _ _ h2,h3.same s⟩
def runO:LS→List Req→LS ⊕ String
 | l,[]=>.inl l
 | l,q::qs=>match due l q with
  | none=>runO (l.push q.deed) qs
  | some x=>.inr x
theorem runO_step {l:LS} {qs:List Req} {i:Nat} {q:Req} (e:qs[i]? = some q):(due l q=none→runO l (qs.drop i)=runO (l.push q.deed) (qs.drop (i + 1)))∧∀ x,due l q=some x→runO l (qs.drop i) = .inr x:=by
 obtain ⟨hi,rfl⟩:=List.getElem?_eq_some_iff.mp e
 rw [List.drop_eq_getElem_cons hi]
 refine ⟨fun d=>?_,fun x d=>?_⟩
 ·show (match due l qs[i] with | none=>runO (l.push qs[i].deed) (qs.drop (i + 1)) | some x=>.inr x)=_
  rw [d]
 ·show (match due l qs[i] with | none=>runO (l.push qs[i].deed) (qs.drop (i + 1)) | some x=>.inr x)=_
  rw [d]
theorem Fit.all {F':Addr→Prop} {H H':Hp} (f:Fit (fun _=>False) F' H H'):Same H H':=fun b o e=>f.keep b o e id
end My
namespace My
open PySem L2 Mt
def Sup (F G:Addr→Prop):Addr→Prop:=fun b=>F b∨G b
theorem Fit.supR {F G G':Addr→Prop} {H H':Hp} (f:Fit G G' H H'):Fit (Sup F G) (Sup F G') H H' where
 keep:=fun b o e n=>f.keep b o e fun g=>n (.inr g)
 foot:=fun b z=>z.elim (fun z=>.inl (.inl z)) fun z=>(f.foot b z).elim (fun z=>.inl (.inr z)) .inr
 tup:=f.tup
theorem Fit.supL {F G F':Addr→Prop} {H H':Hp} (f:Fit F F' H H'):Fit (Sup F G) (Sup F' G) H H' where
 keep:=fun b o e n=>f.keep b o e fun g=>n (.inl g)
 foot:=fun b z=>z.elim (fun z=>(f.foot b z).elim (fun z=>.inl (.inl z)) .inr) fun z=>.inl (.inr z)
 tup:=f.tup
section
variable {K:PySem.W.Frag} {mg:Str→Option Value} {x y:Addr} {l m m':LS} {F G F' G':Addr→Prop} {H H':Hp}
theorem LRep.aside (R:LRep K mg H x l F) (dj:∀ b,F b→¬ G b) (f:Fit G G' H H'):LRep K mg H' x l F:=R.keep (fun b o z e=>f.keep b o e (dj b z)) f.tup
theorem Fit.apart (R:LRep K mg H x l F) (dj:∀ b,F b→¬ G b) (f:Fit G G' H H'):∀ b,F b→¬ G' b:=fun b z g=>(f.foot b g).elim (dj b z) fun e=>by obtain ⟨o,e'⟩:=R.at_ z;rw [e] at e';cases e'
structure Two (K:PySem.W.Frag) (mg:Str→Option Value) (x y a W P E s:Addr) (ns ws:List Int) (l l1 l2:LS) (F G:Addr→Prop) (H:Hp) (us:List Addr):Prop where
 R1:LRep K mg H x l1 F
 R2:LRep K mg H y l2 G
 dj:∀ b,F b→¬ G b
 S:SRep K (fun b=>¬ Sup F G b) H s l.ps
 oE:Ob (Sup F G) H E (.lst (us.map V.ref))
 B:Booked K H l.book us
 hO:SqO K (Sup F G) H a (ns.map V.int)
 hW:ShopO (Sup F G) H W ws
 oP:Ob (Sup F G) H P (.lst [.ref y,.ref x])
variable {a W P E s:Addr} {ns ws:List Int} {l1 l2:LS} {us:List Addr}
end
end My
namespace L2
open PySem PySem.Spec PyProof.Rows
variable {X:Cx}
def rInsert:V→List V→Hp→VK→Prop:=fun x vs H Q=>∃ l xs i v,x = .ref l∧vs=[.int i,v]∧H l=some (.lst xs)∧0≤i∧i≤xs.length∧xs.length<1000000∧Q .non (upd H l (.lst (xs.take i.toNat++v::xs.drop i.toNat)))
theorem mt_insert:MtM X "list.insert" rInsert:=by
 intro pins s σ H x vs v us Q I rx rv h
 obtain ⟨l,xs,i,y,rfl,rfl,hH,h0,h1,hz,q⟩:=h
 cases rx
 obtain ⟨a,b,rfl,ra,rb⟩:=Vals.two rv
 obtain ⟨t,rfl⟩:=ra
 obtain ⟨z,its,n,r,hl,e⟩:=I.lstM hH
 have hf:Builtin.List.listFitsIndex i=true:=by
  unfold Builtin.List.listFitsIndex
  simp
  omega
 refine call_meets F.slot_list_insert ⟨_,e,rfl⟩ F.entry_list_insert (F.args_list_insert_3 _ _ _) (AutoSeq1.list_insert_list_int_val_1 l its.toArray n i t b (by simp [hf]) (by rw [List.size_toArray];omega)) ⟨e,?_⟩
 refine ⟨.non,_,I.lset (its':=its.take i.toNat++b::its.drop i.toNat) hH e ?_ (Vals.append (r.take i.toNat) (.cons rb (r.drop i.toNat))) ?_,rfl,q⟩
 ·rw [if_neg (by omega),List.size_toArray,Nat.min_eq_left (by omega)]
  simp
  rw [List.take_of_length_le (by rw [List.length_drop];exact Nat.le_refl _)]
 ·rw [List.length_append,List.length_cons,List.length_take,List.length_drop]
  show _≤16777216
  omega
end L2
namespace HT
open PySem PySem.Spec PyProof.Rows L2
variable {prog:Program} {w:World} {A:Around} {E:Value→Shared→Prop} {s:Shared}
end HT
namespace L2
open PySem PySem.Spec PyProof.Rows
variable {X:Cx}
theorem pa_consT {es es':List Expr} {k:Nat} {p:Pos} {te:TE} {t:TA} (ha:PE X (.Tuple es' k p) te) (hr:PA X es t):PA X (.Tuple es' k p::es) (tCons te t):=pa_cons ha hr (by rfl)
theorem pa_consK {es:List Expr} {c:Const} {k:Nat} {p:Pos} {te:TE} {t:TA} (ha:PE X (.Constant c k p) te) (hr:PA X es t):PA X (.Constant c k p::es) (tCons te t):=pa_cons ha hr (by rfl)
end L2
namespace My
open PySem L2 Mt
structure QnB (l:LS):Prop where
 tu:5 * qv l.ps.turned≤((499750 + 2 * (l.book.length:Int):Int):Rat)
 mo:qv l.ps.moved≤((2 * (l.book.length:Int):Int):Rat)
inductive Qn:LS→Prop where
 | new {ws:List Int} {n:Int} (g:GoodShop ws n):Qn ⟨ws,n,[]⟩
 | step {l:LS} {q:Req} (h:Qn l) (d:due l q=none) (b:QnB (l.push q.deed)):Qn (l.push q.deed)
section
variable {l:LS} {ts:List Int}
end
structure FillH (K:PySem.W.Frag) (mg:Str→Option Value) (x a t E st:Addr) (ns ts:List Int) (l:LS) (F0 F:Addr→Prop) (H0 H:Hp) (s:Addr) (us ss:List Addr):Prop where
 R:LRep K mg H x l F
 oE:Ob F H E (.lst (us.map V.ref))
 oS:Ob F H st (.lst (ss.map V.ref))
 ne:st≠E
 Sk:Stk K (NoE2 F E st) H l (ss++[s])
 B:Booked K H l.book us
 hO:SqO K F H a (ns.map V.int)
 aS:a≠st∨∀ H',SqL K H' a (ns.map V.int)
 aE:a≠E∨∀ H',SqL K H' a (ns.map V.int)
 ht:H t=some (.tup (ts.map V.int))
 fr:Fit F0 F H0 H
 nE:H0 E=none
 nS:H0 st=none
section
variable {K:PySem.W.Frag} {mg:Str→Option Value} {x a t E st:Addr} {ns ts:List Int} {l:LS} {F0 F F':Addr→Prop} {H0 H H':Hp} {s:Addr} {us ss:List Addr}
end
structure DeedT (K:PySem.W.Frag) (H:Hp) (rs:List Addr) (qs:List Req):Prop where
 len:rs.length=qs.length
 at_:∀ (i:Nat) (r:Addr),rs[i]? = some r→∃ q wv,qs[i]? = some q∧H r=some (.tup [.str (Req.word q),wv])∧ReqT K H wv q
section
variable {K:PySem.W.Frag} {H H':Hp} {rs:List Addr} {qs:List Req}
end
end My
namespace My
open PySem L2 Mt
structure Sd where
 (x st E:Addr)
 (l ms mb:LS)
 F:Addr→Prop
 (ss us:List Addr)
def Sd.U (A:Sd):Addr→Prop:=fun b=>A.F b∨b=A.st∨b=A.E
structure Sd.Ok (K:PySem.W.Frag) (mg:Str→Option Value) (A:Sd) (U:Addr→Prop) (H:Hp):Prop where
 R:LRep K mg H A.x A.l A.F
 oS:H A.st=some (.lst (A.ss.map V.ref))
 oE:H A.E=some (.lst (A.us.map V.ref))
 nS:¬ A.F A.st
 nE:¬ A.F A.E
 ne:A.st≠A.E
 Sk:Stk K (fun b=>¬ U b) H A.ms A.ss
 B:Booked K H A.mb.book A.us
structure T2 (K:PySem.W.Frag) (mg:Str→Option Value) (A B:Sd) (U:Addr→Prop) (H:Hp):Prop where
 hU:∀ b,U b ↔ A.U b∨B.U b
 a:A.Ok K mg U H
 b:B.Ok K mg U H
 dj:∀ z,A.U z→¬ B.U z
section
variable {K:PySem.W.Frag} {mg:Str→Option Value} {A A' B:Sd} {U U' F':Addr→Prop} {H H':Hp}
end
structure Con (K:PySem.W.Frag) (S0 S1:Sd) (a Lw Lt Lh Ll Ls Lb W0 W1 h0 h1:Addr) (ns:List Int) (U:Addr→Prop) (H:Hp):Prop where
 hO:SqO K U H a (ns.map V.int)
 w0:ShopO U H W0 S0.l.shop
 w1:ShopO U H W1 S1.l.shop
 g0:ShopO U H h0 S0.l.shop
 g1:ShopO U H h1 S1.l.shop
 oLw:Ob U H Lw (.lst [.ref W0,.ref W1])
 oLt:Ob U H Lt (.lst [.int S0.l.teeth,.int S1.l.teeth])
 oLh:Ob U H Lh (.lst [.ref h0,.ref h1])
 oLl:Ob U H Ll (.lst [.ref S0.x,.ref S1.x])
 oLs:Ob U H Ls (.lst [.ref S0.st,.ref S1.st])
 oLb:Ob U H Lb (.lst [.ref S0.E,.ref S1.E])
section
variable {K:PySem.W.Frag} {S0 S1 S0' S1':Sd} {a Lw Lt Lh Ll Ls Lb W0 W1 h0 h1:Addr} {ns:List Int} {U U':Addr→Prop} {H H':Hp}
end
structure Like (A A':Sd):Prop where
 x:A'.x=A.x
 st:A'.st=A.st
 E:A'.E=A.E
 sh:A'.l.shop=A.l.shop
 te:A'.l.teeth=A.l.teeth
structure Full (A:Sd) (N:Nat):Prop where
 q:Qt A.l
 ms:A.ms=A.l
 mb:A.mb=A.l
 bl:A.l.book.length≤N
end My
namespace L2
open PySem PyProof.Rows
def tHole (X:Cx) (ss:List Stmt):TS:=fun D σ H=>∃ t,PSs X ss t∧t D σ H
theorem pss_hole {X:Cx} {ss:List Stmt}:PSs X ss (tHole X ss):=fun pins s σ H D i h=>by
 obtain ⟨t,p,q⟩:=h
 exact p pins s σ H D i q
structure Rest where
 X:Cx
 ss:List Stmt
 t:TS
 p:PSs X ss t
section
variable {CX:CXT} {P:Program} {w:World} {K:PySem.W.Frag} {mg:Str→Option Value} {base:Heap} {N:List Str} {q:Str} {sc:Scope} {f:Addr} {cd:Value} {A:Around} {o:List Env} {s:Shared} {H:Hp} {E:XK}
end
end L2
namespace L2
open PySem PySem.Spec PyProof.Rows
section
variable {X:Cx}
def rNotInT (K:PySem.W.Frag):R2:=fun x y H Q=>∃ (p D:Addr) (ns:List Int) (rs:List Addr) (tss:List (List Int)),x = .ref p∧y = .ref D∧SqT K H p (ns.map V.int)∧H p=some (.tup (ns.map V.int))∧H D=some (.lst (rs.map V.ref))∧Paired (fun r t=>H r=some (.tup (t.map V.int))) rs tss∧ns∈tss∧Q (.bl false) H
theorem paired_of {R:Addr→List Int→Prop}:∀ {rs:List Addr} {tss:List (List Int)} {r:Addr},Paired R rs tss→r∈rs→∃ t,R r t
 | _,_,r,.nil,h=>by cases h
 | _,_,r,.cons h t,m=>by
  rcases List.mem_cons.mp m with e | m
  ·exact ⟨_,e ▸ h⟩
  ·exact paired_of t m
theorem paired_mem {R:Addr→List Int→Prop}:∀ {rs:List Addr} {tss:List (List Int)} {t:List Int},Paired R rs tss→t∈tss→∃ r∈rs,R r t
 | _,_,t,.nil,h=>by cases h
 | _,_,t,.cons (a:=a) h p,m=>by
  rcases List.mem_cons.mp m with e | m
  ·exact ⟨a,List.mem_cons_self,e ▸ h⟩
  ·obtain ⟨r,m,z⟩:=paired_mem p m
   exact ⟨r,List.mem_cons_of_mem _ m,z⟩
theorem op_notInT (hu:X.A.units + 4<cLine):OpR X (compareOp .NotIn) (rNotInT X.K):=by
 intro pins s σ H x y u v Q I ru rv h
 obtain ⟨p,D,ns,rs,tss,rfl,rfl,hp,hp',hD,P,hm,k⟩:=h
 cases (show u=Value.ref p from ru)
 cases (show v=Value.ref D from rv)
 obtain ⟨us,r1,t1,_⟩:=I.tuple hp
 have hi:=intsAre_of r1
 obtain ⟨vs,r2,t2,_⟩:=I.list (SqL.of hD)
 classical
 have alike:∀ r:Addr,H r=some (.tup (ns.map V.int))→PySem.SeqAt.EqAt X.A.in1 s (.ref r) (.ref p) true:=fun r hr=>by
  refine same_eqAt (A:=X.A.in1) I 1 (x:=.ref r) (y:=.ref p) (by show X.A.units + 1 + 1<cLine;omega) (.inr ⟨r,p,_,_,rfl,rfl,SqT.of hr,hp,rfl,fun j a b ha hb=>?_⟩) rfl rfl
  rw [ha] at hb
  cases hb
  refine ⟨rfl,?_⟩
  obtain ⟨i,_,rfl⟩:=List.mem_map.mp (List.mem_of_getElem? ha)
  rfl
 have each:∀ w∈vs,∃ r∈rs,w=Value.ref r:=fun w hw=>by
  obtain ⟨j,hj⟩:=List.getElem?_of_mem hw
  have jl:j<vs.length:=(List.getElem?_eq_some_iff.mp hj).1
  have l2:=r2.length
  rw [List.length_map] at l2
  have e1:(rs.map V.ref)[j]? = some (V.ref (rs[j]'(by omega))):=by rw [List.getElem?_map,List.getElem?_eq_getElem (by omega)];rfl
  obtain ⟨z,q1,w1⟩:=r2.get e1
  rw [hj] at q1
  cases q1
  exact ⟨_,List.getElem_mem _,w1⟩
 have he:∀ w,w∈vs.toArray→PySem.SeqAt.EqAt X.A.in1 s w (.ref p) (decide (PySem.SeqAt.EqAt X.A.in1 s w (.ref p) true)):=fun w hw=>by
  by_cases c:PySem.SeqAt.EqAt X.A.in1 s w (.ref p) true
  ·rw [decide_eq_true c];exact c
  ·rw [decide_eq_false c]
   obtain ⟨r,hr,rfl⟩:=each w (by simpa using hw)
   obtain ⟨t,ht⟩:=paired_of P hr
   obtain ⟨is,r3,t3,_⟩:=I.tuple (SqT.of ht)
   have ne:t≠ns:=fun e=>c (alike r (e ▸ ht))
   refine HT.eq_tup_false t3 t1 (intsAre_of r3) hi (by show X.A.units + 1<cLine;omega) ne fun e=>ne ?_
   rw [e,hp'] at ht
   have e3:ns.map V.int=t.map V.int:=by injection ht with ht;injection ht
   exact ((List.map_inj_right (fun a b h=>by injection h)).mp e3).symm
 refine PySem.SeqAt.notIn_listAt (fun w=>decide (PySem.SeqAt.EqAt X.A.in1 s w (.ref p) true)) t2.isList he ⟨.bl _,H,I,rfl,?_⟩
 have z:vs.toArray.any (fun w=>decide (PySem.SeqAt.EqAt X.A.in1 s w (.ref p) true))=true:=by
  obtain ⟨r,hr,ht⟩:=paired_mem P hm
  obtain ⟨j,hj⟩:=List.getElem?_of_mem hr
  obtain ⟨w,q1,w1⟩:=r2.get (show (rs.map V.ref)[j]? = some (V.ref r) by rw [List.getElem?_map,hj];rfl)
  have w1:w=Value.ref r:=w1
  subst w1
  rw [List.any_toArray,List.any_eq_true]
  exact ⟨_,List.mem_of_getElem? q1,decide_eq_true (alike r ht)⟩
 rw [z]
 exact k
end
end L2
namespace My
open PySem L2 Mt
def top (i:Nat):Stmt:=PySem.Challenge.pw_threadlathe_k31_lists_of_the_askers_own.main.body.getD i (.Pass ⟨0,0,0,0⟩)
abbrev s_f_greatest_divisor:Stmt:=top 13
theorem sc_f_greatest_divisor:FnScope ["a","b","rest"] ["a","b"] (defScope s_f_greatest_divisor):=⟨rfl,rfl,rfl,by decide +kernel,rfl,by decide +kernel,by decide +kernel⟩
abbrev s_f_least_terms:Stmt:=top 14
theorem sc_f_least_terms:FnScope ["top","bottom","divisor"] ["top","bottom"] (defScope s_f_least_terms):=⟨rfl,rfl,rfl,by decide +kernel,rfl,by decide +kernel,by decide +kernel⟩
abbrev s_f_sum_of:Stmt:=top 15
theorem sc_f_sum_of:FnScope ["a","b"] ["a","b"] (defScope s_f_sum_of):=⟨rfl,rfl,rfl,by decide +kernel,rfl,by decide +kernel,by decide +kernel⟩
abbrev s_f_difference:Stmt:=top 16
theorem sc_f_difference:FnScope ["a","b"] ["a","b"] (defScope s_f_difference):=⟨rfl,rfl,rfl,by decide +kernel,rfl,by decide +kernel,by decide +kernel⟩
abbrev s_f_product:Stmt:=top 17
theorem sc_f_product:FnScope ["a","b"] ["a","b"] (defScope s_f_product):=⟨rfl,rfl,rfl,by decide +kernel,rfl,by decide +kernel,by decide +kernel⟩
abbrev s_f_quotient:Stmt:=top 18
theorem sc_f_quotient:FnScope ["a","b"] ["a","b"] (defScope s_f_quotient):=⟨rfl,rfl,rfl,by decide +kernel,rfl,by decide +kernel,by decide +kernel⟩
abbrev s_f_is_less:Stmt:=top 19
theorem sc_f_is_less:FnScope ["a","b"] ["a","b"] (defScope s_f_is_less):=⟨rfl,rfl,rfl,by decide +kernel,rfl,by decide +kernel,by decide +kernel⟩
abbrev s_f_remainder:Stmt:=top 20
theorem sc_f_remainder:FnScope ["a","b"] ["a","b"] (defScope s_f_remainder):=⟨rfl,rfl,rfl,by decide +kernel,rfl,by decide +kernel,by decide +kernel⟩
abbrev s_f_top_of:Stmt:=top 22
theorem sc_f_top_of:FnScope ["ratio"] ["ratio"] (defScope s_f_top_of):=⟨rfl,rfl,rfl,by decide +kernel,rfl,by decide +kernel,by decide +kernel⟩
abbrev s_f_groove_of:Stmt:=top 23
theorem sc_f_groove_of:FnScope ["ratio","closing","least"] ["ratio","closing"] (defScope s_f_groove_of):=⟨rfl,rfl,rfl,by decide +kernel,rfl,by decide +kernel,by decide +kernel⟩
abbrev s_f_inverse_of:Stmt:=top 24
theorem sc_f_inverse_of:FnScope ["number","modulus","rest","factor","new_rest","new_factor","times","old_rest","old_factor"] ["number","modulus"] (defScope s_f_inverse_of):=⟨rfl,rfl,rfl,by decide +kernel,rfl,by decide +kernel,by decide +kernel⟩
abbrev s_f_least_closing:Stmt:=top 25
theorem sc_f_least_closing:FnScope ["ratio","groove","least"] ["ratio","groove"] (defScope s_f_least_closing):=⟨rfl,rfl,rfl,by decide +kernel,rfl,by decide +kernel,by decide +kernel⟩
abbrev s_f_reading_of:Stmt:=top 27
theorem sc_f_reading_of:FnScope ["off","teeth"] ["off","teeth"] (defScope s_f_reading_of):=⟨rfl,rfl,rfl,by decide +kernel,rfl,by decide +kernel,by decide +kernel⟩
abbrev s_f_spoiling_at:Stmt:=top 28
theorem sc_f_spoiling_at:FnScope ["ratio","teeth","mark","closing"] ["ratio","teeth","mark"] (defScope s_f_spoiling_at):=⟨rfl,rfl,rfl,by decide +kernel,rfl,by decide +kernel,by decide +kernel⟩
abbrev s_f_safe_marks:Stmt:=top 29
theorem sc_f_safe_marks:FnScope ["ratio","teeth"] ["ratio","teeth"] (defScope s_f_safe_marks):=⟨rfl,rfl,rfl,by decide +kernel,rfl,by decide +kernel,by decide +kernel⟩
abbrev s_f_marks_of:Stmt:=top 30
theorem sc_f_marks_of:FnScope ["ratio","teeth","groove","step"] ["ratio","teeth","groove"] (defScope s_f_marks_of):=⟨rfl,rfl,rfl,by decide +kernel,rfl,by decide +kernel,by decide +kernel⟩
abbrev s_f_soonest_of:Stmt:=top 32
theorem sc_f_soonest_of:FnScope ["ratio","off","start","step","steps","closing"] ["ratio","off","start","step"] (defScope s_f_soonest_of):=⟨rfl,rfl,rfl,by decide +kernel,rfl,by decide +kernel,by decide +kernel⟩
abbrev s_f_soonest_safe:Stmt:=top 33
theorem sc_f_soonest_safe:FnScope ["ratio","off"] ["ratio","off"] (defScope s_f_soonest_safe):=⟨rfl,rfl,rfl,by decide +kernel,rfl,by decide +kernel,by decide +kernel⟩
abbrev s_f_plain_ratio:Stmt:=top 35
theorem sc_f_plain_ratio:FnScope ["train"] ["train"] (defScope s_f_plain_ratio):=⟨rfl,rfl,rfl,by decide +kernel,rfl,by decide +kernel,by decide +kernel⟩
abbrev s_f_ratio_of:Stmt:=top 36
theorem sc_f_ratio_of:FnScope ["train","ratio"] ["train"] (defScope s_f_ratio_of):=⟨rfl,rfl,rfl,by decide +kernel,rfl,by decide +kernel,by decide +kernel⟩
abbrev s_f_pairs_of:Stmt:=top 37
theorem sc_f_pairs_of:FnScope ["teeth","pairs","driver","driven"] ["teeth"] (defScope s_f_pairs_of):=⟨rfl,rfl,rfl,by decide +kernel,rfl,by decide +kernel,by decide +kernel⟩
abbrev s_f_fours_of:Stmt:=top 38
theorem sc_f_fours_of:FnScope ["pairs","fours","front","back"] ["pairs"] (defScope s_f_fours_of):=⟨rfl,rfl,rfl,by decide +kernel,rfl,by decide +kernel,by decide +kernel⟩
abbrev s_f_all_trains:Stmt:=top 39
theorem sc_f_all_trains:FnScope ["wheels","pairs"] ["wheels"] (defScope s_f_all_trains):=⟨rfl,rfl,rfl,by decide +kernel,rfl,by decide +kernel,by decide +kernel⟩
abbrev s_f_gives:Stmt:=top 40
theorem sc_f_gives:FnScope ["train","pitch","ratio"] ["train","pitch"] (defScope s_f_gives):=⟨rfl,rfl,rfl,by decide +kernel,rfl,by decide +kernel,by decide +kernel⟩
abbrev s_f_trains_for:Stmt:=top 41
theorem sc_f_trains_for:FnScope ["wheels","pitch"] ["wheels","pitch"] (defScope s_f_trains_for):=⟨rfl,rfl,rfl,by decide +kernel,rfl,by decide +kernel,by decide +kernel⟩
abbrev s_f_counted:Stmt:=top 44
theorem sc_f_counted:FnScope ["count","amount"] ["count","amount"] (defScope s_f_counted):=⟨rfl,rfl,rfl,by decide +kernel,rfl,by decide +kernel,by decide +kernel⟩
abbrev s_f_is_within:Stmt:=top 48
theorem sc_f_is_within:FnScope ["number","least","most"] ["number","least","most"] (defScope s_f_is_within):=⟨rfl,rfl,rfl,by decide +kernel,rfl,by decide +kernel,by decide +kernel⟩
abbrev s_f_has_two_alike:Stmt:=top 49
theorem sc_f_has_two_alike:FnScope ["wheels"] ["wheels"] (defScope s_f_has_two_alike):=⟨rfl,rfl,rfl,by decide +kernel,rfl,by decide +kernel,by decide +kernel⟩
abbrev s_f_check_shop:Stmt:=top 50
theorem sc_f_check_shop:FnScope ["wheels","wheel"] ["wheels"] (defScope s_f_check_shop):=⟨rfl,rfl,rfl,by decide +kernel,rfl,by decide +kernel,by decide +kernel⟩
abbrev s_f_check_dial:Stmt:=top 51
theorem sc_f_check_dial:FnScope ["teeth"] ["teeth"] (defScope s_f_check_dial):=⟨rfl,rfl,rfl,by decide +kernel,rfl,by decide +kernel,by decide +kernel⟩
abbrev s_f_check_known:Stmt:=top 52
theorem sc_f_check_known:FnScope ["shop","train","wheel"] ["shop","train"] (defScope s_f_check_known):=⟨rfl,rfl,rfl,by decide +kernel,rfl,by decide +kernel,by decide +kernel⟩
abbrev s_f_check_train:Stmt:=top 53
theorem sc_f_check_train:FnScope ["train"] ["train"] (defScope s_f_check_train):=⟨rfl,rfl,rfl,by decide +kernel,rfl,by decide +kernel,by decide +kernel⟩
abbrev s_f_check_mounted:Stmt:=top 54
theorem sc_f_check_mounted:FnScope ["piece"] ["piece"] (defScope s_f_check_mounted):=⟨rfl,rfl,rfl,by decide +kernel,rfl,by decide +kernel,by decide +kernel⟩
abbrev s_f_check_nut_open:Stmt:=top 55
theorem sc_f_check_nut_open:FnScope ["piece"] ["piece"] (defScope s_f_check_nut_open):=⟨rfl,rfl,rfl,by decide +kernel,rfl,by decide +kernel,by decide +kernel⟩
abbrev s_f_check_nut_closed:Stmt:=top 56
theorem sc_f_check_nut_closed:FnScope ["piece"] ["piece"] (defScope s_f_check_nut_closed):=⟨rfl,rfl,rfl,by decide +kernel,rfl,by decide +kernel,by decide +kernel⟩
abbrev s_f_check_bottom:Stmt:=top 57
theorem sc_f_check_bottom:FnScope ["fraction"] ["fraction"] (defScope s_f_check_bottom):=⟨rfl,rfl,rfl,by decide +kernel,rfl,by decide +kernel,by decide +kernel⟩
abbrev s_f_check_count:Stmt:=top 58
theorem sc_f_check_count:FnScope ["count","amount"] ["count","amount"] (defScope s_f_check_count):=⟨rfl,rfl,rfl,by decide +kernel,rfl,by decide +kernel,by decide +kernel⟩
abbrev s_f_do_deed:Stmt:=top 61
theorem sc_f_do_deed:FnScope ["lathe","word","what"] ["lathe","word","what"] (defScope s_f_do_deed):=⟨rfl,rfl,rfl,by decide +kernel,rfl,by decide +kernel,by decide +kernel⟩
abbrev s_f_replay:Stmt:=top 62
theorem sc_f_replay:FnScope ["wheels","teeth","deeds","lathe","deed"] ["wheels","teeth","deeds"] (defScope s_f_replay):=⟨rfl,rfl,rfl,by decide +kernel,rfl,by decide +kernel,by decide +kernel⟩
abbrev s_l_at:Stmt:=top 64
theorem sc_l_at:FnScope ["_law_script","_law_k"] ["_law_script","_law_k"] (defScope s_l_at):=⟨rfl,rfl,rfl,by decide +kernel,rfl,by decide +kernel,by decide +kernel⟩
abbrev s_l_draw:Stmt:=top 65
theorem sc_l_draw:FnScope ["_law_script","_law_k","_law_cell"] ["_law_script","_law_k"] (defScope s_l_draw):=⟨rfl,rfl,rfl,by decide +kernel,rfl,by decide +kernel,by decide +kernel⟩
abbrev s_l_whole:Stmt:=top 66
theorem sc_l_whole:FnScope ["_law_found"] ["_law_found"] (defScope s_l_whole):=⟨rfl,rfl,rfl,by decide +kernel,rfl,by decide +kernel,by decide +kernel⟩
abbrev s_l_gcd:Stmt:=top 67
theorem sc_l_gcd:FnScope ["_law_a","_law_b"] ["_law_a","_law_b"] (defScope s_l_gcd):=⟨rfl,rfl,rfl,by decide +kernel,rfl,by decide +kernel,by decide +kernel⟩
abbrev s_l_row:Stmt:=top 68
theorem sc_l_row:FnScope ["_law_found","_law_due","_law_k"] ["_law_found","_law_due"] (defScope s_l_row):=⟨rfl,rfl,rfl,by decide +kernel,rfl,by decide +kernel,by decide +kernel⟩
abbrev s_l_row_or_none:Stmt:=top 69
theorem sc_l_row_or_none:FnScope ["_law_found","_law_due","_law_k"] ["_law_found","_law_due"] (defScope s_l_row_or_none):=⟨rfl,rfl,rfl,by decide +kernel,rfl,by decide +kernel,by decide +kernel⟩
abbrev s_l_kept:Stmt:=top 70
theorem sc_l_kept:FnScope ["_law_handed","_law_copy_of","_law_k"] ["_law_handed","_law_copy_of"] (defScope s_l_kept):=⟨rfl,rfl,rfl,by decide +kernel,rfl,by decide +kernel,by decide +kernel⟩
abbrev s_l_shop:Stmt:=top 71
theorem sc_l_shop:FnScope ["_law_cell","_law_many","_law_made","_law_left","_law_k","_law_tooth"] ["_law_cell","_law_many"] (defScope s_l_shop):=⟨rfl,rfl,rfl,by decide +kernel,rfl,by decide +kernel,by decide +kernel⟩
abbrev s_l_pick:Stmt:=top 72
theorem sc_l_pick:FnScope ["_law_cell","_law_wheels","_law_many","_law_left","_law_rest","_law_made","_law_k"] ["_law_cell","_law_wheels","_law_many"] (defScope s_l_pick):=⟨rfl,rfl,rfl,by decide +kernel,rfl,by decide +kernel,by decide +kernel⟩
abbrev s_l_ratio:Stmt:=top 73
theorem sc_l_ratio:FnScope ["_law_train","_law_top","_law_bottom"] ["_law_train"] (defScope s_l_ratio):=⟨rfl,rfl,rfl,by decide +kernel,rfl,by decide +kernel,by decide +kernel⟩
abbrev s_l_red:Stmt:=top 74
theorem sc_l_red:FnScope ["_law_top","_law_bottom","_law_shared"] ["_law_top","_law_bottom"] (defScope s_l_red):=⟨rfl,rfl,rfl,by decide +kernel,rfl,by decide +kernel,by decide +kernel⟩
abbrev s_l_may:Stmt:=top 75
theorem sc_l_may:FnScope ["_law_found","_law_due"] ["_law_found","_law_due"] (defScope s_l_may):=⟨rfl,rfl,rfl,by decide +kernel,rfl,by decide +kernel,by decide +kernel⟩
abbrev s_l_is:Stmt:=top 76
theorem sc_l_is:FnScope ["_law_found","_law_due","_law_k"] ["_law_found","_law_due"] (defScope s_l_is):=⟨rfl,rfl,rfl,by decide +kernel,rfl,by decide +kernel,by decide +kernel⟩
abbrev s_l_rows:Stmt:=top 77
theorem sc_l_rows:FnScope ["_law_found","_law_due","_law_k"] ["_law_found","_law_due"] (defScope s_l_rows):=⟨rfl,rfl,rfl,by decide +kernel,rfl,by decide +kernel,by decide +kernel⟩
abbrev s_l_any_shop:Stmt:=top 78
theorem sc_l_any_shop:FnScope ["_law_script","_law_k","_law_cell","_law_far","_law_many","_law_pool"] ["_law_script","_law_k"] (defScope s_l_any_shop):=⟨rfl,rfl,rfl,by decide +kernel,rfl,by decide +kernel,by decide +kernel⟩
abbrev s_l_teeth:Stmt:=top 79
theorem sc_l_teeth:FnScope ["_law_script"] ["_law_script"] (defScope s_l_teeth):=⟨rfl,rfl,rfl,by decide +kernel,rfl,by decide +kernel,by decide +kernel⟩
abbrev s_l_good_train:Stmt:=top 80
theorem sc_l_good_train:FnScope ["_law_cell","_law_wheels","_law_many"] ["_law_cell","_law_wheels"] (defScope s_l_good_train):=⟨rfl,rfl,rfl,by decide +kernel,rfl,by decide +kernel,by decide +kernel⟩
abbrev s_l_unknown:Stmt:=top 81
theorem sc_l_unknown:FnScope ["_law_lathe","_law_train"] ["_law_lathe","_law_train"] (defScope s_l_unknown):=⟨rfl,rfl,rfl,by decide +kernel,rfl,by decide +kernel,by decide +kernel⟩
abbrev s_l_shown:Stmt:=top 82
theorem sc_l_shown:FnScope ["_law_closing","_law_top","_law_teeth_here","_law_shown_here","_law_many"] ["_law_closing","_law_top","_law_teeth_here"] (defScope s_l_shown):=⟨rfl,rfl,rfl,by decide +kernel,rfl,by decide +kernel,by decide +kernel⟩
abbrev s_l_tells:Stmt:=top 83
theorem sc_l_tells:FnScope ["_law_lathe","_law_train","_law_way","_law_teeth_here","_law_marks","_law_pitch","_law_groove","_law_whats","_law_found"] ["_law_lathe","_law_train","_law_way","_law_teeth_here","_law_marks"] (defScope s_l_tells):=⟨rfl,rfl,rfl,by decide +kernel,rfl,by decide +kernel,by decide +kernel⟩
abbrev s_l_mess:Stmt:=top 84
theorem sc_l_mess:FnScope ["_law_lathe","_law_wheels","_law_teeth_here","_law_pitch","_law_told","_law_row_here"] ["_law_lathe","_law_wheels","_law_teeth_here","_law_pitch"] (defScope s_l_mess):=⟨rfl,rfl,rfl,by decide +kernel,rfl,by decide +kernel,by decide +kernel⟩
abbrev s_law:Stmt:=top 85
theorem sc_law:FnScope ["_law_script","_law_wheels","_law_teeth_here","_law_train","_law_pitch","_law_way","_law_deeds","_law_handed","_law_lathe","_law_again","_law_marks","_law_row_here"] ["_law_script"] (defScope s_law):=⟨rfl,rfl,rfl,by decide +kernel,rfl,by decide +kernel,by decide +kernel⟩
abbrev s_m_Book___init__:Stmt:=inClass (top 11) 0
theorem sc_m_Book___init__:FnScope ["self"] ["self"] (defScope s_m_Book___init__):=⟨rfl,rfl,rfl,by decide +kernel,rfl,by decide +kernel,by decide +kernel⟩
abbrev s_m_Book_write:Stmt:=inClass (top 11) 1
theorem sc_m_Book_write:FnScope ["self","word","what","before"] ["self","word","what","before"] (defScope s_m_Book_write):=⟨rfl,rfl,rfl,by decide +kernel,rfl,by decide +kernel,by decide +kernel⟩
abbrev s_m_Book_deeds:Stmt:=inClass (top 11) 3
theorem sc_m_Book_deeds:FnScope ["self"] ["self"] (defScope s_m_Book_deeds):=⟨rfl,rfl,rfl,by decide +kernel,rfl,by decide +kernel,by decide +kernel⟩
abbrev s_m_Piece___init__:Stmt:=inClass (top 45) 0
theorem sc_m_Piece___init__:FnScope ["self","train"] ["self","train"] (defScope s_m_Piece___init__):=⟨rfl,rfl,rfl,by decide +kernel,rfl,by decide +kernel,by decide +kernel⟩
abbrev s_m_Piece_twin:Stmt:=inClass (top 45) 1
theorem sc_m_Piece_twin:FnScope ["self","other"] ["self"] (defScope s_m_Piece_twin):=⟨rfl,rfl,rfl,by decide +kernel,rfl,by decide +kernel,by decide +kernel⟩
abbrev s_m_Piece_off:Stmt:=inClass (top 45) 3
theorem sc_m_Piece_off:FnScope ["self","carried"] ["self"] (defScope s_m_Piece_off):=⟨rfl,rfl,rfl,by decide +kernel,rfl,by decide +kernel,by decide +kernel⟩
abbrev s_m_Piece_next_safe:Stmt:=inClass (top 45) 4
theorem sc_m_Piece_next_safe:FnScope ["self"] ["self"] (defScope s_m_Piece_next_safe):=⟨rfl,rfl,rfl,by decide +kernel,rfl,by decide +kernel,by decide +kernel⟩
abbrev s_m_Piece_last_groove:Stmt:=inClass (top 45) 5
theorem sc_m_Piece_last_groove:FnScope ["self"] ["self"] (defScope s_m_Piece_last_groove):=⟨rfl,rfl,rfl,by decide +kernel,rfl,by decide +kernel,by decide +kernel⟩
abbrev s_m_Piece_turn:Stmt:=inClass (top 45) 6
theorem sc_m_Piece_turn:FnScope ["self","turns"] ["self","turns"] (defScope s_m_Piece_turn):=⟨rfl,rfl,rfl,by decide +kernel,rfl,by decide +kernel,by decide +kernel⟩
abbrev s_m_Piece_move:Stmt:=inClass (top 45) 7
theorem sc_m_Piece_move:FnScope ["self","way"] ["self","way"] (defScope s_m_Piece_move):=⟨rfl,rfl,rfl,by decide +kernel,rfl,by decide +kernel,by decide +kernel⟩
abbrev s_m_Piece_close_nut:Stmt:=inClass (top 45) 8
theorem sc_m_Piece_close_nut:FnScope ["self"] ["self"] (defScope s_m_Piece_close_nut):=⟨rfl,rfl,rfl,by decide +kernel,rfl,by decide +kernel,by decide +kernel⟩
abbrev s_m_Piece_open_nut:Stmt:=inClass (top 45) 9
theorem sc_m_Piece_open_nut:FnScope ["self"] ["self"] (defScope s_m_Piece_open_nut):=⟨rfl,rfl,rfl,by decide +kernel,rfl,by decide +kernel,by decide +kernel⟩
abbrev s_m_Piece_cut:Stmt:=inClass (top 45) 10
theorem sc_m_Piece_cut:FnScope ["self","turns","closing"] ["self","turns"] (defScope s_m_Piece_cut):=⟨rfl,rfl,rfl,by decide +kernel,rfl,by decide +kernel,by decide +kernel⟩
abbrev s_m_Lathe___init__:Stmt:=inClass (top 59) 0
theorem sc_m_Lathe___init__:FnScope ["self","wheels","teeth"] ["self","wheels","teeth"] (defScope s_m_Lathe___init__):=⟨rfl,rfl,rfl,by decide +kernel,rfl,by decide +kernel,by decide +kernel⟩
abbrev s_m_Lathe_enter:Stmt:=inClass (top 59) 1
theorem sc_m_Lathe_enter:FnScope ["self","word","what","after"] ["self","word","what","after"] (defScope s_m_Lathe_enter):=⟨rfl,rfl,rfl,by decide +kernel,rfl,by decide +kernel,by decide +kernel⟩
abbrev s_m_Lathe_mount:Stmt:=inClass (top 59) 2
theorem sc_m_Lathe_mount:FnScope ["self","train","mounted"] ["self","train"] (defScope s_m_Lathe_mount):=⟨rfl,rfl,rfl,by decide +kernel,rfl,by decide +kernel,by decide +kernel⟩
abbrev s_m_Lathe_turn:Stmt:=inClass (top 59) 3
theorem sc_m_Lathe_turn:FnScope ["self","turns","after"] ["self","turns"] (defScope s_m_Lathe_turn):=⟨rfl,rfl,rfl,by decide +kernel,rfl,by decide +kernel,by decide +kernel⟩
abbrev s_m_Lathe_wait:Stmt:=inClass (top 59) 4
theorem sc_m_Lathe_wait:FnScope ["self","turns","after"] ["self"] (defScope s_m_Lathe_wait):=⟨rfl,rfl,rfl,by decide +kernel,rfl,by decide +kernel,by decide +kernel⟩
abbrev s_m_Lathe_close_nut:Stmt:=inClass (top 59) 5
theorem sc_m_Lathe_close_nut:FnScope ["self","off","after"] ["self"] (defScope s_m_Lathe_close_nut):=⟨rfl,rfl,rfl,by decide +kernel,rfl,by decide +kernel,by decide +kernel⟩
abbrev s_m_Lathe_open_nut:Stmt:=inClass (top 59) 6
theorem sc_m_Lathe_open_nut:FnScope ["self","after"] ["self"] (defScope s_m_Lathe_open_nut):=⟨rfl,rfl,rfl,by decide +kernel,rfl,by decide +kernel,by decide +kernel⟩
abbrev s_m_Lathe_move:Stmt:=inClass (top 59) 7
theorem sc_m_Lathe_move:FnScope ["self","way","after"] ["self","way"] (defScope s_m_Lathe_move):=⟨rfl,rfl,rfl,by decide +kernel,rfl,by decide +kernel,by decide +kernel⟩
abbrev s_m_Lathe_cut:Stmt:=inClass (top 59) 8
theorem sc_m_Lathe_cut:FnScope ["self","turns","after"] ["self","turns"] (defScope s_m_Lathe_cut):=⟨rfl,rfl,rfl,by decide +kernel,rfl,by decide +kernel,by decide +kernel⟩
abbrev s_m_Lathe_stand:Stmt:=inClass (top 59) 10
theorem sc_m_Lathe_stand:FnScope ["self"] ["self"] (defScope s_m_Lathe_stand):=⟨rfl,rfl,rfl,by decide +kernel,rfl,by decide +kernel,by decide +kernel⟩
abbrev s_m_Lathe_reading:Stmt:=inClass (top 59) 11
theorem sc_m_Lathe_reading:FnScope ["self","off"] ["self"] (defScope s_m_Lathe_reading):=⟨rfl,rfl,rfl,by decide +kernel,rfl,by decide +kernel,by decide +kernel⟩
abbrev s_m_Lathe_mounted:Stmt:=inClass (top 59) 12
theorem sc_m_Lathe_mounted:FnScope ["self"] ["self"] (defScope s_m_Lathe_mounted):=⟨rfl,rfl,rfl,by decide +kernel,rfl,by decide +kernel,by decide +kernel⟩
abbrev s_m_Lathe_pitch:Stmt:=inClass (top 59) 13
theorem sc_m_Lathe_pitch:FnScope ["self"] ["self"] (defScope s_m_Lathe_pitch):=⟨rfl,rfl,rfl,by decide +kernel,rfl,by decide +kernel,by decide +kernel⟩
abbrev s_m_Lathe_nut:Stmt:=inClass (top 59) 16
theorem sc_m_Lathe_nut:FnScope ["self"] ["self"] (defScope s_m_Lathe_nut):=⟨rfl,rfl,rfl,by decide +kernel,rfl,by decide +kernel,by decide +kernel⟩
abbrev s_m_Lathe_off:Stmt:=inClass (top 59) 17
theorem sc_m_Lathe_off:FnScope ["self"] ["self"] (defScope s_m_Lathe_off):=⟨rfl,rfl,rfl,by decide +kernel,rfl,by decide +kernel,by decide +kernel⟩
abbrev s_m_Lathe_passes:Stmt:=inClass (top 59) 20
theorem sc_m_Lathe_passes:FnScope ["self"] ["self"] (defScope s_m_Lathe_passes):=⟨rfl,rfl,rfl,by decide +kernel,rfl,by decide +kernel,by decide +kernel⟩
abbrev s_m_Lathe_book:Stmt:=inClass (top 59) 21
theorem sc_m_Lathe_book:FnScope ["self"] ["self"] (defScope s_m_Lathe_book):=⟨rfl,rfl,rfl,by decide +kernel,rfl,by decide +kernel,by decide +kernel⟩
abbrev s_m_Lathe_marks:Stmt:=inClass (top 59) 23
theorem sc_m_Lathe_marks:FnScope ["self"] ["self"] (defScope s_m_Lathe_marks):=⟨rfl,rfl,rfl,by decide +kernel,rfl,by decide +kernel,by decide +kernel⟩
abbrev s_m_Lathe_spoilt:Stmt:=inClass (top 59) 26
theorem sc_m_Lathe_spoilt:FnScope ["self","ratio","number","made","groove"] ["self"] (defScope s_m_Lathe_spoilt):=⟨rfl,rfl,rfl,by decide +kernel,rfl,by decide +kernel,by decide +kernel⟩
structure Txt (K:PySem.W.Frag) (mg:Str→Option Value):Prop where
 h_f_greatest_divisor:Here K mg "greatest_divisor" s_f_greatest_divisor ["a","b"]
 h_f_least_terms:Here K mg "least_terms" s_f_least_terms ["top","bottom"]
 h_f_sum_of:Here K mg "sum_of" s_f_sum_of ["a","b"]
 h_f_difference:Here K mg "difference" s_f_difference ["a","b"]
 h_f_product:Here K mg "product" s_f_product ["a","b"]
 h_f_quotient:Here K mg "quotient" s_f_quotient ["a","b"]
 h_f_is_less:Here K mg "is_less" s_f_is_less ["a","b"]
 h_f_remainder:Here K mg "remainder" s_f_remainder ["a","b"]
 h_f_top_of:Here K mg "top_of" s_f_top_of ["ratio"]
 h_f_groove_of:Here K mg "groove_of" s_f_groove_of ["ratio","closing"]
 h_f_inverse_of:Here K mg "inverse_of" s_f_inverse_of ["number","modulus"]
 h_f_least_closing:Here K mg "least_closing" s_f_least_closing ["ratio","groove"]
 h_f_reading_of:Here K mg "reading_of" s_f_reading_of ["off","teeth"]
 h_f_spoiling_at:Here K mg "spoiling_at" s_f_spoiling_at ["ratio","teeth","mark"]
 h_f_safe_marks:Here K mg "safe_marks" s_f_safe_marks ["ratio","teeth"]
 h_f_marks_of:Here K mg "marks_of" s_f_marks_of ["ratio","teeth","groove"]
 h_f_soonest_of:Here K mg "soonest_of" s_f_soonest_of ["ratio","off","start","step"]
 h_f_soonest_safe:Here K mg "soonest_safe" s_f_soonest_safe ["ratio","off"]
 h_f_plain_ratio:Here K mg "plain_ratio" s_f_plain_ratio ["train"]
 h_f_ratio_of:Here K mg "ratio_of" s_f_ratio_of ["train"]
 h_f_pairs_of:Here K mg "pairs_of" s_f_pairs_of ["teeth"]
 h_f_fours_of:Here K mg "fours_of" s_f_fours_of ["pairs"]
 h_f_all_trains:Here K mg "all_trains" s_f_all_trains ["wheels"]
 h_f_gives:Here K mg "gives" s_f_gives ["train","pitch"]
 h_f_trains_for:Here K mg "trains_for" s_f_trains_for ["wheels","pitch"]
 h_f_counted:Here K mg "counted" s_f_counted ["count","amount"]
 h_f_is_within:Here K mg "is_within" s_f_is_within ["number","least","most"]
 h_f_has_two_alike:Here K mg "has_two_alike" s_f_has_two_alike ["wheels"]
 h_f_check_shop:Here K mg "check_shop" s_f_check_shop ["wheels"]
 h_f_check_dial:Here K mg "check_dial" s_f_check_dial ["teeth"]
 h_f_check_known:Here K mg "check_known" s_f_check_known ["shop","train"]
 h_f_check_train:Here K mg "check_train" s_f_check_train ["train"]
 h_f_check_mounted:Here K mg "check_mounted" s_f_check_mounted ["piece"]
 h_f_check_nut_open:Here K mg "check_nut_open" s_f_check_nut_open ["piece"]
 h_f_check_nut_closed:Here K mg "check_nut_closed" s_f_check_nut_closed ["piece"]
 h_f_check_bottom:Here K mg "check_bottom" s_f_check_bottom ["fraction"]
 h_f_check_count:Here K mg "check_count" s_f_check_count ["count","amount"]
 h_f_do_deed:Here K mg "do_deed" s_f_do_deed ["lathe","word","what"]
 h_f_replay:Here K mg "replay" s_f_replay ["wheels","teeth","deeds"]
 h_l_at:Here K mg "_law_at" s_l_at ["_law_script","_law_k"]
 h_l_draw:Here K mg "_law_draw" s_l_draw ["_law_script","_law_k"]
 h_l_whole:Here K mg "_law_whole" s_l_whole ["_law_found"]
 h_l_gcd:Here K mg "_law_gcd" s_l_gcd ["_law_a","_law_b"]
 h_l_row:Here K mg "_law_row" s_l_row ["_law_found","_law_due"]
 h_l_row_or_none:Here K mg "_law_row_or_none" s_l_row_or_none ["_law_found","_law_due"]
 h_l_kept:Here K mg "_law_kept" s_l_kept ["_law_handed","_law_copy_of"]
 h_l_shop:Here K mg "_law_shop" s_l_shop ["_law_cell","_law_many"]
 h_l_pick:Here K mg "_law_pick" s_l_pick ["_law_cell","_law_wheels","_law_many"]
 h_l_ratio:Here K mg "_law_ratio" s_l_ratio ["_law_train"]
 h_l_red:Here K mg "_law_red" s_l_red ["_law_top","_law_bottom"]
 h_l_may:Here K mg "_law_may" s_l_may ["_law_found","_law_due"]
 h_l_is:Here K mg "_law_is" s_l_is ["_law_found","_law_due"]
 h_l_rows:Here K mg "_law_rows" s_l_rows ["_law_found","_law_due"]
 h_l_any_shop:Here K mg "_law_any_shop" s_l_any_shop ["_law_script","_law_k"]
 h_l_teeth:Here K mg "_law_teeth" s_l_teeth ["_law_script"]
 h_l_good_train:Here K mg "_law_good_train" s_l_good_train ["_law_cell","_law_wheels"]
 h_l_unknown:Here K mg "_law_unknown" s_l_unknown ["_law_lathe","_law_train"]
 h_l_shown:Here K mg "_law_shown" s_l_shown ["_law_closing","_law_top","_law_teeth_here"]
 h_l_tells:Here K mg "_law_tells" s_l_tells ["_law_lathe","_law_train","_law_way","_law_teeth_here","_law_marks"]
 h_l_mess:Here K mg "_law_mess" s_l_mess ["_law_lathe","_law_wheels","_law_teeth_here","_law_pitch"]
 g_Book:mg "Book" = some (.ref (cOf mg "Book"))
 g_Piece:mg "Piece" = some (.ref (cOf mg "Piece"))
 g_Lathe:mg "Lathe" = some (.ref (cOf mg "Lathe"))
 g_LatheError:mg "LatheError" = some (.ref (cOf mg "LatheError"))
 g_UnknownWheel:mg "UnknownWheel" = some (.ref (cOf mg "UnknownWheel"))
 g_NoTrain:mg "NoTrain" = some (.ref (cOf mg "NoTrain"))
 g_WrongNut:mg "WrongNut" = some (.ref (cOf mg "WrongNut"))
 g_BadNumber:mg "BadNumber" = some (.ref (cOf mg "BadNumber"))
 g_NoMeeting:mg "NoMeeting" = some (.ref (cOf mg "NoMeeting"))
 g_BookFull:mg "BookFull" = some (.ref (cOf mg "BookFull"))
 g_MOST_DEEDS:∃ u,mg "MOST_DEEDS" = some u∧RelV (.int 100) u
 g_NOUGHT:mg "NOUGHT" = some (.ref (cOf mg "NOUGHT"))
 t_NOUGHT:SqT K (fun _=>none) (cOf mg "NOUGHT") [.int 0,.int 1]
 g_MOST_COUNTED:mg "MOST_COUNTED" = some (.ref (cOf mg "MOST_COUNTED"))
 t_MOST_COUNTED:SqT K (fun _=>none) (cOf mg "MOST_COUNTED") [.int 100000,.int 1]
 cl_Book:Cls K (cOf mg "Book")
 na_Book_entries:NoAttr K (cOf mg "Book") "entries"
 cl_Piece:Cls K (cOf mg "Piece")
 na_Piece_closed:NoAttr K (cOf mg "Piece") "closed"
 na_Piece_cuts:NoAttr K (cOf mg "Piece") "cuts"
 na_Piece_first:NoAttr K (cOf mg "Piece") "first"
 na_Piece_move_count:NoAttr K (cOf mg "Piece") "move_count"
 na_Piece_place:NoAttr K (cOf mg "Piece") "place"
 na_Piece_ratio:NoAttr K (cOf mg "Piece") "ratio"
 na_Piece_train:NoAttr K (cOf mg "Piece") "train"
 na_Piece_turn_count:NoAttr K (cOf mg "Piece") "turn_count"
 na_Piece_work_turns:NoAttr K (cOf mg "Piece") "work_turns"
 cl_Lathe:Cls K (cOf mg "Lathe")
 na_Lathe_piece:NoAttr K (cOf mg "Lathe") "piece"
 na_Lathe_record:NoAttr K (cOf mg "Lathe") "record"
 na_Lathe_shop:NoAttr K (cOf mg "Lathe") "shop"
 na_Lathe_teeth:NoAttr K (cOf mg "Lathe") "teeth"
 hi_Book:HereI K (cOf mg "Book") "Book.__init__" s_m_Book___init__ ["self"]
 hm_Book_write:HereM K (cOf mg "Book") "write" "Book.write" s_m_Book_write ["self","word","what","before"]
 hm_Book_deeds:HereM K (cOf mg "Book") "deeds" "Book.deeds" s_m_Book_deeds ["self"]
 hi_Piece:HereI K (cOf mg "Piece") "Piece.__init__" s_m_Piece___init__ ["self","train"]
 hm_Piece_twin:HereM K (cOf mg "Piece") "twin" "Piece.twin" s_m_Piece_twin ["self"]
 hm_Piece_off:HereM K (cOf mg "Piece") "off" "Piece.off" s_m_Piece_off ["self"]
 hm_Piece_next_safe:HereM K (cOf mg "Piece") "next_safe" "Piece.next_safe" s_m_Piece_next_safe ["self"]
 hm_Piece_last_groove:HereM K (cOf mg "Piece") "last_groove" "Piece.last_groove" s_m_Piece_last_groove ["self"]
 hm_Piece_turn:HereM K (cOf mg "Piece") "turn" "Piece.turn" s_m_Piece_turn ["self","turns"]
 hm_Piece_move:HereM K (cOf mg "Piece") "move" "Piece.move" s_m_Piece_move ["self","way"]
 hm_Piece_close_nut:HereM K (cOf mg "Piece") "close_nut" "Piece.close_nut" s_m_Piece_close_nut ["self"]
 hm_Piece_open_nut:HereM K (cOf mg "Piece") "open_nut" "Piece.open_nut" s_m_Piece_open_nut ["self"]
 hm_Piece_cut:HereM K (cOf mg "Piece") "cut" "Piece.cut" s_m_Piece_cut ["self","turns"]
 hi_Lathe:HereI K (cOf mg "Lathe") "Lathe.__init__" s_m_Lathe___init__ ["self","wheels","teeth"]
 hm_Lathe_enter:HereM K (cOf mg "Lathe") "enter" "Lathe.enter" s_m_Lathe_enter ["self","word","what","after"]
 hm_Lathe_mount:HereM K (cOf mg "Lathe") "mount" "Lathe.mount" s_m_Lathe_mount ["self","train"]
 hm_Lathe_turn:HereM K (cOf mg "Lathe") "turn" "Lathe.turn" s_m_Lathe_turn ["self","turns"]
 hm_Lathe_wait:HereM K (cOf mg "Lathe") "wait" "Lathe.wait" s_m_Lathe_wait ["self"]
 hm_Lathe_close_nut:HereM K (cOf mg "Lathe") "close_nut" "Lathe.close_nut" s_m_Lathe_close_nut ["self"]
 hm_Lathe_open_nut:HereM K (cOf mg "Lathe") "open_nut" "Lathe.open_nut" s_m_Lathe_open_nut ["self"]
 hm_Lathe_move:HereM K (cOf mg "Lathe") "move" "Lathe.move" s_m_Lathe_move ["self","way"]
 hm_Lathe_cut:HereM K (cOf mg "Lathe") "cut" "Lathe.cut" s_m_Lathe_cut ["self","turns"]
 hm_Lathe_stand:HereM K (cOf mg "Lathe") "stand" "Lathe.stand" s_m_Lathe_stand ["self"]
 hm_Lathe_reading:HereM K (cOf mg "Lathe") "reading" "Lathe.reading" s_m_Lathe_reading ["self"]
 hm_Lathe_mounted:HereM K (cOf mg "Lathe") "mounted" "Lathe.mounted" s_m_Lathe_mounted ["self"]
 hm_Lathe_pitch:HereM K (cOf mg "Lathe") "pitch" "Lathe.pitch" s_m_Lathe_pitch ["self"]
 hm_Lathe_nut:HereM K (cOf mg "Lathe") "nut" "Lathe.nut" s_m_Lathe_nut ["self"]
 hm_Lathe_off:HereM K (cOf mg "Lathe") "off" "Lathe.off" s_m_Lathe_off ["self"]
 hm_Lathe_passes:HereM K (cOf mg "Lathe") "passes" "Lathe.passes" s_m_Lathe_passes ["self"]
 hm_Lathe_book:HereM K (cOf mg "Lathe") "book" "Lathe.book" s_m_Lathe_book ["self"]
 hm_Lathe_marks:HereM K (cOf mg "Lathe") "marks" "Lathe.marks" s_m_Lathe_marks ["self"]
 hm_Lathe_spoilt:HereM K (cOf mg "Lathe") "spoilt" "Lathe.spoilt" s_m_Lathe_spoilt ["self"]
 x_LatheError:XCls K (cOf mg "LatheError")
 mro_LatheError_UnknownWheel:PySem.W.mroIn K (cOf mg "LatheError") (.ref (cOf mg "UnknownWheel"))=some false
 x_UnknownWheel:XCls K (cOf mg "UnknownWheel")
 mro_UnknownWheel_UnknownWheel:PySem.W.mroIn K (cOf mg "UnknownWheel") (.ref (cOf mg "UnknownWheel"))=some true
 x_NoTrain:XCls K (cOf mg "NoTrain")
 mro_NoTrain_UnknownWheel:PySem.W.mroIn K (cOf mg "NoTrain") (.ref (cOf mg "UnknownWheel"))=some false
 x_WrongNut:XCls K (cOf mg "WrongNut")
 mro_WrongNut_UnknownWheel:PySem.W.mroIn K (cOf mg "WrongNut") (.ref (cOf mg "UnknownWheel"))=some false
 x_BadNumber:XCls K (cOf mg "BadNumber")
 mro_BadNumber_UnknownWheel:PySem.W.mroIn K (cOf mg "BadNumber") (.ref (cOf mg "UnknownWheel"))=some false
 x_NoMeeting:XCls K (cOf mg "NoMeeting")
 mro_NoMeeting_UnknownWheel:PySem.W.mroIn K (cOf mg "NoMeeting") (.ref (cOf mg "UnknownWheel"))=some false
 x_BookFull:XCls K (cOf mg "BookFull")
 mro_BookFull_UnknownWheel:PySem.W.mroIn K (cOf mg "BookFull") (.ref (cOf mg "UnknownWheel"))=some false
 z_abs:mg "abs" = none
 z_bool:mg "bool" = none
 z_enumerate:mg "enumerate" = none
 z_int:mg "int" = none
 z_isinstance:mg "isinstance" = none
 z_len:mg "len" = none
 z_list:mg "list" = none
 z_min:mg "min" = none
 z_range:mg "range" = none
 z_set:mg "set" = none
 z_sorted:mg "sorted" = none
 z_tuple:mg "tuple" = none
section
variable {P:Program} {w:World} {K:PySem.W.Frag} {mg:Str→Option Value} {base:Heap}
def atF (ns:List Int) (k:Int):Int:=if k<(ns.length:Int) then ns.getD k.toNat 0 else 0
def spAt (K:PySem.W.Frag):Sp:=fun vs H Q _=>∃ (a:Addr) (ns:List Int) (k:Int),vs=[.ref a,.int k]∧SqL K H a (ns.map V.int)∧0≤k∧Q (.int (atF ns k)) H
theorem d_l_at (T:Txt K mg):DefOk P w K mg base "_law_at" ["_law_script","_law_k"] 1 (spAt K):=by
 obtain ⟨f,fd,F,hm,hb⟩:=T.h_l_at
 refine ⟨f,fd,F.ok sc_l_at (fun vs H Q E h=>?_) (fun cdv A outer s H vs Q E hr h=>?_),hm,F.kp,hb⟩
 ·obtain ⟨a,ns,k,rfl,_⟩:=h
  rfl
 obtain ⟨a,ns,k,rfl,hS,h0,q⟩:=h
 refine ⟨_,(@pss_cons _ _ _ _ _ (ps_if (pt_cmp (pc_lt (pv 1) (pe_callB call_len_seq (by rfl) T.z_len PySem.boot_len (pa_cons (pv 0) pa_nil))))
 (@pss_one _ _ _ (@ps_ret _ _ _ _ (@pe_ix _ _ _ _ _ _ _ ix_list (pv 0) (pv 1) (fun _ _=>rfl))))
 pss_nil)
 (@pss_one _ _ _ (@ps_ret _ _ _ _ pe_int))),?_⟩
 refine ⟨_,rfl,_,rfl,a,_,rfl,.inl hS,_,_,rfl,rfl,_,rfl,?_⟩
 have hl:(ns.map V.int).length=ns.length:=List.length_map _
 refine ite2 (fun c=>?_) (fun c=>?_)
 ·have c':k<(((ns.map V.int).length:Nat):Int):=of_decide_eq_true c
  rw [hl] at c'
  have hk:k.toNat<ns.length:=by omega
  have e1:atF ns k=ns[k.toNat]:=by
   unfold atF
   rw [if_pos c',List.getD_eq_getElem?_getD,List.getElem?_eq_getElem hk]
   rfl
  have hv:atI (ns.map V.int) k=some (.int (atF ns k)):=by
   have ek:k=((k.toNat:Nat):Int):=by omega
   have:=atI_nat (xs:=ns.map V.int) (j:=k.toNat) (v:=.int ns[k.toNat]) (by rw [List.getElem?_map,List.getElem?_eq_getElem hk] <;> rfl)
   rw [← ek] at this
   rw [e1];exact this
  exact ⟨_,rfl,_,rfl,a,_,_,_,rfl,rfl,hS,hv,q⟩
 ·have c':¬ k<(((ns.map V.int).length:Nat):Int):=of_decide_eq_false (Bool.eq_false_iff.mpr c)
  rw [hl] at c'
  have e1:atF ns k=0:=if_neg c'
  rw [e1] at q
  exact q

def drawF (ns:List Int) (k:Int):Int:=if atF ns 0 % 2=0 then atF ns k else (atF ns k * 48271 % 2147483647 + 977 * k) * 69621 % 2147483647
def spDraw (K:PySem.W.Frag):Sp:=fun vs H Q _=>∃ (a:Addr) (ns:List Int) (k:Int),vs=[.ref a,.int k]∧SqL K H a (ns.map V.int)∧0≤k∧k≤1000∧Q (.int (drawF ns k)) H
theorem d_l_draw (T:Txt K mg):DefOk P w K mg base "_law_draw" ["_law_script","_law_k"] 2 (spDraw K):=by
 obtain ⟨f,fd,F,hm,hb⟩:=T.h_l_draw
 refine ⟨f,fd,F.ok sc_l_draw (fun vs H Q E h=>?_) (fun cdv A outer s H vs Q E hr h=>?_),hm,F.kp,hb⟩
 ·obtain ⟨a,ns,k,rfl,_⟩:=h
  rfl
 obtain ⟨a,ns,k,rfl,hS,h0,h1,q⟩:=h
 refine ⟨_,(@pss_cons _ _ _ _ _ (@ps_set _ _ 2 _ _ _ _ sc_l_draw.nd rfl (Or.inl rfl) (pe_callD (d_l_at T) hr (pa_cons (pv 0) (pa_cons (pv 1) pa_nil))) (by rfl) (by first | exact .inl rfl | exact .inr rfl))
 (@pss_cons _ _ _ _ _ (ps_if (pt_cmp (pc_eqI (pe_op op_mod (pe_callD (d_l_at T) hr (pa_cons (pv 0) (pa_cons pe_int pa_nil))) pe_int) pe_int))
 (@pss_one _ _ _ (@ps_ret _ _ _ _ (pv 2)))
 pss_nil)
 (@pss_one _ _ _ (@ps_ret _ _ _ _ (pe_op op_mod (pe_op op_mulX (pe_op op_add (pe_op op_mod (pe_op op_mulX (pv 2) pe_int) pe_int) (pe_op op_mulX pe_int (pv 1))) pe_int) pe_int))))),?_⟩
 refine ⟨_,rfl,_,rfl,a,ns,k,rfl,hS,h0,?_⟩
 refine ⟨_,rfl,a,ns,0,rfl,hS,Int.le_refl 0,_,_,rfl,rfl,(by show (0:Int)<2;decide),_,_,rfl,rfl,_,rfl,?_⟩
 refine ite2 (fun c=>?_) (fun c=>?_)
 ·have c':atF ns 0 % 2=0:=of_decide_eq_true c
  have e:drawF ns k=atF ns k:=if_pos c'
  rw [e] at q
  exact ⟨_,rfl,q⟩
 ·have c':¬ atF ns 0 % 2=0:=of_decide_eq_false (Bool.eq_false_iff.mpr c)
  have e:drawF ns k=(atF ns k * 48271 % 2147483647 + 977 * k) * 69621 % 2147483647:=if_neg c'
  rw [e] at q
  exact ⟨_,rfl,_,_,rfl,rfl,.inl (.inr ⟨by decide,by decide⟩),_,_,rfl,rfl,(by show (0:Int)<2147483647;decide),_,rfl,_,_,rfl,rfl,.inl (.inl ⟨by decide,by decide⟩),_,_,rfl,rfl,_,_,rfl,rfl,.inl (.inr ⟨by decide,by decide⟩),_,_,rfl,rfl,(by show (0:Int)<2147483647;decide),q⟩

def spShop:Sp:=fun vs H Q _=>∃ (c:Int) (n:Nat),vs=[.int c,.int (n:Int)]∧n≤100∧∀ (ws:List Int) (p:Addr) (H':Hp),Shop ws→ws.length=n→Same H H'→H p=none→H' p=some (.lst (ws.map V.int))→Q (.ref p) H'
theorem d_l_shop (T:Txt K mg):DefOk P w K mg base "_law_shop" ["_law_cell","_law_many"] 1 spShop:=by
 obtain ⟨f,fd,F,hm,hb⟩:=T.h_l_shop
 refine ⟨f,fd,F.ok sc_l_shop (fun vs H Q E h=>?_) (fun cdv A outer s H vs Q E hr h=>?_),hm,F.kp,hb⟩
 ·obtain ⟨c,n,rfl,_⟩:=h
  rfl
 obtain ⟨c,n,rfl,hn,q⟩:=h
 refine ⟨_,(@pss_cons _ _ _ _ _ (@ps_set _ _ 2 _ _ _ _ sc_l_shop.nd rfl (Or.inl rfl) (@pe_lst _ _ _ _ pa_nil) (by rfl) (by first | exact .inl rfl | exact .inr rfl))
 (@pss_cons _ _ _ _ _ (@ps_set _ _ 3 _ _ _ _ sc_l_shop.nd rfl (Or.inl rfl) (pv 0) (by rfl) (by first | exact .inl rfl | exact .inr rfl))
 (@pss_cons _ _ _ _ _ (ps_for PassesOwn.never rfl (pi_range1 (by rfl) T.z_range (pa_cons (pv 1) pa_nil)) (pg_name (i:=4) sc_l_shop.nd rfl (Or.inl rfl))
 (@pss_cons _ _ _ _ _ (@ps_set _ _ 5 _ _ _ _ sc_l_shop.nd rfl (Or.inl rfl) (pe_op op_add pe_int (pe_op op_mod (pv 3) pe_int)) (by rfl) (by first | exact .inl rfl | exact .inr rfl))
 (@pss_cons _ _ _ _ _ (@ps_set _ _ 3 _ _ _ _ sc_l_shop.nd rfl (Or.inl rfl) (pe_op op_add (pe_op op_fdivP (pv 3) pe_int) (pe_op op_mulX pe_int (pv 4))) (by rfl) (by first | exact .inl rfl | exact .inr rfl))
 (@pss_cons _ _ _ _ _ (ps_while PassesOwn.never (pt_cmpR op_in_seq (pv 5) (pv 2) (by with_unfolding_all rfl))
 (@pss_one _ _ _ (@ps_set _ _ 5 _ _ _ _ sc_l_shop.nd rfl (Or.inl rfl) (pe_op op_add pe_int (pe_op op_mod (pe_op op_sub (pv 5) pe_int) pe_int)) (by rfl) (by first | exact .inl rfl | exact .inr rfl))))
 (@pss_one _ _ _ (ps_expr (pe_bm PySem.F.plainAttrs_list PySem.F.slot_list_append PySem.F.type_list_append mt_append (pv 2) (pa_cons (pv 5) pa_nil))))))))
 (@pss_one _ _ _ (@ps_ret _ _ _ _ (pv 2)))))),?_⟩
 refine ⟨(by show 0≤sizeLine;decide),fun D hD=>?_⟩
 refine ⟨_,rfl,_,rfl,(n:Int),rfl,by omega,by omega,?_⟩
 rw [Int.toNat_natCast]
 refine for_range (lo:=0) (n:=n) (fun i σ H'=>∃ (ws:List Int) (lf:Int) (k t:Option V),σ=[some (.int c),some (.int (n:Int)),some (.ref D),some (.int lf),k,t]∧Same H H'∧H' D=some (.lst (ws.map V.int))∧ws.length=i∧Shop ws)
  ⟨[],c,none,none,rfl,same_new hD _,upd_same,rfl,⟨by simp,by simp,by simp⟩⟩ ?_ ?_
 ·rintro i σ H' hi ⟨ws,lf,k,t,rfl,hs,hw,hl,S⟩
  refine ⟨_,rfl,_,_,rfl,rfl,(by show (0:Int)<118;decide),_,_,rfl,rfl,?_⟩
  refine ⟨_,rfl,_,_,rfl,rfl,⟨by decide,by unfold Bd;decide⟩,_,rfl,_,_,rfl,rfl,.inl (.inl ⟨by decide,by decide⟩),_,_,rfl,rfl,?_⟩
  obtain ⟨j,hj,nj⟩:=free_tooth 118 ws (by omega)
  refine ⟨fun m σ2 H2=>∃ (x:Int),σ2=[some (.int c),some (.int (n:Int)),some (.ref D),some (.int (lf / 118 + 53 * (0 + (i:Int)))),some (.int (0 + (i:Int))),some (.int x)]∧H2=H'∧10≤x∧x≤127∧m=((10 + (j:Int) - x) % 118).toNat,
   ⟨_,_,rfl,rfl,by omega,by omega,rfl⟩,?_⟩
  rintro m σ2 H2 ⟨x,rfl,rfl,x0,x1,rfl⟩
  refine ⟨_,rfl,_,rfl,D,_,rfl,.inl (SqL.of hw),rfl,flat_ints ws,_,rfl,?_⟩
  dsimp only
  rw [if_neg Bool.false_ne_true,in_ints]
  refine iteD (fun hin=>?_) (fun hin=>?_)
  ·have hne:x≠10 + (j:Int):=fun e=>nj (e ▸ hin)
   refine ⟨fun σ3 H3=>∃ (y:Int),σ3=[some (.int c),some (.int (n:Int)),some (.ref D),some (.int (lf / 118 + 53 * (0 + (i:Int)))),some (.int (0 + (i:Int))),some (.int y)]∧H3=H2∧10≤y∧y≤127∧((10 + (j:Int) - y) % 118).toNat<((10 + (j:Int) - x) % 118).toNat,?_,?_⟩
   ·rintro σ3 H3 ⟨y,rfl,rfl,y0,y1,y2⟩
    exact ⟨_,y2,y,rfl,rfl,y0,y1,rfl⟩
   ·exact ⟨_,rfl,_,_,rfl,rfl,_,_,rfl,rfl,(by show (0:Int)<118;decide),_,_,rfl,rfl,_,rfl,rfl,by omega,by omega,by omega⟩
  ·refine ⟨_,rfl,.inl ⟨rfl,_,SqL.of hw⟩,_,rfl,D,_,_,rfl,rfl,hw,(by rw [List.length_map];exact small1000 (by omega)),?_⟩
   refine ⟨ws++[x],_,_,_,rfl,fun b o e=>?_,?_,by simp [hl],S.snoc x0 x1 hin⟩
   ·rw [upd_ne (ne_of_none e hD)];exact hs b o e
   ·rw [upd_same,List.map_append];rfl
 ·rintro σ H' ⟨ws,lf,k,t,rfl,hs,hw,hl,S⟩
  exact ⟨_,rfl,q ws D H' S hl hs hD hw⟩

def spAny (K:PySem.W.Frag):Sp:=fun vs H Q _=>∃ (a:Addr) (ns:List Int) (k:Int),vs=[.ref a,.int k]∧SqL K H a (ns.map V.int)∧0≤k∧k≤900 ∧
 ∀ (ws:List Int) (p:Addr) (H':Hp),Shop ws→2≤ws.length→ws.length≤12→Same H H'→H p=none→H' p=some (.lst (ws.map V.int))→Q (.ref p) H'
theorem d_l_any_shop (T:Txt K mg):DefOk P w K mg base "_law_any_shop" ["_law_script","_law_k"] 3 (spAny K):=by
 obtain ⟨f,fd,F,hm,hb⟩:=T.h_l_any_shop
 refine ⟨f,fd,F.ok sc_l_any_shop (fun vs H Q E h=>?_) (fun cdv A outer s H vs Q E hr h=>?_),hm,F.kp,hb⟩
 ·obtain ⟨a,ns,k,rfl,_⟩:=h
  rfl
 obtain ⟨a,ns,k,rfl,hS,h0,h1,q⟩:=h
 refine ⟨_,(@pss_cons _ _ _ _ _ (@ps_set _ _ 2 _ _ _ _ sc_l_any_shop.nd rfl (Or.inl rfl) (pe_callD (d_l_draw T) hr (pa_cons (pv 0) (pa_cons (pv 1) pa_nil))) (by rfl) (by first | exact .inl rfl | exact .inr rfl))
 (@pss_cons _ _ _ _ _ (@ps_set _ _ 3 _ _ _ _ sc_l_any_shop.nd rfl (Or.inr rfl) (pe_callD (d_l_draw T) hr (pa_cons (pv 0) (pa_cons (pe_op op_add (pv 1) pe_int) pa_nil))) (by rfl) (by first | exact .inl rfl | exact .inr rfl))
 (@pss_cons _ _ _ _ _ (@ps_set _ _ 4 _ _ _ _ sc_l_any_shop.nd rfl (Or.inl rfl) (pe_op op_add pe_int (pe_op op_mod (pe_op op_mod (pv 2) pe_int) (@pe_ix _ _ _ _ _ _ _ ix_list (@pe_lst _ _ _ _ (pa_cons pe_int (pa_cons pe_int pa_nil))) (pe_callTy call_int1 (by rfl) T.z_int PyProof.Rows.boot_int (pa_cons (pe_cmp (pc_lt (pe_op op_mod (pv 2) pe_int) pe_int)) pa_nil)) (fun _ _=>rfl)))) (by rfl) (by first | exact .inl rfl | exact .inr rfl))
 (@pss_cons _ _ _ _ _ (@ps_set _ _ 5 _ _ _ _ sc_l_any_shop.nd rfl (Or.inr rfl) (@pe_lst _ _ _ _ (@pa_ints _ _ [20,30,40,50,60,80,100,120,90,45,24,36] rfl)) (by rfl) (by first | exact .inl rfl | exact .inr rfl))
 (@pss_cons _ _ _ _ _ (ps_if (pt_cmp (pc_eqI (pe_op op_mod (pe_op op_fdivP (pv 2) pe_int) pe_int) pe_int))
 (@pss_one _ _ _ (@ps_ret _ _ _ _ (pe_comp0 rfl (sc:=defScope s_l_any_shop) rfl (N:=["_law_script","_law_k","_law_cell","_law_far","_law_many","_law_pool"]) rfl ⟨by decide +kernel,rfl,by decide +kernel,by decide +kernel,rfl,by decide +kernel,by decide +kernel,by decide +kernel⟩ (pi_range1 (by rfl) T.z_range (pa_cons (pv 4) pa_nil)) (fun _ _ _ _ _ _=>(@pe_ix _ _ _ _ _ _ _ (ix_listK (K:=K) rfl) (pv 6) (pe_op op_mod (pe_op op_add (pv 4) (pe_op op_mulX pe_int (pv 0))) pe_int) (fun _ _=>rfl))))))
 pss_nil)
 (@pss_one _ _ _ (@ps_ret _ _ _ _ (pe_callD (d_l_shop T) hr (pa_cons (pv 3) (pa_cons (pv 4) pa_nil)))))))))),?_⟩
 refine ⟨_,rfl,_,rfl,a,ns,k,rfl,hS,h0,by omega,?_⟩
 refine ⟨_,rfl,_,rfl,_,_,rfl,rfl,a,ns,k + 1,rfl,hS,by omega,by omega,?_⟩
 generalize drawF ns k=cl
 generalize drawF ns (k + 1)=fr
 refine ⟨_,rfl,_,_,rfl,rfl,(by show (0:Int)<33;decide),(by show 2≤sizeLine;decide),fun p1 hp1=>?_⟩
 refine ⟨_,rfl,_,_,rfl,rfl,(by show (0:Int)<33;decide),_,_,rfl,rfl,.inr ⟨_,rfl,?_⟩⟩
 have s1:=same_new hp1 (.lst [V.int 5,V.int 11])
 obtain ⟨d,hd,d1,d2⟩:=at2i (a:=5) (b:=11) (i:=if decide (cl % 33<11)=true then 1 else 0) (fun v=>5≤v∧v≤11) (by split <;> decide) (by split <;> decide) ⟨by decide,by decide⟩ ⟨by decide,by decide⟩
 refine ⟨p1,_,_,_,rfl,rfl,SqL.of upd_same,hd,_,_,rfl,rfl,(by show (0:Int)<d;omega),_,_,rfl,rfl,?_⟩
 have e0:=Int.emod_nonneg (cl % 33) (show d≠0 by omega)
 have e1:=Int.emod_lt_of_pos (cl % 33) (show 0<d by omega)
 obtain ⟨n,hn⟩:∃ n:Nat,2 + cl % 33 % d=(n:Int):=⟨(2 + cl % 33 % d).toNat,by omega⟩
 have n0:2≤n:=by omega
 have n1:n≤12:=by omega
 refine ⟨(by show 12≤sizeLine;decide),fun p2 hp2=>?_⟩
 have s2:=same_new hp2 (.lst (pool.map V.int))
 refine ⟨_,rfl,_,_,rfl,rfl,⟨by decide,by unfold Bd;decide⟩,_,_,rfl,rfl,(by show (0:Int)<2;decide),_,_,rfl,rfl,_,rfl,?_⟩
 dsimp only
 rw [hn]
 refine iteD (fun c=>?_) (fun c=>?_)
 ·refine ⟨_,rfl,(n:Int),rfl,by omega,by omega,?_⟩
  rw [Int.toNat_natCast]
  intro D hD
  have nH:H D=none:=by
   cases e:H D with
   | none=>rfl
   | some o=>cases ((s1.trans s2) D o e).symm.trans hD
  refine comp_range (tt:=fun _ H Q=>Q true H) (lo:=0) (n:=n) (fun i H' ys=>∃ ws:List Int,ys=ws.map V.int∧H'=upd (upd (upd H p1 (.lst [V.int 5,V.int 11])) p2 (.lst (pool.map V.int))) D (.lst ys)∧ws.length=i∧Shop ws∧∀ v∈ws,∃ j:Nat,j<i∧pool[((fr + 5 * (j:Int)) % 12).toNat]? = some v)
   ⟨[],rfl,rfl,rfl,⟨by simp,by simp,by simp⟩,by simp⟩ ?_ ?_
  ·rintro i H2 ys kk hk hi ⟨ws,rfl,rfl,hl,S,hv⟩
   refine ⟨upd_same,?_⟩
   refine iteT ?_
   have z0:(0:Int)≤(fr + 5 * (i:Int)) % 12:=by omega
   have z1:(fr + 5 * (i:Int)) % 12<12:=by omega
   obtain ⟨v,a1,a2,a3,a4⟩:=pool_at z0 z1
   have hp2':=same_new hD (.lst (ws.map V.int)) p2 _ upd_same
   have ez:fr + 5 * (0 + (i:Int))=fr + 5 * (i:Int):=by omega
   refine ⟨_,rfl,_,rfl,_,rfl,_,_,rfl,rfl,.inl (.inl ⟨by decide,by decide⟩),_,_,rfl,rfl,_,_,rfl,rfl,(by show (0:Int)<12;decide),p2,_,_,_,rfl,rfl,SqL.of hp2',(by rw [ez];exact a1),upd_same,(by rw [List.length_map];exact small1000 (by omega)),?_⟩
   refine hk _ _ ⟨ws++[v],by rw [List.map_append];rfl,by rw [upd_upd],by simp [hl],S.snoc a3 a4 ?_,?_⟩
   ·intro hin
    obtain ⟨j,hj,ej⟩:=hv v hin
    have:=pool_inj ej a2
    omega
   ·intro u hu
    rcases List.mem_append.mp hu with z | z
    ·obtain ⟨j,hj,ej⟩:=hv u z
     exact ⟨j,by omega,ej⟩
    ·rw [List.mem_singleton.mp z]
     exact ⟨i,Nat.lt_succ_self _,a2⟩
  ·rintro H2 ys ⟨ws,rfl,rfl,hl,S,hv⟩
   exact ⟨upd_same,q ws D _ S (by omega) (by omega) ((s1.trans s2).trans (same_new hD _)) nH upd_same⟩
 ·refine ⟨_,rfl,_,rfl,fr,n,rfl,by omega,fun ws p H' S hl hs hn' hp=>?_⟩
  have nH:H p=none:=by
   cases e:H p with
   | none=>rfl
   | some o=>cases ((s1.trans s2) p o e).symm.trans hn'
  exact q ws p H' S (by omega) (by omega) ((s1.trans s2).trans hs) nH hp

def spTeeth (K:PySem.W.Frag):Sp:=fun vs H Q _=>∃ (a:Addr) (ns:List Int),vs=[.ref a]∧SqL K H a (ns.map V.int)∧Q (.int (2 + drawF ns 3 % 63)) H
theorem d_l_teeth (T:Txt K mg):DefOk P w K mg base "_law_teeth" ["_law_script"] 3 (spTeeth K):=by
 obtain ⟨f,fd,F,hm,hb⟩:=T.h_l_teeth
 refine ⟨f,fd,F.ok sc_l_teeth (fun vs H Q E h=>?_) (fun cdv A outer s H vs Q E hr h=>?_),hm,F.kp,hb⟩
 ·obtain ⟨a,ns,rfl,_⟩:=h
  rfl
 obtain ⟨a,ns,rfl,hS,q⟩:=h
 refine ⟨_,(@pss_one _ _ _ (@ps_ret _ _ _ _ (pe_op op_add pe_int (pe_op op_mod (pe_callD (d_l_draw T) hr (pa_cons (pv 0) (pa_cons pe_int pa_nil))) pe_int)))),?_⟩
 exact ⟨_,rfl,a,ns,3,rfl,hS,by decide,by decide,_,_,rfl,rfl,(by show (0:Int)<63;decide),_,_,rfl,rfl,q⟩

def spPick (K:PySem.W.Frag):Sp:=fun vs H Q _=>∃ (c:Int) (a:Addr) (ws:List Int) (m:Int),vs=[.int c,.ref a,.int m]∧SqA K H a (ws.map V.int)∧0≤m∧m≤(ws.length:Int)∧ws.length≤100 ∧
 ∀ (ms ls:List Int) (p:Addr) (H':Hp),(ms.length:Int)=m→(ms++ls).Perm ws→Same H H'→H p=none→H' p=some (.lst (ms.map V.int))→Q (.ref p) H'
theorem d_l_pick (T:Txt K mg):DefOk P w K mg base "_law_pick" ["_law_cell","_law_wheels","_law_many"] 1 (spPick K):=by
 obtain ⟨f,fd,F,hm,hb⟩:=T.h_l_pick
 refine ⟨f,fd,F.ok sc_l_pick (fun vs H Q E h=>?_) (fun cdv A outer s H vs Q E hr h=>?_),hm,F.kp,hb⟩
 ·obtain ⟨c,a,ws,m,rfl,_⟩:=h
  rfl
 obtain ⟨c,a,ws,m,rfl,hS,hm0,hn,h100,q⟩:=h
 obtain ⟨n,rfl⟩:=Int.eq_ofNat_of_zero_le hm0
 refine ⟨_,(@pss_cons _ _ _ _ _ (@ps_set _ _ 3 _ _ _ _ sc_l_pick.nd rfl (Or.inl rfl) (pe_callTy call_list_of (by rfl) T.z_list PyProof.Rows.boot_list (pa_cons (pv 1) pa_nil)) (by rfl) (by first | exact .inl rfl | exact .inr rfl))
 (@pss_cons _ _ _ _ _ (@ps_set _ _ 4 _ _ _ _ sc_l_pick.nd rfl (Or.inl rfl) (pv 0) (by rfl) (by first | exact .inl rfl | exact .inr rfl))
 (@pss_cons _ _ _ _ _ (@ps_set _ _ 5 _ _ _ _ sc_l_pick.nd rfl (Or.inl rfl) (@pe_lst _ _ _ _ pa_nil) (by rfl) (by first | exact .inl rfl | exact .inr rfl))
 (@pss_cons _ _ _ _ _ (ps_for PassesOwn.never rfl (pi_range1 (by rfl) T.z_range (pa_cons (pv 2) pa_nil)) (pg_name (i:=6) sc_l_pick.nd rfl (Or.inl rfl))
 (@pss_cons _ _ _ _ _ (ps_expr (pe_bm PySem.F.plainAttrs_list PySem.F.slot_list_append PySem.F.type_list_append mt_append (pv 5) (pa_cons (pe_bm PySem.F.plainAttrs_list PySem.F.slot_list_pop PySem.F.type_list_pop mt_popAt (pv 3) (pa_cons (pe_op op_mod (pv 4) (pe_callB call_len_seq (by rfl) T.z_len PySem.boot_len (pa_cons (pv 3) pa_nil))) pa_nil)) pa_nil)))
 (@pss_one _ _ _ (@ps_set _ _ 4 _ _ _ _ sc_l_pick.nd rfl (Or.inl rfl) (pe_op op_fdivP (pv 4) pe_int) (by rfl) (by first | exact .inl rfl | exact .inr rfl)))))
 (@pss_one _ _ _ (@ps_ret _ _ _ _ (pv 5))))))),?_⟩
 refine ⟨_,rfl,a,_,rfl,hS,fun L hL=>?_⟩
 refine ⟨_,rfl,?_⟩
 refine ⟨(by show 0≤sizeLine;decide),fun D hD=>?_⟩
 have nLD:L≠D:=fun e=>by rw [← e,upd_same] at hD;cases hD
 have hD0:H D=none:=by rw [upd_ne (Ne.symm nLD)] at hD;exact hD
 refine ⟨_,rfl,(n:Int),rfl,by omega,by omega,?_⟩
 rw [Int.toNat_natCast]
 refine for_range (lo:=0) (n:=n) (fun i σ H'=>∃ (ms ls:List Int) (rs:Int) (k:Option V),σ=[some (.int c),some (.ref a),some (.int (n:Int)),some (.ref L),some (.int rs),some (.ref D),k]∧Same H H'∧H' D=some (.lst (ms.map V.int))∧H' L=some (.lst (ls.map V.int))∧ms.length=i∧(ms++ls).Perm ws)
  ⟨[],ws,c,none,rfl,(same_new hL _).trans (same_new hD _),upd_same,by rw [upd_ne nLD,upd_same],rfl,List.Perm.refl _⟩ ?_ ?_
 ·rintro i σ H' hi ⟨ms,ls,rs,k,rfl,hs,hm',hl,hi',hp⟩
  have hlen:=hp.length_eq
  rw [List.length_append,hi'] at hlen
  have hlp:(0:Int)<((ls.map V.int).length:Nat):=by rw [List.length_map];omega
  refine ⟨_,rfl,.inl ⟨rfl,_,SqL.of hm'⟩,_,rfl,.inl ⟨rfl,_,SqL.of hl⟩,_,rfl,_,rfl,L,_,rfl,.inl (SqL.of hl),_,_,rfl,rfl,hlp,?_⟩
  have m0:=Int.emod_nonneg rs (Int.ne_of_gt hlp)
  have m1:=Int.emod_lt_of_pos rs hlp
  have hk:(rs % ((ls.map V.int).length:Nat)).toNat<ls.length:=by rw [List.length_map] at *;omega
  obtain ⟨ix,hix⟩:∃ ix:Int,ix=rs % (((ls.map V.int).length:Nat):Int):=⟨_,rfl⟩
  rw [← hix] at m0 m1 hk
  have ea:atI (ls.map V.int) ix=some (.int ls[ix.toNat]):=by
   have ek:ix=((ix.toNat:Nat):Int):=by omega
   have:=atI_nat (xs:=ls.map V.int) (j:=ix.toNat) (v:=.int ls[ix.toNat]) (by rw [List.getElem?_map,List.getElem?_eq_getElem hk] <;> rfl)
   rw [← ek] at this
   exact this
  obtain ⟨j,j1,j2,_⟩:=atI_get ea
  have h63:ix<2 ^ 63:=by rw [List.length_map] at m1;omega
  have hj:ls[j]? = some ls[ix.toNat]:=by
   rw [List.getElem?_map] at j2
   cases e:ls[j]? with
   | none=>rw [e] at j2;cases j2
   | some z=>rw [e] at j2;cases j2;rfl
  have m63:-(2 ^ 63)≤ix:=by omega
  refine ⟨L,_,ix,j,_,rfl,(by rw [hix]),hl,m63,h63,j1,j2,?_⟩
  refine ⟨D,_,_,rfl,rfl,(by rw [upd_ne (Ne.symm nLD)];exact hm'),(by rw [List.length_map];exact small1000 (by omega)),?_⟩
  refine ⟨_,rfl,_,_,rfl,rfl,⟨by decide,by unfold Bd;decide⟩,ms++[ls[ix.toNat]],ls.eraseIdx j,_,_,rfl,fun b o e=>?_,?_,?_,by simp [hi'],?_⟩
  ·rw [upd_ne (ne_of_none e hD0),upd_ne (ne_of_none e hL)];exact hs b o e
  ·rw [upd_same,List.map_append];rfl
  ·rw [upd_ne nLD,upd_same,map_eraseIdx]
  ·rw [List.append_assoc]
   exact (List.Perm.append_left ms (perm_erase hj)).trans hp
 ·rintro σ H' ⟨ms,ls,rs,k,rfl,hs,hm',hl,hi',hp⟩
  exact ⟨_,rfl,q ms ls D H' (by rw [hi']) hp hs hD0 hm'⟩

def spGoodT (K:PySem.W.Frag):Sp:=fun vs H Q _=>∃ (c:Int) (a:Addr) (ws:List Int),vs=[.int c,.ref a]∧SqA K H a (ws.map V.int)∧Shop ws∧2≤ws.length∧ws.length≤12 ∧
 ∀ (ms:List Int) (p:Addr) (H':Hp),Train ms→ms.Nodup→(∀ v∈ms,v∈ws)→Same H H'→H p=none→H' p=some (.tup (ms.map V.int))→Q (.ref p) H'
theorem d_l_good_train (T:Txt K mg):DefOk P w K mg base "_law_good_train" ["_law_cell","_law_wheels"] 2 (spGoodT K):=by
 obtain ⟨f,fd,F,hm,hb⟩:=T.h_l_good_train
 refine ⟨f,fd,F.ok sc_l_good_train (fun vs H Q E h=>?_) (fun cdv A outer s H vs Q E hr h=>?_),hm,F.kp,hb⟩
 ·obtain ⟨c,a,ws,rfl,_⟩:=h
  rfl
 obtain ⟨c,a,ws,rfl,hA,S,l2,l12,q⟩:=h
 refine ⟨_,(@pss_cons _ _ _ _ _ (@ps_set _ _ 2 _ _ _ _ sc_l_good_train.nd rfl (Or.inl rfl) (pe_op op_mulX (pe_op op_fdivP (pe_callB (call_min2 rfl) (by rfl) T.z_min PyProof.Rows.boot_min (pa_cons (pe_callB call_len_seq (by rfl) T.z_len PySem.boot_len (pa_cons (pv 1) pa_nil)) (pa_cons (@pe_ix _ _ _ _ _ _ _ ix_list (@pe_lst _ _ _ _ (pa_cons pe_int (pa_cons pe_int pa_nil))) (pe_op op_mod (pv 0) pe_int) (fun _ _=>rfl)) pa_nil))) pe_int) pe_int) (by rfl) (by first | exact .inl rfl | exact .inr rfl))
 (@pss_one _ _ _ (@ps_ret _ _ _ _ (pe_callTy call_tuple_of (by rfl) T.z_tuple PyProof.Rows.boot_tuple (pa_cons (pe_callD (d_l_pick T) hr (pa_cons (pe_op op_fdivP (pv 0) pe_int) (pa_cons (pv 1) (pa_cons (pv 2) pa_nil)))) pa_nil))))),?_⟩
 obtain ⟨g,hg,g1⟩:=at2i (a:=2) (b:=4) (i:=c % 2) (fun v=>v=2∨v=4) (by omega) (by omega) (.inl rfl) (.inr rfl)
 refine ⟨_,rfl,a,_,rfl,hA,(by show 2≤sizeLine;decide),fun p1 hp1=>?_⟩
 have t1:=same_new hp1 (.lst [V.int 2,V.int 4])
 refine ⟨_,rfl,_,_,rfl,rfl,(by show (0:Int)<2;decide),p1,_,_,_,rfl,rfl,SqL.of upd_same,hg,_,_,rfl,_,_,rfl,rfl,⟨by decide,by unfold Bd;decide⟩,_,_,rfl,rfl,.inl (.inr ⟨by decide,by decide⟩),?_⟩
 have hl:(ws.map V.int).length=ws.length:=List.length_map _
 have hm:(if g<(((ws.map V.int).length:Nat):Int) then g else (((ws.map V.int).length:Nat):Int)) / 2 * 2=2∨(if g<(((ws.map V.int).length:Nat):Int) then g else (((ws.map V.int).length:Nat):Int)) / 2 * 2=4:=by
  rw [hl];split <;> omega
 have hm2:(if g<(((ws.map V.int).length:Nat):Int) then g else (((ws.map V.int).length:Nat):Int)) / 2 * 2≤(ws.length:Int):=by
  rw [hl];split <;> omega
 refine ⟨_,rfl,_,_,rfl,rfl,⟨by decide,by unfold Bd;decide⟩,_,rfl,_,rfl,_,a,ws,_,rfl,t1.any hA,by omega,hm2,by omega,fun ms ls M H2 hml hp s2 nM hM=>?_⟩
 have R:Train ms:=⟨by omega,fun v hv=>S.lo v (hp.mem_iff.mp (List.mem_append_left _ hv)),fun v hv=>S.hi v (hp.mem_iff.mp (List.mem_append_left _ hv))⟩
 have nd:ms.Nodup:=(List.nodup_append.mp (hp.nodup_iff.mpr S.nd)).1
 refine ⟨M,_,rfl,.inl ⟨SqL.of hM,fun p hp3=>?_⟩⟩
 exact q ms p _ R nd (fun v hv=>hp.mem_iff.mp (List.mem_append_left _ hv)) (t1.trans (s2.trans (same_new hp3 _))) ((t1.trans s2).free hp3) upd_same

def spGcd:Sp:=fun vs H Q _=>∃ (a b:Int),vs=[.int a,.int b]∧0≤b∧Q (.int ((Int.gcd a b:Nat):Int)) H
theorem d_l_gcd (T:Txt K mg):DefOk P w K mg base "_law_gcd" ["_law_a","_law_b"] 1 spGcd:=by
 obtain ⟨f,fd,F,hm,hb⟩:=T.h_l_gcd
 refine ⟨f,fd,F.ok sc_l_gcd (fun vs H Q E h=>?_) (fun cdv A outer s H vs Q E hr h=>?_),hm,F.kp,hb⟩
 ·obtain ⟨a,b,rfl,_⟩:=h
  rfl
 obtain ⟨a,b,rfl,hb0,q⟩:=h
 refine ⟨_,(@pss_cons _ _ _ _ _ (ps_while PassesOwn.never (pt_cmp (pc_neI (pv 1) pe_int))
 (@pss_one _ _ _ (ps_par (i:=0) (j:=1) rfl sc_l_gcd.nd rfl rfl (by decide) rfl rfl (pa_cons (pv 1) (pa_cons (pe_op op_mod (pv 0) (pv 1)) pa_nil)) rfl)))
 (@pss_one _ _ _ (@ps_ret _ _ _ _ (pe_callB call_abs (by rfl) T.z_abs PyProof.Rows.boot_abs (pa_cons (pv 0) pa_nil))))),?_⟩
 refine ⟨fun m σ H'=>∃ x y:Int,σ=[some (.int x),some (.int y)]∧H'=H∧0≤y∧Int.gcd x y=Int.gcd a b∧m=y.toNat,⟨_,a,b,rfl,rfl,hb0,rfl,rfl⟩,?_⟩
 rintro m σ H' ⟨x,y,rfl,rfl,hy,hg,rfl⟩
 refine ⟨_,rfl,_,_,rfl,rfl,_,rfl,?_⟩
 by_cases c:y=0
 ·subst c
  refine iteNS rfl ?_
  refine ⟨_,rfl,_,rfl,?_⟩
  rw [gcd_end,hg]
  exact q
 ·refine ite2 (fun _=>?_) (fun z=>absurd (by simp [c]) z)
  refine ⟨fun σ' H''=>∃ x' y':Int,σ'=[some (.int x'),some (.int y')]∧H''=H'∧0≤y'∧Int.gcd x' y'=Int.gcd a b∧y'.toNat<y.toNat,?_,?_⟩
  ·rintro σ' H'' ⟨x',y',rfl,rfl,h1,h2,h3⟩
   exact ⟨_,h3,x',y',rfl,rfl,h1,h2,rfl⟩
  ·have p:0<y:=by omega
   have e0:=Int.emod_nonneg x (Int.ne_of_gt p)
   have e1:=Int.emod_lt_of_pos x p
   refine ⟨_,rfl,_,rfl,_,rfl,_,_,rfl,rfl,p,_,_,rfl,y,x % y,rfl,rfl,e0,?_,by omega⟩
   rw [gcd_step,hg]

theorem red_is {t b:Int} (hb:0<b):t / ((Int.gcd t b:Nat):Int)=ltN t b∧b / ((Int.gcd t b:Nat):Int)=ltD t b:=by
 have e:sg t b=((Int.gcd t b:Nat):Int):=if_neg (by omega)
 unfold ltN ltD
 rw [e,Int.fdiv_eq_ediv_of_nonneg _ (by omega),Int.fdiv_eq_ediv_of_nonneg _ (by omega)]
 exact ⟨rfl,rfl⟩
def spRed:Sp:=fun vs H Q _=>∃ (t b:Int),vs=[.int t,.int b]∧0<b∧Bd 8000 b∧∀ p,H p=none→Q (.ref p) (upd H p (.tup [.int (ltN t b),.int (ltD t b)]))
theorem d_l_red (T:Txt K mg):DefOk P w K mg base "_law_red" ["_law_top","_law_bottom"] 2 spRed:=by
 obtain ⟨f,fd,F,hm,hb⟩:=T.h_l_red
 refine ⟨f,fd,F.ok sc_l_red (fun vs H Q E h=>?_) (fun cdv A outer s H vs Q E hr h=>?_),hm,F.kp,hb⟩
 ·obtain ⟨t,b,rfl,_⟩:=h
  rfl
 obtain ⟨t,b,rfl,hb0,bd,q⟩:=h
 refine ⟨_,(@pss_cons _ _ _ _ _ (@ps_set _ _ 2 _ _ _ _ sc_l_red.nd rfl (Or.inl rfl) (pe_callD (d_l_gcd T) hr (pa_cons (pv 0) (pa_cons (pv 1) pa_nil))) (by rfl) (by first | exact .inl rfl | exact .inr rfl))
 (@pss_one _ _ _ (@ps_ret _ _ _ _ (@pe_tup _ _ _ _ _ (pa_cons (pe_op op_fdivP (pv 0) (pv 2)) (pa_cons (pe_op op_fdivP (pv 1) (pv 2)) pa_nil)))))),?_⟩
 have g0:0<Int.gcd t b:=gpos (by omega)
 have gp:(0:Int)<((Int.gcd t b:Nat):Int):=by omega
 have gb:Bd 8000 ((Int.gcd t b:Nat):Int):=by
  have:=sg_le (t:=t) (b:=b) (by omega)
  rw [sg_abs] at this
  exact bd.le (by omega)
 obtain ⟨e1,e2⟩:=red_is (t:=t) hb0
 rw [← e1,← e2] at q
 exact ⟨_,rfl,_,rfl,t,b,rfl,by omega,_,rfl,_,rfl,_,_,rfl,rfl,⟨gp,gb⟩,_,rfl,_,rfl,_,_,rfl,rfl,⟨gp,gb⟩,(by show 2≤sizeLine;decide),q⟩

def spLRatio (K:PySem.W.Frag):Sp:=fun vs H Q _=>∃ (a:Addr) (ws:List Int),vs=[.ref a]∧SqA K H a (ws.map V.int)∧Train ws∧∀ p,H p=none→Q (.ref p) (upd H p (.tup [.int (ltN (ratT ws) (ratB ws)),.int (ltD (ratT ws) (ratB ws))]))
theorem d_l_ratio (T:Txt K mg):DefOk P w K mg base "_law_ratio" ["_law_train"] 3 (spLRatio K):=by
 obtain ⟨f,fd,F,hm,hb⟩:=T.h_l_ratio
 refine ⟨f,fd,F.ok sc_l_ratio (fun vs H Q E h=>?_) (fun cdv A outer s H vs Q E hr h=>?_),hm,F.kp,hb⟩
 ·obtain ⟨a,ws,rfl,_⟩:=h
  rfl
 obtain ⟨a,ws,rfl,hA,R,q⟩:=h
 refine ⟨_,(@pss_cons _ _ _ _ _ (@ps_set _ _ 1 _ _ _ _ sc_l_ratio.nd rfl (Or.inl rfl) (@pe_ix _ _ _ _ _ _ _ ix_any (pv 0) pe_int (fun _ _=>rfl)) (by rfl) (by first | exact .inl rfl | exact .inr rfl))
 (@pss_cons _ _ _ _ _ (@ps_set _ _ 2 _ _ _ _ sc_l_ratio.nd rfl (Or.inl rfl) (@pe_ix _ _ _ _ _ _ _ ix_any (pv 0) pe_int (fun _ _=>rfl)) (by rfl) (by first | exact .inl rfl | exact .inr rfl))
 (@pss_cons _ _ _ _ _ (ps_if (pt_cmp (pc_eqI (pe_callB call_len_seq (by rfl) T.z_len PySem.boot_len (pa_cons (pv 0) pa_nil)) pe_int))
 (@pss_cons _ _ _ _ _ (@ps_set _ _ 1 _ _ _ _ sc_l_ratio.nd rfl (Or.inl rfl) (pe_op op_mulX (pv 1) (@pe_ix _ _ _ _ _ _ _ ix_any (pv 0) pe_int (fun _ _=>rfl))) (by rfl) (by first | exact .inl rfl | exact .inr rfl))
 (@pss_one _ _ _ (@ps_set _ _ 2 _ _ _ _ sc_l_ratio.nd rfl (Or.inl rfl) (pe_op op_mulX (pv 2) (@pe_ix _ _ _ _ _ _ _ ix_any (pv 0) pe_int (fun _ _=>rfl))) (by rfl) (by first | exact .inl rfl | exact .inr rfl))))
 pss_nil)
 (@pss_one _ _ _ (@ps_ret _ _ _ _ (pe_callD (d_l_red T) hr (pa_cons (pv 1) (pa_cons (pv 2) pa_nil)))))))),?_⟩
 obtain ⟨_,_,b1,b2⟩:=R.in
 have bd:Bd 8000 (ratB ws):=(Bd.of60 (by omega) (by omega)).mono (show 200≤8000 by decide)
 rcases R.cases with ⟨x,y,rfl⟩ | ⟨x,y,z,t,rfl⟩
 ·refine ⟨_,rfl,_,_,_,_,rfl,rfl,hA,rfl,_,rfl,_,_,_,_,rfl,rfl,hA,rfl,_,rfl,a,_,rfl,hA,_,_,rfl,rfl,_,rfl,?_⟩
  refine iteDF (show ¬ ((2:Nat):Int)=4 by decide) ?_
  exact ⟨_,rfl,_,rfl,_,_,rfl,by exact b1,by exact bd,q⟩
 ·have h1:=R.lo x (by simp)
  have h2:=R.hi x (by simp)
  have h3:=R.lo y (by simp)
  have h4:=R.hi y (by simp)
  refine ⟨_,rfl,_,_,_,_,rfl,rfl,hA,rfl,_,rfl,_,_,_,_,rfl,rfl,hA,rfl,_,rfl,a,_,rfl,hA,_,_,rfl,rfl,_,rfl,?_⟩
  refine iteDT rfl ?_
  refine ⟨_,rfl,_,rfl,_,_,_,_,rfl,rfl,hA,rfl,_,_,rfl,rfl,.inl (.inl ⟨by omega,by omega⟩),_,rfl,_,rfl,_,_,_,_,rfl,rfl,hA,rfl,_,_,rfl,rfl,.inl (.inl ⟨by omega,by omega⟩),?_⟩
  exact ⟨_,rfl,_,rfl,_,_,rfl,by exact b1,by exact bd,q⟩

def spAlike (K:PySem.W.Frag):Sp:=fun vs H Q _=>∃ (a:Addr) (ws:List Int),vs=[.ref a]∧SqA K H a (ws.map V.int)∧ws.length≤1000∧∀ H',Same H H'→Q (.bl (decide (¬ ws.Nodup))) H'
theorem d_f_has_two_alike (T:Txt K mg):DefOk P w K mg base "has_two_alike" ["wheels"] 1 (spAlike K):=by
 obtain ⟨f,fd,F,hm,hb⟩:=T.h_f_has_two_alike
 refine ⟨f,fd,F.ok sc_f_has_two_alike (fun vs H Q E h=>?_) (fun cdv A outer s H vs Q E hr h=>?_),hm,F.kp,hb⟩
 ·obtain ⟨a,ws,rfl,_⟩:=h
  rfl
 obtain ⟨a,ws,rfl,hA,hl,q⟩:=h
 refine ⟨_,(@pss_one _ _ _ (@ps_ret _ _ _ _ (pe_cmp (pc_lt (pe_callB call_len_set1 (by rfl) T.z_len PySem.boot_len (pa_cons (pe_callTy (call_set_any rfl) (by rfl) T.z_set PyProof.Rows.boot_set (pa_cons (pv 0) pa_nil)) pa_nil)) (pe_callB call_len_seq (by rfl) T.z_len PySem.boot_len (pa_cons (pv 0) pa_nil)))))),?_⟩
 refine ⟨_,rfl,a,ws,rfl,hA,hl,fun l S hl=>?_⟩
 have s1:=same_new hl (.set S (manyOf ws))
 refine ⟨l,S,_,rfl,upd_same,_,rfl,a,_,rfl,s1.any hA,_,_,rfl,rfl,?_⟩
 have e:decide (((manyOf ws:Nat):Int)<(((ws.map V.int).length:Nat):Int))=decide (¬ ws.Nodup):=decide_eq_decide.mpr (by rw [List.length_map];exact Int.ofNat_lt.trans manyOf_lt)
 have q':=q _ s1
 rw [← e] at q'
 exact q'

def spWithin:Sp:=fun vs H Q _=>∃ (a b c:Int),vs=[.int a,.int b,.int c]∧Q (.bl (decide (b≤a∧a≤c))) H
theorem d_f_is_within (T:Txt K mg):DefOk P w K mg base "is_within" ["number","least","most"] 1 spWithin:=by
 obtain ⟨f,fd,F,hm,hb⟩:=T.h_f_is_within
 refine ⟨f,fd,F.ok sc_f_is_within (fun vs H Q E h=>?_) (fun cdv A outer s H vs Q E hr h=>?_),hm,F.kp,hb⟩
 ·obtain ⟨a,b,c,rfl,_⟩:=h
  rfl
 obtain ⟨a,b,c,rfl,q⟩:=h
 refine ⟨_,(@pss_one _ _ _ (@ps_ret _ _ _ _ (pe_and (pe_cmp (pc_ge (pv 0) (pv 1))) (pe_one (pe_cmp (pc_le (pv 0) (pv 2))))))),?_⟩
 refine ⟨_,rfl,_,rfl,_,_,rfl,rfl,_,rfl,?_⟩
 refine iteD (fun h=>?_) (fun h=>?_)
 ·refine ⟨_,rfl,_,rfl,_,_,rfl,rfl,?_⟩
  have e:decide (b≤a∧a≤c)=decide (a≤c):=decide_eq_decide.mpr ⟨fun z=>z.2,fun z=>⟨h,z⟩⟩
  rw [e] at q;exact q
 ·have e:decide (b≤a∧a≤c)=false:=decide_eq_false fun z=>h z.1
  rw [e] at q;exact q

def spCheckShop (K:PySem.W.Frag) (mg:Str→Option Value):Sp:=fun vs H Q E=>∃ (a:Addr) (ws:List Int),vs=[.ref a]∧SqA K H a (ws.map V.int)∧ws.length≤1000 ∧
 (2≤ws.length∧ws.length≤12∧Shop ws→∀ H',Same H H'→Q .non H')∧(¬ (2≤ws.length∧ws.length≤12∧Shop ws)→∀ H',Same H H'→E (.ref (cOf mg "BadNumber")) none H')
theorem d_f_check_shop (T:Txt K mg):DefOkX P w K mg base "check_shop" ["wheels"] 2 (spCheckShop K mg):=by
 obtain ⟨f,fd,F,hm,hb⟩:=T.h_f_check_shop
 refine ⟨f,fd,F.ok1 sc_f_check_shop (fun vs H Q E h=>?_) (fun cdv A outer s H vs Q E hr h=>?_),hm,F.kp,hb⟩
 ·obtain ⟨a,ws,rfl,_⟩:=h
  rfl
 obtain ⟨a,ws,rfl,hA,hl,q1,q2⟩:=h
 refine ⟨_,(@pss_cons _ _ _ _ _ (ps_if (pt_not (pt_val (pe_callD (d_f_is_within T) hr (pa_cons (pe_callB call_len_seq (by rfl) T.z_len PySem.boot_len (pa_cons (pv 0) pa_nil)) (pa_cons pe_int (pa_cons pe_int pa_nil))))))
 (@pss_one _ _ _ (ps_raise out_cx rfl T.x_BadNumber T.g_BadNumber (pa_cons pe_str pa_nil)))
 pss_nil)
 (@pss_cons _ _ _ _ _ (ps_for PassesOwn.leaving rfl (pi_any (pv 0)) (pg_name (i:=1) sc_f_check_shop.nd rfl (Or.inl rfl))
 (@pss_one _ _ _ (ps_if (pt_not (pt_val (pe_callD (d_f_is_within T) hr (pa_cons (pv 1) (pa_cons pe_int (pa_cons pe_int pa_nil))))))
 (@pss_one _ _ _ (ps_raise out_cx rfl T.x_BadNumber T.g_BadNumber (pa_cons pe_str pa_nil)))
 pss_nil)))
 (@pss_one _ _ _ (ps_if (pt_val (pe_callD (d_f_has_two_alike T) hr (pa_cons (pv 0) pa_nil)))
 (@pss_one _ _ _ (ps_raise out_cx rfl T.x_BadNumber T.g_BadNumber (pa_cons pe_str pa_nil)))
 pss_nil)))),?_⟩
 have hlen:(ws.map V.int).length=ws.length:=List.length_map _
 refine ⟨_,rfl,a,_,rfl,hA,_,_,_,rfl,_,rfl,?_⟩
 refine iteND (fun c=>?_) (fun c=>?_)
 ·exact ⟨by show 1≤sizeLine;decide,q2 (fun z=>c (by rw [hlen];exact ⟨by have:=z.1;omega,by have:=z.2.1;omega⟩)) _ (Same.refl _)⟩
 rw [hlen] at c
 refine ⟨a,rfl,for_any (K:=K) (a:=a) (xs:=ws.map V.int) (fun i σ H'=>∃ k:Option V,σ=[some (.ref a),k]∧H'=H∧∀ j v,j<i→ws[j]? = some v→10≤v∧v≤127) hA ⟨none,rfl,rfl,fun j v z=>by omega⟩ (fun i τ G ⟨_,_,e,_⟩=>by rw [e];exact Same.refl _) ?_ ?_⟩
 ·rintro i x σ H' hx ⟨k,rfl,rfl,hv⟩
  rw [List.getElem?_map] at hx
  obtain ⟨v,hv1,rfl⟩:=Option.map_eq_some_iff.mp hx
  refine ⟨_,rfl,_,_,_,rfl,_,rfl,?_⟩
  refine iteND (fun c2=>?_) (fun c2=>?_)
  ·exact ⟨by show 1≤sizeLine;decide,q2 (fun z=>c2 ⟨z.2.2.lo v (List.mem_of_getElem? hv1),z.2.2.hi v (List.mem_of_getElem? hv1)⟩) _ (Same.refl _)⟩
  ·refine ⟨_,rfl,rfl,fun j u hj hu=>?_⟩
   rcases Nat.lt_or_ge j i with z | z
   ·exact hv j u z hu
   ·have e:j=i:=by omega
    subst e
    rw [hu] at hv1;cases hv1;exact c2
 ·rintro σ H' ⟨k,rfl,rfl,hv⟩
  rw [hlen] at hv
  have all:∀ v∈ws,10≤v∧v≤127:=fun v h=>by
   obtain ⟨j,hj,e⟩:=List.getElem_of_mem h
   exact hv j v hj (by rw [List.getElem?_eq_getElem hj,e])
  refine ⟨_,rfl,a,ws,rfl,hA,hl,fun H2 s2=>⟨_,rfl,?_⟩⟩
  refine iteD (fun c3=>?_) (fun c3=>?_)
  ·exact ⟨by show 1≤sizeLine;decide,q2 (fun z=>c3 z.2.2.nd) _ s2⟩
  ·exact q1 ⟨by omega,by omega,⟨fun v h=>(all v h).1,fun v h=>(all v h).2,Decidable.not_not.mp c3⟩⟩ _ s2

def spCheckDial (mg:Str→Option Value):Sp:=fun vs H Q E=>∃ (n:Int),vs=[.int n]∧(2≤n∧n≤64→Q .non H)∧(¬ (2≤n∧n≤64)→E (.ref (cOf mg "BadNumber")) none H)
theorem d_f_check_dial (T:Txt K mg):DefOkX P w K mg base "check_dial" ["teeth"] 2 (spCheckDial mg):=by
 obtain ⟨f,fd,F,hm,hb⟩:=T.h_f_check_dial
 refine ⟨f,fd,F.ok1 sc_f_check_dial (fun vs H Q E h=>?_) (fun cdv A outer s H vs Q E hr h=>?_),hm,F.kp,hb⟩
 ·obtain ⟨n,rfl,_⟩:=h
  rfl
 obtain ⟨n,rfl,q1,q2⟩:=h
 refine ⟨_,(@pss_one _ _ _ (ps_if (pt_not (pt_val (pe_callD (d_f_is_within T) hr (pa_cons (pv 0) (pa_cons pe_int (pa_cons pe_int pa_nil))))))
 (@pss_one _ _ _ (ps_raise out_cx rfl T.x_BadNumber T.g_BadNumber (pa_cons pe_str pa_nil)))
 pss_nil)),?_⟩
 refine ⟨_,rfl,_,_,_,rfl,_,rfl,?_⟩
 refine iteND (fun c=>?_) (fun c=>?_)
 ·exact ⟨by show 1≤sizeLine;decide,q2 c⟩
 ·exact q1 c

def spPlain (K:PySem.W.Frag):Sp:=fun vs H Q _=>∃ (a:Addr) (ws:List Int),vs=[.ref a]∧SqA K H a (ws.map V.int)∧Train ws∧∀ p,H p=none→Q (.ref p) (upd H p (.tup [.int (ratT ws),.int (ratB ws)]))
theorem d_f_plain_ratio (T:Txt K mg):DefOk P w K mg base "plain_ratio" ["train"] 1 (spPlain K):=by
 obtain ⟨f,fd,F,hm,hb⟩:=T.h_f_plain_ratio
 refine ⟨f,fd,F.ok sc_f_plain_ratio (fun vs H Q E h=>?_) (fun cdv A outer s H vs Q E hr h=>?_),hm,F.kp,hb⟩
 ·obtain ⟨a,ws,rfl,_⟩:=h
  rfl
 obtain ⟨a,ws,rfl,hA,R,q⟩:=h
 refine ⟨_,(@pss_cons _ _ _ _ _ (ps_if (pt_cmp (pc_eqI (pe_callB call_len_seq (by rfl) T.z_len PySem.boot_len (pa_cons (pv 0) pa_nil)) pe_int))
 (@pss_one _ _ _ (@ps_ret _ _ _ _ (@pe_tup _ _ _ _ _ (pa_cons (@pe_ix _ _ _ _ _ _ _ ix_any (pv 0) pe_int (fun _ _=>rfl)) (pa_cons (@pe_ix _ _ _ _ _ _ _ ix_any (pv 0) pe_int (fun _ _=>rfl)) pa_nil)))))
 pss_nil)
 (@pss_one _ _ _ (@ps_ret _ _ _ _ (@pe_tup _ _ _ _ _ (pa_cons (pe_op op_mulX (@pe_ix _ _ _ _ _ _ _ ix_any (pv 0) pe_int (fun _ _=>rfl)) (@pe_ix _ _ _ _ _ _ _ ix_any (pv 0) pe_int (fun _ _=>rfl))) (pa_cons (pe_op op_mulX (@pe_ix _ _ _ _ _ _ _ ix_any (pv 0) pe_int (fun _ _=>rfl)) (@pe_ix _ _ _ _ _ _ _ ix_any (pv 0) pe_int (fun _ _=>rfl))) pa_nil)))))),?_⟩
 rcases R.cases with ⟨x,y,rfl⟩ | ⟨x,y,z,t,rfl⟩
 ·refine ⟨_,rfl,a,_,rfl,hA,_,_,rfl,rfl,_,rfl,?_⟩
  refine iteDT rfl ?_
  exact ⟨_,rfl,_,_,_,_,rfl,rfl,hA,rfl,_,rfl,_,_,_,_,rfl,rfl,hA,rfl,(by show 2≤sizeLine;decide),q⟩
 ·refine ⟨_,rfl,a,_,rfl,hA,_,_,rfl,rfl,_,rfl,?_⟩
  refine iteDF (show ¬ ((4:Nat):Int)=2 by decide) ?_
  have h1:=R.lo x (by simp)
  have h2:=R.hi x (by simp)
  have h3:=R.lo y (by simp)
  have h4:=R.hi y (by simp)
  exact ⟨_,rfl,_,_,_,_,rfl,rfl,hA,rfl,_,rfl,_,_,_,_,rfl,rfl,hA,rfl,_,_,rfl,rfl,.inl (.inl ⟨by omega,by omega⟩),_,rfl,_,_,_,_,rfl,rfl,hA,rfl,_,rfl,_,_,_,_,rfl,rfl,hA,rfl,_,_,rfl,rfl,.inl (.inl ⟨by omega,by omega⟩),(by show 2≤sizeLine;decide),q⟩

def spGd:Sp:=fun vs H Q _=>∃ (a b:Int),vs=[.int a,.int b]∧0≤a∧0≤b∧Q (.int ((Int.gcd a b:Nat):Int)) H
theorem d_f_greatest_divisor (T:Txt K mg):DefOk P w K mg base "greatest_divisor" ["a","b"] 1 spGd:=by
 obtain ⟨f,fd,F,hm,hb⟩:=T.h_f_greatest_divisor
 refine ⟨f,fd,F.ok sc_f_greatest_divisor (fun vs H Q E h=>?_) (fun cdv A outer s H vs Q E hr h=>?_),hm,F.kp,hb⟩
 ·obtain ⟨a,b,rfl,_⟩:=h
  rfl
 obtain ⟨a,b,rfl,ha0,hb0,q⟩:=h
 refine ⟨_,(@pss_cons _ _ _ _ _ (ps_while PassesOwn.never (pt_cmp (pc_neI (pv 1) pe_int))
 (@pss_cons _ _ _ _ _ (@ps_set _ _ 2 _ _ _ _ sc_f_greatest_divisor.nd rfl (Or.inl rfl) (pe_op op_mod (pv 0) (pv 1)) (by rfl) (by first | exact .inl rfl | exact .inr rfl))
 (@pss_cons _ _ _ _ _ (@ps_set _ _ 0 _ _ _ _ sc_f_greatest_divisor.nd rfl (Or.inl rfl) (pv 1) (by rfl) (by first | exact .inl rfl | exact .inr rfl))
 (@pss_one _ _ _ (@ps_set _ _ 1 _ _ _ _ sc_f_greatest_divisor.nd rfl (Or.inl rfl) (pv 2) (by rfl) (by first | exact .inl rfl | exact .inr rfl))))))
 (@pss_one _ _ _ (@ps_ret _ _ _ _ (pv 0)))),?_⟩
 refine ⟨fun m σ H'=>∃ (x y:Int) (r:Option V),σ=[some (.int x),some (.int y),r]∧H'=H∧0≤x∧0≤y∧Int.gcd x y=Int.gcd a b∧m=y.toNat,⟨_,a,b,none,rfl,rfl,ha0,hb0,rfl,rfl⟩,?_⟩
 rintro m σ H' ⟨x,y,r,rfl,rfl,hx,hy,hg,rfl⟩
 refine ⟨_,rfl,_,_,rfl,rfl,_,rfl,?_⟩
 by_cases c:y=0
 ·subst c
  refine iteNS rfl ?_
  refine ⟨_,rfl,?_⟩
  have e:x=((Int.gcd a b:Nat):Int):=by
   rw [← hg,Int.gcd_zero_right];omega
  rw [← e] at q
  exact q
 ·refine ite2 (fun _=>?_) (fun z=>absurd (by simp [c]) z)
  refine ⟨fun σ' H''=>∃ (x' y':Int) (r':Option V),σ'=[some (.int x'),some (.int y'),r']∧H''=H'∧0≤x'∧0≤y'∧Int.gcd x' y'=Int.gcd a b∧y'.toNat<y.toNat,?_,?_⟩
  ·rintro σ' H'' ⟨x',y',r',rfl,rfl,h0,h1,h2,h3⟩
   exact ⟨_,h3,x',y',r',rfl,rfl,h0,h1,h2,rfl⟩
  ·have p:0<y:=by omega
   have e0:=Int.emod_nonneg x (Int.ne_of_gt p)
   have e1:=Int.emod_lt_of_pos x p
   refine ⟨_,rfl,_,rfl,_,_,rfl,rfl,p,_,rfl,_,rfl,y,x % y,_,rfl,rfl,hy,e0,?_,by omega⟩
   rw [gcd_step,hg]

def spLt:Sp:=fun vs H Q _=>∃ (t b:Int),vs=[.int t,.int b]∧b≠0∧Bd 8000 b∧∀ p,H p=none→Q (.ref p) (upd H p (.tup [.int (ltN t b),.int (ltD t b)]))
theorem d_f_least_terms (T:Txt K mg):DefOk P w K mg base "least_terms" ["top","bottom"] 2 spLt:=by
 obtain ⟨f,fd,F,hm,hb⟩:=T.h_f_least_terms
 refine ⟨f,fd,F.ok sc_f_least_terms (fun vs H Q E h=>?_) (fun cdv A outer s H vs Q E hr h=>?_),hm,F.kp,hb⟩
 ·obtain ⟨t,b,rfl,_⟩:=h
  rfl
 obtain ⟨t,b,rfl,hb0,hbd,q⟩:=h
 refine ⟨_,(@pss_cons _ _ _ _ _ (@ps_set _ _ 2 _ _ _ _ sc_f_least_terms.nd rfl (Or.inl rfl) (pe_callD (d_f_greatest_divisor T) hr (pa_cons (pe_callB call_abs (by rfl) T.z_abs PyProof.Rows.boot_abs (pa_cons (pv 0) pa_nil)) (pa_cons (pe_callB call_abs (by rfl) T.z_abs PyProof.Rows.boot_abs (pa_cons (pv 1) pa_nil)) pa_nil))) (by rfl) (by first | exact .inl rfl | exact .inr rfl))
 (@pss_cons _ _ _ _ _ (ps_if (pt_cmp (pc_lt (pv 1) pe_int))
 (@pss_one _ _ _ (@ps_set _ _ 2 _ _ _ _ sc_f_least_terms.nd rfl (Or.inl rfl) (pe_un un_neg (pv 2)) (by rfl) (by first | exact .inl rfl | exact .inr rfl)))
 pss_nil)
 (@pss_one _ _ _ (@ps_ret _ _ _ _ (@pe_tup _ _ _ _ _ (pa_cons (pe_op op_fdivX (pv 0) (pv 2)) (pa_cons (pe_op op_fdivX (pv 1) (pv 2)) pa_nil))))))),?_⟩
 refine ⟨_,rfl,_,rfl,_,rfl,_,rfl,_,_,rfl,by split <;> omega,by split <;> omega,?_⟩
 rw [gcd_abs]
 refine ⟨_,rfl,_,_,rfl,rfl,_,rfl,?_⟩
 have hs:sg t b≠0:=sg_ne hb0
 have hd:Bd 8000 (sg t b):=hbd.le (sg_le hb0)
 refine ite2 (fun c=>?_) (fun c=>?_)
 ·have c':b<0:=of_decide_eq_true c
  have e:-((Int.gcd t b:Nat):Int)=sg t b:=(if_pos c').symm
  unfold ltN ltD at q
  rw [← e] at q hs hd
  exact ⟨_,rfl,_,rfl,_,rfl,_,rfl,_,_,rfl,rfl,⟨hs,hd⟩,_,rfl,_,rfl,_,_,rfl,rfl,⟨hs,hd⟩,(by show 2≤sizeLine;decide),q⟩
 ·have c':¬ b<0:=of_decide_eq_false (Bool.eq_false_iff.mpr c)
  have e:((Int.gcd t b:Nat):Int)=sg t b:=(if_neg c').symm
  rw [e]
  exact ⟨_,rfl,_,rfl,_,_,rfl,rfl,⟨hs,hd⟩,_,rfl,_,rfl,_,_,rfl,rfl,⟨hs,hd⟩,(by show 2≤sizeLine;decide),q⟩

def spRatio (K:PySem.W.Frag):Sp:=fun vs H Q _=>∃ (a:Addr) (ws:List Int),vs=[.ref a]∧SqA K H a (ws.map V.int)∧Train ws∧∀ p H',Same H H'→H p=none→H' p=some (.tup [.int (ltN (ratT ws) (ratB ws)),.int (ltD (ratT ws) (ratB ws))])→Q (.ref p) H'
theorem d_f_ratio_of (T:Txt K mg):DefOk P w K mg base "ratio_of" ["train"] 3 (spRatio K):=by
 obtain ⟨f,fd,F,hm,hb⟩:=T.h_f_ratio_of
 refine ⟨f,fd,F.ok sc_f_ratio_of (fun vs H Q E h=>?_) (fun cdv A outer s H vs Q E hr h=>?_),hm,F.kp,hb⟩
 ·obtain ⟨a,ws,rfl,_⟩:=h
  rfl
 obtain ⟨a,ws,rfl,hA,R,q⟩:=h
 refine ⟨_,(@pss_cons _ _ _ _ _ (@ps_set _ _ 1 _ _ _ _ sc_f_ratio_of.nd rfl (Or.inl rfl) (pe_callD (d_f_plain_ratio T) hr (pa_cons (pv 0) pa_nil)) (by rfl) (by first | exact .inl rfl | exact .inr rfl))
 (@pss_one _ _ _ (@ps_ret _ _ _ _ (pe_callD (d_f_least_terms T) hr (pa_cons (@pe_ix _ _ _ _ _ _ _ ix_tup (pv 1) pe_int (fun _ _=>rfl)) (pa_cons (@pe_ix _ _ _ _ _ _ _ ix_tup (pv 1) pe_int (fun _ _=>rfl)) pa_nil)))))),?_⟩
 obtain ⟨_,_,b1,b2⟩:=R.in
 refine ⟨_,rfl,a,ws,rfl,hA,R,fun p hp=>?_⟩
 refine ⟨_,rfl,_,_,_,_,rfl,rfl,SqT.of (upd_same),rfl,_,rfl,_,_,_,_,rfl,rfl,SqT.of (upd_same),rfl,_,_,rfl,by omega,(Bd.of60 (by omega) (by omega)).mono (by decide),fun r hr'=>?_⟩
 have s1:=same_new hp (.tup [.int (ratT ws),.int (ratB ws)])
 exact q r _ (s1.trans (same_new hr' _)) (s1.free hr') upd_same

def spInitP (K:PySem.W.Frag) (mg:Str→Option Value):Sp:=fun vs H Q _=>∃ x dx t ts,vs=[.ref x,.ref t]∧H x=some (.ins (cOf mg "Piece") dx [])∧TupK K H t (ts.map V.int)∧(ts=[]∨Train ts) ∧
 ∀ H' rv cu,(∀ b o,H b=some o→b≠x→H' b=some o)→H cu=none→H' x=some (.ins (cOf mg "Piece") dx (pcF t rv (cOf mg "NOUGHT") (cOf mg "NOUGHT") false .non (cOf mg "NOUGHT") (cOf mg "NOUGHT") cu))→H' cu=some (.lst [])→FrM H' rv (newPS ts).pitch→Q .non H'
theorem d_m_Piece___init__ (T:Txt K mg):MakeOk P w K mg base "Piece" (cOf mg "Piece") ["self","train"] 4 (spInitP K mg):=by
 obtain ⟨f,fd,F,hm,hb⟩:=T.hi_Piece
 refine ⟨f,fd,F.ok1 sc_m_Piece___init__ (fun vs H Q E h=>?_) (fun cdv A outer s H vs Q E hr h=>?_),hm,T.g_Piece,hb⟩
 ·obtain ⟨x,dx,t,ts,rfl,_⟩:=h
  rfl
 obtain ⟨x,dx,t,ts,rfl,hx,ht,htr,q⟩:=h
 refine ⟨_,(@pss_cons _ _ _ _ _ (ps_fld (pv 0) (pv 1) rfl)
 (@pss_cons _ _ _ _ _ (ps_fld (pv 0) (pe_ifExp (pt_cmp (pc_gt (pe_callB call_len_seq (by rfl) T.z_len PySem.boot_len (pa_cons (pv 1) pa_nil)) pe_int)) (pe_callD (d_f_ratio_of T) hr (pa_cons (pv 1) pa_nil)) pe_non) rfl)
 (@pss_cons _ _ _ _ _ (ps_fld (pv 0) (pe_glob (by rfl) T.g_NOUGHT (v:=.ref (cOf mg "NOUGHT")) rfl) rfl)
 (@pss_cons _ _ _ _ _ (ps_fld (pv 0) (pe_glob (by rfl) T.g_NOUGHT (v:=.ref (cOf mg "NOUGHT")) rfl) rfl)
 (@pss_cons _ _ _ _ _ (ps_fld (pv 0) pe_bl rfl)
 (@pss_cons _ _ _ _ _ (ps_fld (pv 0) pe_non rfl)
 (@pss_cons _ _ _ _ _ (ps_fld (pv 0) (pe_glob (by rfl) T.g_NOUGHT (v:=.ref (cOf mg "NOUGHT")) rfl) rfl)
 (@pss_cons _ _ _ _ _ (ps_fld (pv 0) (pe_glob (by rfl) T.g_NOUGHT (v:=.ref (cOf mg "NOUGHT")) rfl) rfl)
 (@pss_one _ _ _ (ps_fld (pv 0) (@pe_lst _ _ _ _ pa_nil) rfl)))))))))),?_⟩
 refine ⟨_,rfl,_,rfl,_,_,_,_,rfl,hx,T.cl_Piece,T.na_Piece_train,Nat.le_of_ble_eq_true rfl,?_⟩
 have k1:∀ b o,H b=some o→b≠x→upd H x (.ins (cOf mg "Piece") dx (putF "train" (.ref t) [])) b=some o:=fun b o e n=>by rw [upd_ne n];exact e
 have ht1:TupK K (upd H x (.ins (cOf mg "Piece") dx (putF "train" (.ref t) []))) t (ts.map V.int):=ht.tups fun b xs e=>k1 b _ e fun z=>by rw [z,hx] at e;cases e
 rcases htr with rfl | R
 case' inl =>
  refine ⟨_,rfl,t,_,rfl,.inr ht1.sq,_,_,rfl,rfl,_,rfl,iteDF (by decide) ?_⟩
  refine ⟨_,rfl,_,_,_,_,rfl,upd_same,T.cl_Piece,T.na_Piece_ratio,Nat.le_of_ble_eq_true rfl,?_⟩
  have k3:∀ b o,H b=some o→b≠x→upd (upd H x (.ins (cOf mg "Piece") dx (putF "train" (.ref t) []))) x (.ins (cOf mg "Piece") dx (putF "ratio" .non (putF "train" (.ref t) []))) b=some o:=fun b o e n=>by rw [upd_ne n];exact k1 b o e n
  have hrv:∀ H':Hp,(∀ b o,upd (upd H x (.ins (cOf mg "Piece") dx (putF "train" (.ref t) []))) x (.ins (cOf mg "Piece") dx (putF "ratio" .non (putF "train" (.ref t) []))) b=some o→b≠x→H' b=some o)→FrM H' .non (newPS []).pitch:=fun _ _=>rfl
 case' inr =>
  have ne:ts≠[]:=fun e=>by have:=R.len;rw [e] at this;rcases this with z | z <;> cases z
  refine ⟨_,rfl,t,_,rfl,.inr ht1.sq,_,_,rfl,rfl,_,rfl,iteDT (by rw [List.length_map];have:=List.length_pos_iff.mpr ne;omega) ?_⟩
  refine ⟨_,rfl,t,ts,rfl,.inr ht1.sq,R,fun p H2 s2 np hp=>?_⟩
  have hx2:=s2 _ _ (upd_same (H:=H) (a:=x) (o:=.ins (cOf mg "Piece") dx (putF "train" (.ref t) [])))
  refine ⟨_,rfl,_,_,_,_,rfl,hx2,T.cl_Piece,T.na_Piece_ratio,Nat.le_of_ble_eq_true rfl,?_⟩
  have k3:∀ b o,H b=some o→b≠x→upd H2 x (.ins (cOf mg "Piece") dx (putF "ratio" (.ref p) (putF "train" (.ref t) []))) b=some o:=fun b o e n=>by rw [upd_ne n];exact s2 _ _ (k1 b o e n)
  have hrv:∀ H':Hp,(∀ b o,upd H2 x (.ins (cOf mg "Piece") dx (putF "ratio" (.ref p) (putF "train" (.ref t) []))) b=some o→b≠x→H' b=some o)→FrM H' (.ref p) (newPS ts).pitch:=fun H' kk=>by
   rw [newPS_train R]
   refine ⟨p,rfl,kk p _ ?_ ?_⟩
   ·rw [upd_ne]
    ·exact hp
    ·intro z;rw [z,hx2] at hp;cases hp
   ·intro z;rw [z,hx2] at hp;cases hp
 all_goals
  refine ⟨_,rfl,_,_,_,_,rfl,upd_same,T.cl_Piece,T.na_Piece_work_turns,Nat.le_of_ble_eq_true rfl,_,rfl,_,_,_,_,rfl,upd_same,T.cl_Piece,T.na_Piece_place,Nat.le_of_ble_eq_true rfl,_,rfl,_,_,_,_,rfl,upd_same,T.cl_Piece,T.na_Piece_closed,Nat.le_of_ble_eq_true rfl,_,rfl,_,_,_,_,rfl,upd_same,T.cl_Piece,T.na_Piece_first,Nat.le_of_ble_eq_true rfl,_,rfl,_,_,_,_,rfl,upd_same,T.cl_Piece,T.na_Piece_turn_count,Nat.le_of_ble_eq_true rfl,_,rfl,_,_,_,_,rfl,upd_same,T.cl_Piece,T.na_Piece_move_count,Nat.le_of_ble_eq_true rfl,?_⟩
  refine ⟨(by show 0≤sizeLine;decide),fun cu hcu=>?_⟩
  have cx:cu≠x:=fun z=>by rw [z,upd_same] at hcu;cases hcu
  refine ⟨_,rfl,_,_,_,_,rfl,(by rw [upd_ne (Ne.symm cx)];exact upd_same),T.cl_Piece,T.na_Piece_cuts,Nat.le_of_ble_eq_true rfl,?_⟩
  have hcu0:H cu=none:=by
   cases z:H cu with
   | none=>rfl
   | some o=>
    have:=k3 cu o z cx
    rw [upd_ne cx,upd_ne cx,upd_ne cx,upd_ne cx,upd_ne cx,upd_ne cx] at hcu
    rw [this] at hcu;cases hcu
  refine q _ _ cu (fun b o e n=>keep2 hcu b o (by rw [upd_ne n,upd_ne n,upd_ne n,upd_ne n,upd_ne n,upd_ne n];exact k3 b o e n) n) hcu0 upd_same (by rw [upd_ne cx];exact upd_same) (hrv _ fun b o e n=>keep2 hcu b o (by rw [upd_ne n,upd_ne n,upd_ne n,upd_ne n,upd_ne n,upd_ne n];exact e) n)

def spInitB (K:PySem.W.Frag) (mg:Str→Option Value):Sp:=fun vs H Q _=>∃ x dx,vs=[.ref x]∧H x=some (.ins (cOf mg "Book") dx [])∧∀ ea,H ea=none→Q .non (upd (upd H ea (.lst [])) x (.ins (cOf mg "Book") dx [("entries",.ref ea)]))
theorem d_m_Book___init__ (T:Txt K mg):MakeOk P w K mg base "Book" (cOf mg "Book") ["self"] 1 (spInitB K mg):=by
 obtain ⟨f,fd,F,hm,hb⟩:=T.hi_Book
 refine ⟨f,fd,F.ok1 sc_m_Book___init__ (fun vs H Q E h=>?_) (fun cdv A outer s H vs Q E hr h=>?_),hm,T.g_Book,hb⟩
 ·obtain ⟨x,dx,rfl,_⟩:=h
  rfl
 obtain ⟨x,dx,rfl,hx,q⟩:=h
 refine ⟨_,(@pss_one _ _ _ (ps_fld (pv 0) (@pe_lst _ _ _ _ pa_nil) rfl)),?_⟩
 refine ⟨(by show 0≤sizeLine;decide),fun ea hea=>?_⟩
 have n:x≠ea:=ne_of_none hx hea
 exact ⟨_,rfl,_,_,_,_,rfl,((upd_ne n).trans hx),T.cl_Book,T.na_Book_entries,Nat.le_of_ble_eq_true rfl,q ea hea⟩

theorem d_m_Lathe___init__ (T:Txt K mg):MakeOk P w K mg base "Lathe" (cOf mg "Lathe") ["self","wheels","teeth"] 9 (spInitL K mg):=by
 obtain ⟨f,fd,F,hm,hb⟩:=T.hi_Lathe
 refine ⟨f,fd,F.ok1 sc_m_Lathe___init__ (fun vs H Q E h=>?_) (fun cdv A outer s H vs Q E hr h=>?_),hm,T.g_Lathe,hb⟩
 ·obtain ⟨x,dx,wa,ws,n,rfl,_⟩:=h
  rfl
 obtain ⟨x,dx,wa,ws,n,rfl,hx,hdx,hT,h1000,hbd,bn,q1,q2⟩:=h
 refine ⟨_,(@pss_cons _ _ _ _ _ (ps_expr (pe_callX (d_f_check_shop T) hr (passOut out_cx) (pa_cons (pv 1) pa_nil)))
 (@pss_cons _ _ _ _ _ (ps_expr (pe_callX (d_f_check_dial T) hr (passOut out_cx) (pa_cons (pv 2) pa_nil)))
 (@pss_cons _ _ _ _ _ (ps_fld (pv 0) (pe_callTy call_tuple_of (by rfl) T.z_tuple PyProof.Rows.boot_tuple (pa_cons (pv 1) pa_nil)) rfl)
 (@pss_cons _ _ _ _ _ (ps_fld (pv 0) (pv 2) rfl)
 (@pss_cons _ _ _ _ _ (ps_fld (pv 0) (pe_makeX (d_m_Piece___init__ T) hr (passOut out_cx) (pa_cons (@pe_tup _ _ _ _ _ pa_nil) pa_nil)) rfl)
 (@pss_one _ _ _ (ps_fld (pv 0) (pe_makeX0 (d_m_Book___init__ T) hr (passOut out_cx)) rfl))))))),?_⟩
 have hA:SqA K H wa (ws.map V.int):=hT.elim (fun h=>.inl (SqL.of h)) fun h=>.inr (SqT.of h)
 refine ⟨_,rfl,wa,ws,rfl,hA,h1000,fun ok H1 s1=>?_,fun bad H1 s1=>q2 (fun G=>bad ⟨G.l2,G.l12,G.shop⟩) _ fun b o e _=>s1 b o e⟩
 refine ⟨_,rfl,n,rfl,fun ok2=>?_,fun bad=>q2 (fun G=>bad ⟨G.n2,G.n64⟩) _ fun b o e _=>s1 b o e⟩
 have G:GoodShop ws n:=⟨ok.1,ok.2.1,ok.2.2,ok2.1,ok2.2⟩
 refine (fun (key:∀ (M:Addr) (Hd:Hp),(Same H Hd∧M≠x∧Hd M=some (.tup (ws.map V.int)))→(?G:Addr→Hp→Prop) M Hd)=>?main) ?keyp
 case main =>
  rcases hT with hT | hT
  ·refine ⟨_,rfl,wa,_,rfl,.inl ⟨SqL.of (s1 _ _ hT),fun M hM=>?_⟩⟩
   have S2:=s1.trans (same_new hM (.tup (ws.map V.int)))
   have Mx:M≠x:=fun z=>by rw [z,s1 _ _ hx] at hM;cases hM
   have hM2:=upd_same (H:=H1) (a:=M) (o:=.tup (ws.map V.int))
   dsimp only
   generalize upd H1 M (.tup (ws.map V.int))=Hd at S2 hM2 ⊢
   exact key M Hd ⟨S2,Mx,hM2⟩
  ·refine ⟨_,rfl,wa,_,rfl,.inr ⟨SqT.of (s1 _ _ hT),?_⟩⟩
   dsimp only
   exact key wa _ ⟨s1,(fun z=>by rw [z,hx] at hT;cases hT),s1 _ _ hT⟩
 case keyp =>
  rintro M Hd ⟨s2,Mx,hM2⟩
  refine ⟨_,rfl,_,_,_,_,rfl,(s2 _ _ hx),T.cl_Lathe,T.na_Lathe_shop,Nat.le_of_ble_eq_true rfl,_,rfl,_,rfl,_,_,_,_,rfl,upd_same,T.cl_Lathe,T.na_Lathe_teeth,Nat.le_of_ble_eq_true rfl,?_⟩
  refine ⟨(by show 0≤sizeLine;decide),fun e0 he0=>fun px pdx npx npdx pne=>?_⟩
  have xe0:x≠e0:=fun z=>by rw [← z,upd_same] at he0;cases he0
  refine ⟨px,pdx,e0,[],rfl,upd_same,.inl (made_same npx npdx _ _ _ _ upd_same),.inl rfl,fun H7 rv cu k7 ncu hob hcu hrv=>⟨rfl,?_⟩⟩
  have s7:=made_next npx npdx k7
  have x7:=s7 _ _ ((upd_ne xe0).trans upd_same)
  have pxx:px≠x:=fun z=>by rw [z,(upd_ne xe0),upd_same] at npx;cases npx
  have cux:cu≠x:=fun z=>by rw [z,made_same npx npdx _ _ _ _ ((upd_ne xe0).trans upd_same)] at ncu;cases ncu
  refine ⟨_,rfl,_,_,_,_,rfl,x7,T.cl_Lathe,T.na_Lathe_piece,Nat.le_of_ble_eq_true rfl,?_⟩
  intro bx bdx nbx nbdx bne
  refine ⟨bx,bdx,rfl,upd_same,fun ea hea=>⟨rfl,?_⟩⟩
  have xbx:x≠bx:=fun z=>by rw [← z,upd_same] at nbx;cases nbx
  have x9:=made_same nbx nbdx (.own bx) (.ins (cOf mg "Book") bdx []) _ _ (upd_same (H:=H7) (a:=x))
  have xea:x≠ea:=ne_of_none x9 hea
  have bea:bx≠ea:=ne_of_none upd_same hea
  refine ⟨_,rfl,_,_,_,_,rfl,((upd_ne xbx).trans ((upd_ne xea).trans x9)),T.cl_Lathe,T.na_Lathe_record,Nat.le_of_ble_eq_true rfl,?_⟩
  have hM7:=s7 _ _ (up3 he0 (.tup []) Mx hM2)
  have e07:=s7 _ _ (upd_same (a:=e0) (o:=.tup []))
  have nb7:H7 bx=none:=by rw [← nbx,upd_ne (Ne.symm xbx)]
  have ne7:H7 ea=none:=by
   cases h:H7 ea with
   | none=>rfl
   | some o=>rw [made_same nbx nbdx _ _ ea o ((upd_ne (Ne.symm xea)).trans h)] at hea;cases hea
  refine q1 G _ _ (init_rep (dx:=dx) G hM7 Mx hob e07 (Ne.symm xe0) hcu hrv pxx cux T.t_NOUGHT (fun b o e nb=>?_) upd_same ((upd_ne (Ne.symm bea)).trans upd_same) (Ne.symm xbx) (Ne.symm xea) nb7 ne7) (fun b o e nb=>?_) (fun b z=>?_)
  ·exact up8 nbx nbdx hea nb e
  ·exact (upd_ne nb).trans (up8 nbx nbdx hea nb (s7 b o (up3 he0 (.tup []) nb (s2 b o e))))
  ·have back:∀ b,b≠x→H7 b=none→H b=none:=fun b nb z=>by
    cases h:H b with
    | none=>rfl
    | some o=>rw [s7 b o (up3 he0 (.tup []) nb (s2 b o h))] at z;cases z
   rcases z with z | rfl | rfl | rfl | rfl
   ·exact .inl z
   ·refine .inr (.inr ?_)
    cases h:H b with
    | none=>rfl
    | some o=>rw [up3 he0 (.tup []) pxx (s2 b o h)] at npx;cases npx
   ·refine .inr (.inr ?_)
    cases h:H b with
    | none=>rfl
    | some o=>rw [made_same npx npdx _ _ b o (up3 he0 (.tup []) cux (s2 b o h))] at ncu;cases ncu
   ·exact .inr (.inr (back _ (Ne.symm xbx) nb7))
   ·exact .inr (.inr (back _ (Ne.symm xea) ne7))

def spKnown (K:PySem.W.Frag) (mg:Str→Option Value):Sp:=fun vs H Q E=>∃ (s a:Addr) (ss ws:List Int),vs=[.ref s,.ref a]∧SqT K H s (ss.map V.int)∧SqA K H a (ws.map V.int) ∧
 ((∀ v∈ws,v∈ss)→Q .non H)∧(¬ (∀ v∈ws,v∈ss)→E (.ref (cOf mg "UnknownWheel")) none H)
theorem d_f_check_known (T:Txt K mg):DefOkX P w K mg base "check_known" ["shop","train"] 1 (spKnown K mg):=by
 obtain ⟨f,fd,F,hm,hb⟩:=T.h_f_check_known
 refine ⟨f,fd,F.ok1 sc_f_check_known (fun vs H Q E h=>?_) (fun cdv A outer s H vs Q E hr h=>?_),hm,F.kp,hb⟩
 ·obtain ⟨s,a,ss,ws,rfl,_⟩:=h
  rfl
 obtain ⟨s,a,ss,ws,rfl,hS,hA,q1,q2⟩:=h
 refine ⟨_,(@pss_one _ _ _ (ps_for PassesOwn.leaving rfl (pi_any (pv 1)) (pg_name (i:=2) sc_f_check_known.nd rfl (Or.inl rfl))
 (@pss_one _ _ _ (ps_if (pt_cmpR op_notIn_seq (pv 2) (pv 0) (by with_unfolding_all rfl))
 (@pss_one _ _ _ (ps_raise out_cx rfl T.x_UnknownWheel T.g_UnknownWheel (pa_cons pe_str pa_nil)))
 pss_nil)))),?_⟩
 have hlen:(ws.map V.int).length=ws.length:=List.length_map _
 refine ⟨a,rfl,for_any (K:=K) (a:=a) (xs:=ws.map V.int) (fun i σ H'=>∃ k:Option V,σ=[some (.ref s),some (.ref a),k]∧H'=H∧∀ j v,j<i→ws[j]? = some v→v∈ss) hA ⟨none,rfl,rfl,fun j v z=>by omega⟩ (fun i τ G ⟨_,_,e,_⟩=>by rw [e];exact Same.refl _) ?_ ?_⟩
 ·rintro i x σ H' hx ⟨k,rfl,rfl,hv⟩
  rw [List.getElem?_map] at hx
  obtain ⟨v,hv1,rfl⟩:=Option.map_eq_some_iff.mp hx
  refine ⟨_,rfl,_,rfl,s,_,rfl,.inr hS,rfl,flat_ints ss,?_⟩
  rw [in_ints]
  refine ⟨_,rfl,iteND (fun c2=>?_) (fun c2=>?_)⟩
  ·exact ⟨by show 1≤sizeLine;decide,q2 (fun z=>c2 (z v (List.mem_of_getElem? hv1)))⟩
  ·refine ⟨_,rfl,rfl,fun j u hj hu=>?_⟩
   rcases Nat.lt_or_ge j i with z | z
   ·exact hv j u z hu
   ·have e:j=i:=by omega
    subst e
    rw [hu] at hv1;cases hv1;exact c2
 ·rintro σ H' ⟨k,rfl,rfl,hv⟩
  rw [hlen] at hv
  exact q1 fun v h=>by
   obtain ⟨j,hj,e⟩:=List.getElem_of_mem h
   exact hv j v hj (by rw [List.getElem?_eq_getElem hj,e])

def spNutOpen (K:PySem.W.Frag) (mg:Str→Option Value):Sp:=fun vs H Q E=>∃ (a:Addr) (p:PS) (Fp:Addr→Prop),vs=[.ref a]∧PRep K mg Fp H a p∧(p.closed=false→Q .non H)∧(p.closed=true→E (.ref (cOf mg "WrongNut")) none H)
theorem d_f_check_nut_open (T:Txt K mg):DefOkX P w K mg base "check_nut_open" ["piece"] 1 (spNutOpen K mg):=by
 obtain ⟨f,fd,F,hm,hb⟩:=T.h_f_check_nut_open
 refine ⟨f,fd,F.ok1 sc_f_check_nut_open (fun vs H Q E h=>?_) (fun cdv A outer s H vs Q E hr h=>?_),hm,F.kp,hb⟩
 ·obtain ⟨a,p,Fp,rfl,_⟩:=h
  rfl
 obtain ⟨a,p,Fp,rfl,⟨dx,t,rv,w,c,fv,tc,mc,cu,R⟩,q1,q2⟩:=h
 refine ⟨_,(@pss_one _ _ _ (ps_if (pt_val (pe_fld (pv 0) rfl))
 (@pss_one _ _ _ (ps_raise out_cx rfl T.x_WrongNut T.g_WrongNut (pa_cons pe_str pa_nil)))
 pss_nil)),?_⟩
 refine ⟨_,rfl,_,_,_,_,_,rfl,R.ob,T.cl_Piece,T.na_Piece_closed,rfl,_,rfl,?_⟩
 refine ite2 (fun c=>?_) (fun c=>?_)
 ·exact ⟨by show 1≤sizeLine;decide,q2 c⟩
 ·exact q1 (by simpa using c)

def spCheckTrain (K:PySem.W.Frag) (mg:Str→Option Value):Sp:=fun vs H Q E=>∃ (a:Addr) (ws:List Int),vs=[.ref a]∧SqA K H a (ws.map V.int)∧ws.length≤1000 ∧
 ((ws.length=2∨ws.length=4)∧ws.Nodup→∀ H',Same H H'→Q .non H')∧(¬ ((ws.length=2∨ws.length=4)∧ws.Nodup)→∀ H',Same H H'→E (.ref (cOf mg "BadNumber")) none H')
theorem d_f_check_train (T:Txt K mg):DefOkX P w K mg base "check_train" ["train"] 2 (spCheckTrain K mg):=by
 obtain ⟨f,fd,F,hm,hb⟩:=T.h_f_check_train
 refine ⟨f,fd,F.ok1 sc_f_check_train (fun vs H Q E h=>?_) (fun cdv A outer s H vs Q E hr h=>?_),hm,F.kp,hb⟩
 ·obtain ⟨a,ws,rfl,_⟩:=h
  rfl
 obtain ⟨a,ws,rfl,hA,hl,q1,q2⟩:=h
 refine ⟨_,(@pss_cons _ _ _ _ _ (ps_if (pw_and (pt_cmp (pc_neI (pe_callB call_len_seq (by rfl) T.z_len PySem.boot_len (pa_cons (pv 0) pa_nil)) pe_int)) (pw_and1 (pt_cmp (pc_neI (pe_callB call_len_seq (by rfl) T.z_len PySem.boot_len (pa_cons (pv 0) pa_nil)) pe_int)))).pt
 (@pss_one _ _ _ (ps_raise out_cx rfl T.x_BadNumber T.g_BadNumber (pa_cons pe_str pa_nil)))
 pss_nil)
 (@pss_one _ _ _ (ps_if (pt_val (pe_callD (d_f_has_two_alike T) hr (pa_cons (pv 0) pa_nil)))
 (@pss_one _ _ _ (ps_raise out_cx rfl T.x_BadNumber T.g_BadNumber (pa_cons pe_str pa_nil)))
 pss_nil))),?_⟩
 have hlen:(ws.map V.int).length=ws.length:=List.length_map _
 have rest:(ws.length=2∨ws.length=4)→∀ b:Bool,b=decide (¬ ws.Nodup)→∀ H',Same H H'→if b=true then (1≤sizeLine∧E (.ref (cOf mg "BadNumber")) none H') else Q .non H':=fun hh b hb H' s'=>by
  subst hb
  refine iteD (fun c3=>?_) (fun c3=>?_)
  ·exact ⟨by decide,q2 (fun z=>c3 z.2) _ s'⟩
  ·exact q1 ⟨hh,Decidable.not_not.mp c3⟩ _ s'
 refine ⟨_,rfl,a,_,rfl,hA,_,_,rfl,rfl,?_⟩
 refine ⟨_,rfl,?_⟩
 refine iteND (fun c=>?_) (fun c=>?_)
 ·refine ⟨_,rfl,a,_,rfl,hA,_,_,rfl,rfl,?_⟩
  refine ⟨_,rfl,?_⟩
  refine iteND (fun c2=>?_) (fun c2=>?_)
  ·exact ⟨by show 1≤sizeLine;decide,q2 (fun z=>by rw [hlen] at c c2;rcases z.1 with z | z <;> omega) _ (Same.refl _)⟩
  ·exact ⟨_,rfl,a,ws,rfl,hA,hl,fun H2 s2=>⟨_,rfl,rest (.inr (by rw [hlen] at c2;omega)) _ rfl _ s2⟩⟩
 ·exact iteF ⟨_,rfl,a,ws,rfl,hA,hl,fun H2 s2=>⟨_,rfl,rest (.inl (by rw [hlen] at c;omega)) _ rfl _ s2⟩⟩

def spWrite (K:PySem.W.Frag) (mg:Str→Option Value):Sp:=fun vs H Q E=>∃ b rdx ea es wd wv pb,vs=[.ref b,wd,wv,pb]∧H b=some (.ins (cOf mg "Book") rdx [("entries",.ref ea)])∧H ea=some (.lst es) ∧
 (es.length<100→∀ e t H',(∀ z o,H z=some o→z≠ea→H' z=some o)→H e=none→H t=none→H' t=some (.tup [wd,wv])→H' e=some (.tup [.ref t,pb])→H' ea=some (.lst (es++[.ref e]))→Q .non H')∧(100≤es.length→E (.ref (cOf mg "BookFull")) none H)
theorem d_m_Book_write (T:Txt K mg):MethOk P w K mg base (cOf mg "Book") "write" ["self","word","what","before"] 1 (spWrite K mg):=by
 obtain ⟨f,fd,F,hm,hb⟩:=T.hm_Book_write
 refine ⟨f,fd,F.ok1 sc_m_Book_write (fun vs H Q E h=>?_) (fun cdv A outer s H vs Q E hr h=>?_),hm,T.cl_Book,hb⟩
 ·obtain ⟨b,rdx,ea,es,wd,wv,pb,rfl,_⟩:=h
  rfl
 obtain ⟨b,rdx,ea,es,wd,wv,pb,rfl,hb',he,q1,q2⟩:=h
 refine ⟨_,(@pss_cons _ _ _ _ _ (ps_if (pt_cmp (pc_ge (pe_callB call_len_seq (by rfl) T.z_len PySem.boot_len (pa_cons (pe_fld (pv 0) rfl) pa_nil)) (pe_globC (by rfl) T.g_MOST_DEEDS)))
 (@pss_one _ _ _ (ps_raise out_cx rfl T.x_BookFull T.g_BookFull (pa_cons pe_str pa_nil)))
 pss_nil)
 (@pss_one _ _ _ (ps_expr (pe_bm PySem.F.plainAttrs_list PySem.F.slot_list_append PySem.F.type_list_append mt_append (pe_fld (pv 0) rfl) (pa_cons (@pe_tup _ _ _ _ _ (pa_cons (@pe_tup _ _ _ _ _ (pa_cons (pv 1) (pa_cons (pv 2) pa_nil))) (pa_cons (pv 3) pa_nil))) pa_nil))))),?_⟩
 refine ⟨_,rfl,_,_,_,_,_,rfl,hb',T.cl_Book,T.na_Book_entries,rfl,ea,_,rfl,.inl (SqL.of he),_,_,rfl,rfl,_,rfl,?_⟩
 refine iteD (fun c=>?_) (fun c=>?_)
 ·exact ⟨by show 1≤sizeLine;decide,q2 (by omega)⟩
 ·refine ⟨_,rfl,_,_,_,_,_,rfl,hb',T.cl_Book,T.na_Book_entries,rfl,?_⟩
  refine ⟨.inl ⟨rfl,_,SqL.of he⟩,_,rfl,_,rfl,(by show 2≤sizeLine;decide),fun t ht=>?_⟩
  refine ⟨_,rfl,(by show 2≤sizeLine;decide),fun e hE=>?_⟩
  have s1:=same_new ht (.tup [wd,wv])
  have s2:=s1.trans (same_new hE (.tup [.ref t,pb]))
  have nt:=ne_of_none he ht
  have hE0:=s1.free hE
  have ne:=ne_of_none he hE0
  have net:e≠t:=fun z=>by rw [z,upd_same] at hE;cases hE
  refine ⟨ea,es,_,rfl,rfl,s2 _ _ he,small1000 (by omega),?_⟩
  exact q1 (by omega) e t _ (fun z o hz n=>(upd_ne n).trans (s2 z o hz)) hE0 ht ((upd_ne (Ne.symm nt)).trans ((upd_ne (Ne.symm net)).trans upd_same)) ((upd_ne (Ne.symm ne)).trans upd_same) upd_same

def sp_product (K:PySem.W.Frag):Sp:=fun vs H Q _=>∃ (p r:Addr) (a b c d:Int),vs=[.ref p,.ref r]∧TupK K H p [.int a,.int b]∧TupK K H r [.int c,.int d]∧Bd 2000 a∧Bd 2000 b∧Bd 2000 c∧Bd 2000 d∧b≠0∧d≠0 ∧
 ∀ n,H n=none→Q (.ref n) (upd H n (.tup [.int (ltN (a * c) (b * d)),.int (ltD (a * c) (b * d))]))
theorem d_f_product (T:Txt K mg):DefOk P w K mg base "product" ["a","b"] 3 (sp_product K):=by
 obtain ⟨f,fd,F,hm,hb⟩:=T.h_f_product
 refine ⟨f,fd,F.ok sc_f_product (fun vs H Q E h=>?_) (fun cdv A outer s H vs Q E hr h=>?_),hm,F.kp,hb⟩
 ·obtain ⟨p,r,a,b,c,d,rfl,_⟩:=h
  rfl
 obtain ⟨p,r,a,b,c,d,rfl,hp,hr',ba,bb,bc,bd,b0,d0,q⟩:=h
 refine ⟨_,(@pss_one _ _ _ (@ps_ret _ _ _ _ (pe_callD (d_f_least_terms T) hr (pa_cons (pe_op op_mulX (@pe_ix _ _ _ _ _ _ _ ix_tup (pv 0) pe_int (fun _ _=>rfl)) (@pe_ix _ _ _ _ _ _ _ ix_tup (pv 1) pe_int (fun _ _=>rfl))) (pa_cons (pe_op op_mulX (@pe_ix _ _ _ _ _ _ _ ix_tup (pv 0) pe_int (fun _ _=>rfl)) (@pe_ix _ _ _ _ _ _ _ ix_tup (pv 1) pe_int (fun _ _=>rfl))) pa_nil))))),?_⟩
 exact ⟨_,rfl,_,_,_,_,rfl,rfl,hp.sq,rfl,_,rfl,_,_,_,_,rfl,rfl,hr'.sq,rfl,_,_,rfl,rfl,.inr ⟨ba.mono (by decide),bc.mono (by decide)⟩,_,rfl,_,_,_,_,rfl,rfl,hp.sq,rfl,_,rfl,_,_,_,_,rfl,rfl,hr'.sq,rfl,_,_,rfl,rfl,.inr ⟨bb.mono (by decide),bd.mono (by decide)⟩,_,_,rfl,Int.mul_ne_zero b0 d0,(bb.mul bd).mono (by decide),q⟩

def sp_difference (K:PySem.W.Frag):Sp:=fun vs H Q _=>∃ (p r:Addr) (a b c d:Int),vs=[.ref p,.ref r]∧TupK K H p [.int a,.int b]∧TupK K H r [.int c,.int d]∧Bd 2000 a∧Bd 2000 b∧Bd 2000 c∧Bd 2000 d∧b≠0∧d≠0 ∧
 ∀ n,H n=none→Q (.ref n) (upd H n (.tup [.int (ltN (a * d - c * b) (b * d)),.int (ltD (a * d - c * b) (b * d))]))
theorem d_f_difference (T:Txt K mg):DefOk P w K mg base "difference" ["a","b"] 3 (sp_difference K):=by
 obtain ⟨f,fd,F,hm,hb⟩:=T.h_f_difference
 refine ⟨f,fd,F.ok sc_f_difference (fun vs H Q E h=>?_) (fun cdv A outer s H vs Q E hr h=>?_),hm,F.kp,hb⟩
 ·obtain ⟨p,r,a,b,c,d,rfl,_⟩:=h
  rfl
 obtain ⟨p,r,a,b,c,d,rfl,hp,hr',ba,bb,bc,bd,b0,d0,q⟩:=h
 refine ⟨_,(@pss_one _ _ _ (@ps_ret _ _ _ _ (pe_callD (d_f_least_terms T) hr (pa_cons (pe_op op_sub (pe_op op_mulX (@pe_ix _ _ _ _ _ _ _ ix_tup (pv 0) pe_int (fun _ _=>rfl)) (@pe_ix _ _ _ _ _ _ _ ix_tup (pv 1) pe_int (fun _ _=>rfl))) (pe_op op_mulX (@pe_ix _ _ _ _ _ _ _ ix_tup (pv 1) pe_int (fun _ _=>rfl)) (@pe_ix _ _ _ _ _ _ _ ix_tup (pv 0) pe_int (fun _ _=>rfl)))) (pa_cons (pe_op op_mulX (@pe_ix _ _ _ _ _ _ _ ix_tup (pv 0) pe_int (fun _ _=>rfl)) (@pe_ix _ _ _ _ _ _ _ ix_tup (pv 1) pe_int (fun _ _=>rfl))) pa_nil))))),?_⟩
 exact ⟨_,rfl,_,_,_,_,rfl,rfl,hp.sq,rfl,_,rfl,_,_,_,_,rfl,rfl,hr'.sq,rfl,_,_,rfl,rfl,.inr ⟨ba.mono (by decide),bd.mono (by decide)⟩,_,rfl,_,_,_,_,rfl,rfl,hr'.sq,rfl,_,rfl,_,_,_,_,rfl,rfl,hp.sq,rfl,_,_,rfl,rfl,.inr ⟨bc.mono (by decide),bb.mono (by decide)⟩,_,_,rfl,rfl,_,rfl,_,_,_,_,rfl,rfl,hp.sq,rfl,_,rfl,_,_,_,_,rfl,rfl,hr'.sq,rfl,_,_,rfl,rfl,.inr ⟨bb.mono (by decide),bd.mono (by decide)⟩,_,_,rfl,Int.mul_ne_zero b0 d0,(bb.mul bd).mono (by decide),q⟩

def spOffP (K:PySem.W.Frag) (mg:Str→Option Value):Sp:=fun vs H Q _=>∃ a p Fp,vs=[.ref a]∧PRep K mg Fp H a p∧PcO p∧∀ v H',Same H H'→OffR H H' v p.off→Q v H'
theorem d_m_Piece_off (T:Txt K mg):MethOk P w K mg base (cOf mg "Piece") "off" ["self"] 4 (spOffP K mg):=by
 obtain ⟨f,fd,F,hm,hb⟩:=T.hm_Piece_off
 refine ⟨f,fd,F.ok1 sc_m_Piece_off (fun vs H Q E h=>?_) (fun cdv A outer s H vs Q E hr h=>?_),hm,T.cl_Piece,hb⟩
 ·obtain ⟨a,p,Fp,rfl,_⟩:=h
  rfl
 obtain ⟨a,p,Fp,rfl,⟨dx,t,rv,w,c,fv,tc,mc,cu,R⟩,Pc0,q⟩:=h
 refine ⟨_,(@pss_cons _ _ _ _ _ (ps_if (pt_cmp (pc_isN (pe_fld (pv 0) rfl)))
 (@pss_one _ _ _ (@ps_ret _ _ _ _ pe_non))
 pss_nil)
 (@pss_cons _ _ _ _ _ (@ps_set _ _ 1 _ _ _ _ sc_m_Piece_off.nd rfl (Or.inl rfl) (pe_callD (d_f_product T) hr (pa_cons (pe_fld (pv 0) rfl) (pa_cons (pe_callD (d_f_difference T) hr (pa_cons (pe_fld (pv 0) rfl) (pa_cons (@pe_ix _ _ _ _ _ _ _ ix_tup (pe_fld (pv 0) rfl) pe_int (fun _ _=>rfl)) pa_nil))) pa_nil))) (by rfl) (by first | exact .inl rfl | exact .inr rfl))
 (@pss_one _ _ _ (@ps_ret _ _ _ _ (pe_callD (d_f_difference T) hr (pa_cons (pe_callD (d_f_difference T) hr (pa_cons (pe_fld (pv 0) rfl) (pa_cons (@pe_ix _ _ _ _ _ _ _ ix_tup (pe_fld (pv 0) rfl) pe_int (fun _ _=>rfl)) pa_nil))) (pa_cons (pv 1) pa_nil))))))),?_⟩
 rcases R.fi with ⟨ho,rfl⟩ | ⟨o,f1,c1,w1,x,y,ho,rfl,hf,hc,hw,Fo,he⟩
 ·refine ⟨_,rfl,_,_,_,_,_,rfl,R.ob,T.cl_Piece,T.na_Piece_first,rfl,_,rfl,iteDT rfl ?_⟩
  exact q _ _ (Same.refl _) (by rw [ho];rfl)
 ·refine ⟨_,rfl,_,_,_,_,_,rfl,R.ob,T.cl_Piece,T.na_Piece_first,rfl,_,rfl,iteDF (fun z=>by cases z) ?_⟩
  rcases Pc0 with e | ⟨ts,P⟩
  ·rw [e] at ho;cases ho
  obtain ⟨⟨b1,b2,b3⟩,⟨b4,b5,b6⟩,⟨b7,b8,b9⟩,eo,⟨bx1,bx2⟩,bY1,bY2⟩:=off_steps P Fo ho he
  have hra:=R.ra
  rw [P.ep] at hra
  obtain ⟨ra,rfl,hra⟩:=hra
  have L:=P.tr.pl
  have wN:=P.workN
  have pN:=P.placeN
  refine ⟨_,rfl,_,_,_,_,_,rfl,R.ob,T.cl_Piece,T.na_Piece_ratio,rfl,_,rfl,_,_,_,_,_,rfl,R.ob,T.cl_Piece,T.na_Piece_work_turns,rfl,_,rfl,_,_,_,_,_,rfl,R.ob,T.cl_Piece,T.na_Piece_first,rfl,_,_,_,_,rfl,rfl,SqT.of hf,rfl,?_⟩
  refine ⟨w,w1,p.work.1,p.work.2,y.1,y.2,rfl,R.wo,hw,wN.1.mono (by decide),wN.2.mono (by decide),bY1.mono (by decide),bY2.mono (by decide),P.w.ne,Fo.oy.ne,fun n1 hn1=>?_⟩
  have s1:=same_new hn1 (.tup [.int (qsub p.work y).1,.int (qsub p.work y).2])
  refine ⟨ra,n1,(ratio ts).1,(ratio ts).2,(qsub p.work y).1,(qsub p.work y).2,rfl,(.inl (s1 _ _ hra)),.inl upd_same,L.bp.mono (by decide),L.bq.mono (by decide),b1.mono (by decide),b2.mono (by decide),P.tr.rok.ne,b3,fun n2 hn2=>?_⟩
  have s2:=s1.trans (same_new hn2 (.tup [.int (qmul (ratio ts) (qsub p.work y)).1,.int (qmul (ratio ts) (qsub p.work y)).2]))
  have ob2:=s2 _ _ R.ob
  refine ⟨_,rfl,_,_,_,_,_,rfl,ob2,T.cl_Piece,T.na_Piece_place,rfl,_,rfl,_,_,_,_,_,rfl,ob2,T.cl_Piece,T.na_Piece_first,rfl,_,_,_,_,rfl,rfl,SqT.of (s2 _ _ hf),rfl,?_⟩
  refine ⟨c,c1,p.place.1,p.place.2,x.1,x.2,rfl,R.pl.mono s2,hc.mono s2,pN.1.mono (by decide),pN.2.mono (by decide),bx1.mono (by decide),bx2.mono (by decide),P.pl.ne,Fo.ox.ne,fun n3 hn3=>?_⟩
  have s3:=same_new hn3 (.tup [.int (qsub p.place x).1,.int (qsub p.place x).2])
  refine ⟨_,rfl,n3,n2,(qsub p.place x).1,(qsub p.place x).2,(qmul (ratio ts) (qsub p.work y)).1,(qmul (ratio ts) (qsub p.work y)).2,rfl,.inl upd_same,.inl (s3 _ _ upd_same),b7.mono (by decide),b8.mono (by decide),b4.mono (by decide),b5.mono (by decide),b9,b6,fun n4 hn4=>?_⟩
  refine q _ _ (s2.trans (s3.trans (same_new hn4 _))) ?_
  rw [ho]
  refine ⟨n4,rfl,(s2.trans s3).free hn4,?_⟩
  rw [← eo]
  exact upd_same

def sp_remainder:Sp:=fun vs H Q _=>∃ (p r:Addr) (a b c d:Int),vs=[.ref p,.ref r]∧H p=some (.tup [.int a,.int b])∧H r=some (.tup [.int c,.int d])∧Bd 2000 a∧Bd 2000 b∧Bd 2000 c∧Bd 2000 d∧0<b∧0<c∧0<d ∧
 ∀ n,H n=none→Q (.ref n) (upd H n (.tup [.int (ltN (a * d % (c * b)) (b * d)),.int (ltD (a * d % (c * b)) (b * d))]))
theorem d_f_remainder (T:Txt K mg):DefOk P w K mg base "remainder" ["a","b"] 3 sp_remainder:=by
 obtain ⟨f,fd,F,hm,hb⟩:=T.h_f_remainder
 refine ⟨f,fd,F.ok sc_f_remainder (fun vs H Q E h=>?_) (fun cdv A outer s H vs Q E hr h=>?_),hm,F.kp,hb⟩
 ·obtain ⟨p,r,a,b,c,d,rfl,_⟩:=h
  rfl
 obtain ⟨p,r,a,b,c,d,rfl,hp,hr',ba,bb,bc,bd,b0,c0,d0,q⟩:=h
 refine ⟨_,(@pss_one _ _ _ (@ps_ret _ _ _ _ (pe_callD (d_f_least_terms T) hr (pa_cons (pe_op op_mod (pe_op op_mulX (@pe_ix _ _ _ _ _ _ _ ix_tup (pv 0) pe_int (fun _ _=>rfl)) (@pe_ix _ _ _ _ _ _ _ ix_tup (pv 1) pe_int (fun _ _=>rfl))) (pe_op op_mulX (@pe_ix _ _ _ _ _ _ _ ix_tup (pv 1) pe_int (fun _ _=>rfl)) (@pe_ix _ _ _ _ _ _ _ ix_tup (pv 0) pe_int (fun _ _=>rfl)))) (pa_cons (pe_op op_mulX (@pe_ix _ _ _ _ _ _ _ ix_tup (pv 0) pe_int (fun _ _=>rfl)) (@pe_ix _ _ _ _ _ _ _ ix_tup (pv 1) pe_int (fun _ _=>rfl))) pa_nil))))),?_⟩
 exact ⟨_,rfl,_,_,_,_,rfl,rfl,SqT.of (hp),rfl,_,rfl,_,_,_,_,rfl,rfl,SqT.of (hr'),rfl,_,_,rfl,rfl,.inr ⟨ba.mono (by decide),bd.mono (by decide)⟩,_,rfl,_,_,_,_,rfl,rfl,SqT.of (hr'),rfl,_,rfl,_,_,_,_,rfl,rfl,SqT.of (hp),rfl,_,_,rfl,rfl,.inr ⟨bc.mono (by decide),bb.mono (by decide)⟩,_,_,rfl,rfl,Int.mul_pos c0 b0,_,rfl,_,_,_,_,rfl,rfl,SqT.of (hp),rfl,_,rfl,_,_,_,_,rfl,rfl,SqT.of (hr'),rfl,_,_,rfl,rfl,.inr ⟨bb.mono (by decide),bd.mono (by decide)⟩,_,_,rfl,Int.ne_of_gt (Int.mul_pos b0 d0),(bb.mul bd).mono (by decide),q⟩

def spReading:Sp:=fun vs H Q _=>∃ (r:Addr) (x y n:Int),vs=[.ref r,.int n]∧H r=some (.tup [.int x,.int y])∧Bd 1700 x∧Bd 1700 y∧0<y∧2≤n∧n≤64 ∧
 ∀ (m:Addr) (H':Hp),Same H H'→H' m=some (.tup [.int (ltN (x % (n * y)) y),.int (ltD (x % (n * y)) y)])→Q (.ref m) H'
theorem d_f_reading_of (T:Txt K mg):DefOk P w K mg base "reading_of" ["off","teeth"] 4 spReading:=by
 obtain ⟨f,fd,F,hm,hb⟩:=T.h_f_reading_of
 refine ⟨f,fd,F.ok sc_f_reading_of (fun vs H Q E h=>?_) (fun cdv A outer s H vs Q E hr h=>?_),hm,F.kp,hb⟩
 ·obtain ⟨r,x,y,n,rfl,_⟩:=h
  rfl
 obtain ⟨r,x,y,n,rfl,hR,bx,bY,y0,n0,n1,q⟩:=h
 refine ⟨_,(@pss_one _ _ _ (@ps_ret _ _ _ _ (pe_callD (d_f_remainder T) hr (pa_cons (pv 0) (pa_cons (@pe_tup _ _ _ _ _ (pa_cons (pv 1) (pa_cons pe_int pa_nil))) pa_nil))))),?_⟩
 have bn:Bd 64 n:=bd20 (by omega) (by omega)
 refine ⟨_,rfl,_,rfl,(by show 2≤sizeLine;decide),fun p hp=>?_⟩
 have s1:=same_new hp (.tup [.int n,.int 1])
 refine ⟨r,p,x,y,n,1,rfl,s1 _ _ hR,upd_same,bx.mono (by decide),bY.mono (by decide),bn.mono (by decide),(Bd.of60 (by decide) (by decide)).mono (show 200≤2000 by decide),y0,by omega,by decide,fun m hm=>?_⟩
 rw [Int.mul_one,Int.mul_one]
 exact q m _ (s1.trans (same_new hm _)) upd_same

theorem d_m_Lathe_reading (T:Txt K mg):MethOk P w K mg base (cOf mg "Lathe") "reading" ["self"] 5 (spAsk K mg fun l _ _ H' v=>FrO K H' v l.shown):=by
 obtain ⟨f,fd,F,hm,hb⟩:=T.hm_Lathe_reading
 refine ⟨f,fd,F.ok1 sc_m_Lathe_reading (fun vs H Q E h=>?_) (fun cdv A outer s H vs Q E hr h=>?_),hm,T.cl_Lathe,hb⟩
 ·obtain ⟨a,l,F,rfl,_⟩:=h
  rfl
 obtain ⟨a,l,F,rfl,R,q⟩:=h
 have R0:=R
 obtain ⟨Fp,dx,s,pa,ra,rdx,ea,es,R⟩:=R
 refine ⟨_,(@pss_cons _ _ _ _ _ (@ps_set _ _ 1 _ _ _ _ sc_m_Lathe_reading.nd rfl (Or.inl rfl) (pe_methX0 (d_m_Piece_off T) hr (passOut out_cx) (pe_fld (pv 0) rfl)) (by rfl) (by first | exact .inl rfl | exact .inr rfl))
 (@pss_cons _ _ _ _ _ (ps_if (pt_cmp (pc_isN (pv 1)))
 (@pss_one _ _ _ (@ps_ret _ _ _ _ pe_non))
 pss_nil)
 (@pss_one _ _ _ (@ps_ret _ _ _ _ (pe_callD (d_f_reading_of T) hr (pa_cons (pv 1) (pa_cons (pe_fld (pv 0) rfl) pa_nil))))))),?_⟩
 obtain ⟨pdx,t,rv,w,c,fv,tc,mc,cu,Rp⟩:=R.pc
 refine ⟨_,rfl,_,_,_,_,_,rfl,R.ob,T.cl_Lathe,T.na_Lathe_piece,rfl,pa,pdx,_,rfl,Rp.ob,rfl,pa,l.ps,Fp,rfl,R.pc,R.re.pco,fun v H' s' hv=>?_⟩
 cases ho:l.ps.off with
 | none =>
  rw [ho] at hv
  cases (show v = .non from hv)
  refine ⟨_,rfl,_,rfl,iteDT rfl ?_⟩
  exact q _ _ F (R0.same s') (Fit.of_same s') (by show FrO K _ _ l.shown;unfold LS.shown;rw [ho];rfl)
 | some o =>
  rw [ho] at hv
  obtain ⟨n,rfl,hn0,hn⟩:=hv
  rcases R.re.pco with e | ⟨ts,P⟩
  ·rw [e] at ho;cases ho
  have G:=R.re.good
  have oN:=P.offN ho
  have oO:=P.o o ho
  refine ⟨_,rfl,_,rfl,iteDF (fun z=>by cases z) ?_⟩
  refine ⟨_,rfl,_,rfl,_,_,_,_,_,rfl,(s' _ _ R.ob),T.cl_Lathe,T.na_Lathe_teeth,rfl,n,o.1,o.2,l.teeth,rfl,hn,oN.1,oN.2,by have:=oO.pos;omega,G.n2,G.n64,fun m H2 s2 hm=>?_⟩
  exact q _ _ F (R0.same (s'.trans s2)) (Fit.of_same (s'.trans s2)) (by show FrO K _ _ l.shown;unfold LS.shown;rw [ho];exact ⟨m,rfl,.inl hm⟩)

def spLastG (K:PySem.W.Frag) (mg:Str→Option Value):Sp:=fun vs H Q _=>∃ a p Fp,vs=[.ref a]∧PRep K mg Fp H a p∧∀ v,InO v (p.cuts.getLast?.map (·.2))→Q v H
theorem d_m_Piece_last_groove (T:Txt K mg):MethOk P w K mg base (cOf mg "Piece") "last_groove" ["self"] 1 (spLastG K mg):=by
 obtain ⟨f,fd,F,hm,hb⟩:=T.hm_Piece_last_groove
 refine ⟨f,fd,F.ok1 sc_m_Piece_last_groove (fun vs H Q E h=>?_) (fun cdv A outer s H vs Q E hr h=>?_),hm,T.cl_Piece,hb⟩
 ·obtain ⟨a,p,Fp,rfl,_⟩:=h
  rfl
 obtain ⟨a,p,Fp,rfl,⟨dx,t,rv,w,c,fv,tc,mc,cu,R⟩,q⟩:=h
 refine ⟨_,(@pss_cons _ _ _ _ _ (ps_if (pt_cmp (pc_eqI (pe_callB call_len_seq (by rfl) T.z_len PySem.boot_len (pa_cons (pe_fld (pv 0) rfl) pa_nil)) pe_int))
 (@pss_one _ _ _ (@ps_ret _ _ _ _ pe_non))
 pss_nil)
 (@pss_one _ _ _ (@ps_ret _ _ _ _ (@pe_ix _ _ _ _ _ _ _ ix_tup (@pe_ix _ _ _ _ _ _ _ ix_list (pe_fld (pv 0) rfl) (pe_un un_neg pe_int) (fun _ _=>rfl)) pe_int (fun _ _=>rfl))))),?_⟩
 obtain ⟨rs,hrs,prs⟩:=R.cu
 rcases last_or p.cuts with e | ⟨cs,c0,e⟩
 ·rw [e] at prs
  cases prs
  refine ⟨_,rfl,_,_,_,_,_,rfl,R.ob,T.cl_Piece,T.na_Piece_cuts,rfl,cu,_,rfl,.inl (SqL.of hrs),_,_,rfl,rfl,_,rfl,iteDT rfl ?_⟩
  exact q _ (by rw [e];rfl)
 ·rw [e,rowsOf,List.map_append] at prs
  obtain ⟨rs',r,rfl,_,hr2⟩:=paired_last prs
  refine ⟨_,rfl,_,_,_,_,_,rfl,R.ob,T.cl_Piece,T.na_Piece_cuts,rfl,cu,_,rfl,.inl (SqL.of hrs),_,_,rfl,rfl,_,rfl,iteDF (by rw [List.length_map,List.length_append,List.length_singleton];omega) ?_⟩
  have ea:atI ((rs'++[r]).map V.ref) (-1)=some (.ref r):=by rw [List.map_append];exact atI_last _ _
  refine ⟨_,rfl,_,_,_,_,_,rfl,R.ob,T.cl_Piece,T.na_Piece_cuts,rfl,_,rfl,cu,_,_,_,rfl,rfl,SqL.of hrs,ea,_,_,_,_,rfl,rfl,SqT.of hr2,rfl,?_⟩
  exact q _ (by rw [e,List.getLast?_append];rfl)

theorem d_m_Lathe_stand (T:Txt K mg):MethOk P w K mg base (cOf mg "Lathe") "stand" ["self"] 6 (spAsk K mg (tellStand K)):=by
 obtain ⟨f,fd,F,hm,hb⟩:=T.hm_Lathe_stand
 refine ⟨f,fd,F.ok1 sc_m_Lathe_stand (fun vs H Q E h=>?_) (fun cdv A outer s H vs Q E hr h=>?_),hm,T.cl_Lathe,hb⟩
 ·obtain ⟨a,l,F,rfl,_⟩:=h
  rfl
 obtain ⟨a,l,F,rfl,R,q⟩:=h
 have R0:=R
 obtain ⟨Fp,dx,s,pa,ra,rdx,ea,es,R⟩:=R
 refine ⟨_,(@pss_one _ _ _ (@ps_ret _ _ _ _ (@pe_tup _ _ _ _ _ (pa_cons (pe_fld (pe_fld (pv 0) rfl) rfl) (pa_cons (pe_methX0 (d_m_Lathe_reading T) hr (passOut out_cx) (pv 0)) (pa_cons (pe_methX0 (d_m_Piece_last_groove T) hr (passOut out_cx) (pe_fld (pv 0) rfl)) pa_nil)))))),?_⟩
 obtain ⟨pdx,t,rv,w,c,fv,tc,mc,cu,Rp⟩:=R.pc
 refine ⟨_,rfl,_,_,_,_,_,rfl,R.ob,T.cl_Lathe,T.na_Lathe_piece,rfl,_,_,_,_,_,rfl,Rp.ob,T.cl_Piece,T.na_Piece_place,rfl,?_⟩
 refine ⟨_,rfl,a,dx,_,rfl,R.ob,rfl,a,l,F,rfl,R0,fun v H1 F1 R1 f1 hv=>?_⟩
 have R10:=R1
 obtain ⟨Fp1,dx1,s1,pa1,ra1,rdx1,ea1,es1,R1⟩:=R1
 obtain ⟨pdx1,t1,rv1,w1,c1,fv1,tc1,mc1,cu1,Rp1⟩:=R1.pc
 refine ⟨_,rfl,_,_,_,_,_,rfl,R1.ob,T.cl_Lathe,T.na_Lathe_piece,rfl,pa1,pdx1,_,rfl,Rp1.ob,rfl,pa1,l.ps,Fp1,rfl,R1.pc,fun g hg=>?_⟩
 refine ⟨(by show 3≤sizeLine;decide),fun n hn=>?_⟩
 have sn:=same_new hn (.tup [.ref c,v,g])
 exact q _ _ F1 (R10.same sn) (f1.trans (Fit.of_same sn)) ⟨n,rfl,c,v,g,upd_same,(Rp.pl.tups f1.tup).mono sn,hv.tups (Same.tups sn),hg⟩

theorem d_m_Lathe_enter (T:Txt K mg):MethOk P w K mg base (cOf mg "Lathe") "enter" ["self","word","what","after"] 7 (spEnter K mg):=by
 obtain ⟨f,fd,F,hm,hb⟩:=T.hm_Lathe_enter
 refine ⟨f,fd,F.ok1 sc_m_Lathe_enter (fun vs H Q E h=>?_) (fun cdv A outer s H vs Q E hr h=>?_),hm,T.cl_Lathe,hb⟩
 ·obtain ⟨a,l,F,d,wv,pb,Fq,rfl,_⟩:=h
  rfl
 obtain ⟨a,l,F,d,wv,pb,Fq,rfl,⟨Fp,dx,s,pa,ra,rdx,ea,es,R⟩,hw,Rb,nF,aF,hre,q1,q2⟩:=h
 refine ⟨_,(@pss_cons _ _ _ _ _ (ps_expr (pe_methX (d_m_Book_write T) hr (passOut out_cx) (pe_fld (pv 0) rfl) (pa_cons (pv 1) (pa_cons (pv 2) (pa_cons (pe_fld (pv 0) rfl) pa_nil)))))
 (@pss_cons _ _ _ _ _ (ps_fld (pv 0) (pv 3) rfl)
 (@pss_one _ _ _ (@ps_ret _ _ _ _ (pe_methX0 (d_m_Lathe_stand T) hr (passOut out_cx) (pv 0)))))),?_⟩
 have hlen:=R.en.len
 refine ⟨_,rfl,_,_,_,_,_,rfl,R.ob,T.cl_Lathe,T.na_Lathe_record,rfl,ra,rdx,_,rfl,R.bo,rfl,_,rfl,_,rfl,_,rfl,_,_,_,_,_,rfl,R.ob,T.cl_Lathe,T.na_Lathe_piece,rfl,ra,rdx,ea,es,_,_,_,rfl,R.bo,R.he,fun lt e t H1 k1 ne nt ht he hea=>?_,fun ge=>q2 (by omega)⟩
 have aea:a≠ea:=fun z=>by have h1:=R.ob;rw [z,R.he] at h1;cases h1
 have raea:ra≠ea:=fun z=>by have h1:=R.bo;rw [z,R.he] at h1;cases h1
 have raa:ra≠a:=fun z=>by have h1:=R.bo;rw [z,R.ob] at h1;exact nomatch (show (4:Nat)=1 from congrArg List.length (HO.ins.inj (Option.some.inj h1)).2.2)
 have ob1:=k1 _ _ R.ob aea
 refine ⟨_,rfl,_,rfl,_,_,_,_,rfl,ob1,T.cl_Lathe,T.na_Lathe_piece,Nat.le_of_ble_eq_true rfl,?_⟩
 have tu1:Tups H H1:=fun b xs h=>k1 b _ h fun z=>by rw [z,R.he] at h;cases h
 have nota:∀ b xs,H1 b=some (.tup xs)→b≠a:=fun b xs h z=>by rw [z,ob1] at h;cases h
 have tu2:Tups H (upd H1 a (.ins (cOf mg "Lathe") dx (laF s l.teeth pb ra))):=fun b xs h=>(upd_ne (nota b xs (tu1 b xs h))).trans (tu1 b xs h)
 have kp:∀ b o,Fp b→H b=some o→upd H1 a (.ins (cOf mg "Lathe") dx (laF s l.teeth pb ra)) b=some o:=fun b o f h=>(upd_ne (fun z:b=a=>R.n1 (z ▸ f))).trans (k1 b o h fun z=>R.n3 (z ▸ f))
 have kq:∀ b o,Fq b→H b=some o→upd H1 a (.ins (cOf mg "Lathe") dx (laF s l.teeth pb ra)) b=some o:=fun b o f h=>(upd_ne (fun z:b=a=>nF b f (z ▸ R.f1))).trans (k1 b o h fun z=>nF b f (z ▸ R.f3))
 have R2:LRep K mg (upd H1 a (.ins (cOf mg "Lathe") dx (laF s l.teeth pb ra))) a (l.push d) (fun b=>F b∨Fq b):=by
  refine ⟨fun b=>Fp b∨Fq b,dx,s,pb,ra,rdx,ea,es++[.ref e],hre (by omega),upd_same,tu2 _ _ R.sh,(upd_ne raa).trans (k1 _ _ R.bo raea),(upd_ne (Ne.symm aea)).trans hea,.inl R.f1,.inl R.f2,.inl R.f3,fun b z=>z.elim (fun z=>.inl (R.fp b z)) .inr,fun z=>z.elim R.n1 fun z=>nF _ z R.f1,fun z=>z.elim R.n2 fun z=>nF _ z R.f2,fun z=>z.elim R.n3 fun z=>nF _ z R.f3,fun b z=>?_,?_,?_⟩
  ·by_cases za:b=a
   ·rw [za];exact ⟨_,upd_same⟩
   ·by_cases ze:b=ea
    ·rw [ze];exact ⟨_,(upd_ne (Ne.symm aea)).trans hea⟩
    ·obtain ⟨o,h⟩:∃ o,H b=some o:=z.elim (R.al b) (aF b)
     exact ⟨o,(upd_ne za).trans (k1 b o h ze)⟩
  ·refine Ents.push ((R.en.frame kp tu2).foot fun b z=>.inl z) ?_
   refine ⟨e,t,pa,wv,rfl,(upd_ne (nota _ _ he)).trans he,(upd_ne (nota _ _ ht)).trans ht,hw.tups tu2,?_⟩
   exact (R.pc.frame kp tu2).foot fun b z=>.inl z
  ·rw [LS.ps_push]
   exact (Rb.frame kq tu2).foot fun b z=>.inr z
 refine ⟨_,rfl,a,dx,_,rfl,upd_same,rfl,a,l.push d,_,rfl,R2,fun v H3 F3 R3 f3 hv=>?_⟩
 obtain ⟨r,rfl,hst⟩:=hv
 refine q1 (by omega) r H3 F3 R3 (fun b z=>?_) (fun b o h n1 n2=>?_) (fun b xs h=>f3.tup b xs (tu2 b xs h)) hst
 ·rcases f3.foot b z with z | z
  ·exact z.elim .inl fun z=>.inr (.inl z)
  ·refine .inr (.inr ?_)
   cases h:H b with
   | none=>rfl
   | some o =>
    by_cases za:b=a
    ·rw [za,upd_same] at z;cases z
    ·rw [upd_ne za] at z
     by_cases ze:b=ea
     ·rw [ze,hea] at z;cases z
     ·rw [k1 b o h ze] at z;cases z
 ·refine f3.keep b o ((upd_ne fun z:b=a=>n1 (z ▸ R.f1)).trans (k1 b o h fun z=>n1 (z ▸ R.f3))) fun z=>z.elim n1 n2

theorem d_m_Lathe_mount (T:Txt K mg):MethOk P w K mg base (cOf mg "Lathe") "mount" ["self","train"] 9 (spMountL K mg):=by
 obtain ⟨f,fd,F,hm,hb⟩:=T.hm_Lathe_mount
 refine ⟨f,fd,F.ok1 sc_m_Lathe_mount (fun vs H Q E h=>?_) (fun cdv A outer s H vs Q E hr h=>?_),hm,T.cl_Lathe,hb⟩
 ·obtain ⟨a,t,ts,l,F,rfl,_⟩:=h
  rfl
 obtain ⟨a,t,ts,l,F,rfl,R0,hT,h1000,hbd,D⟩:=h
 have R1:=R0
 obtain ⟨Fp,dx,s,pa,ra,rdx,ea,es,R⟩:=R1
 refine ⟨_,(@pss_cons _ _ _ _ _ (ps_expr (pe_callX (d_f_check_known T) hr (passOut out_cx) (pa_cons (pe_fld (pv 0) rfl) (pa_cons (pv 1) pa_nil))))
 (@pss_cons _ _ _ _ _ (ps_expr (pe_callX (d_f_check_nut_open T) hr (passOut out_cx) (pa_cons (pe_fld (pv 0) rfl) pa_nil)))
 (@pss_cons _ _ _ _ _ (ps_expr (pe_callX (d_f_check_train T) hr (passOut out_cx) (pa_cons (pv 1) pa_nil)))
 (@pss_cons _ _ _ _ _ (@ps_set _ _ 2 _ _ _ _ sc_m_Lathe_mount.nd rfl (Or.inl rfl) (pe_callTy call_tuple_of (by rfl) T.z_tuple PyProof.Rows.boot_tuple (pa_cons (pv 1) pa_nil)) (by rfl) (by first | exact .inl rfl | exact .inr rfl))
 (@pss_one _ _ _ (@ps_ret _ _ _ _ (pe_methX (d_m_Lathe_enter T) hr (passOut out_cx) (pv 0) (pa_cons pe_str (pa_cons (pv 2) (pa_cons (pe_makeX (d_m_Piece___init__ T) hr (passOut out_cx) (pa_cons (pv 2) pa_nil)) pa_nil)))))))))),?_⟩
 have hA:SqA K H t (ts.map V.int):=hT.elim (fun h=>.inl (SqL.of h)) fun h=>.inr h.sq
 refine ⟨_,rfl,_,_,_,_,_,rfl,R.ob,T.cl_Lathe,T.na_Lathe_shop,rfl,_,rfl,s,t,l.shop,ts,rfl,SqT.of R.sh,hA,fun kn=>?_,fun un=>D.no R0 (Same.refl _) (due1 ?_)⟩
 rotate_left
 ·show (ts.all fun w=>decide (w∈l.shop))=false
  refine Bool.eq_false_iff.mpr fun z=>un fun v hv=>?_
  exact of_decide_eq_true (List.all_eq_true.mp z v hv)
 have d1:(Req.mount ts).known l=true:=by
  show (ts.all fun w=>decide (w∈l.shop))=true
  exact List.all_eq_true.mpr fun v hv=>decide_eq_true (kn v hv)
 refine ⟨_,rfl,_,_,_,_,_,rfl,R.ob,T.cl_Lathe,T.na_Lathe_piece,rfl,pa,l.ps,Fp,rfl,R.pc,fun cl=>?_,fun cl=>D.no R0 (Same.refl _) (due3 d1 rfl cl)⟩
 refine ⟨_,rfl,t,ts,rfl,hA,h1000,fun ok H1 s1=>?_,fun bad H1 s1=>D.no R0 s1 (due4 d1 rfl cl ?_)⟩
 rotate_left
 ·show (!(decide (ts.length=2∨ts.length=4) && decide ts.Nodup))=true
  rw [Bool.not_eq_true',← Bool.not_eq_true,Bool.and_eq_true]
  exact fun z=>bad ⟨of_decide_eq_true z.1,of_decide_eq_true z.2⟩
 have d4:(Req.mount ts).bad l.ps=false:=by
  show (!(decide (ts.length=2∨ts.length=4) && decide ts.Nodup))=false
  rw [decide_eq_true ok.1,decide_eq_true ok.2];rfl
 have G:=R.re.good
 have Tr:Train ts:=⟨ok.1,fun v hv=>G.shop.lo v (kn v hv),fun v hv=>G.shop.hi v (kn v hv)⟩
 have dd:=due6 (q:=.mount ts) d1 rfl cl d4 rfl
 have eps:l.ps.after (Req.mount ts).deed=newPS ts:=(newPS_train Tr).symm
 refine (fun (key:∀ (M:Addr) (Hd:Hp),(Same H Hd∧TupK K Hd M (ts.map V.int))→(?G:Addr→Hp→Prop) M Hd)=>?main) ?keyp
 case main =>
  rcases hT with hT | hT
  ·refine ⟨_,rfl,t,_,rfl,.inl ⟨SqL.of (s1 _ _ hT),fun M hM=>?_⟩⟩
   have S2:=s1.trans (same_new hM (.tup (ts.map V.int)))
   have hM2:TupK K (upd H1 M (.tup (ts.map V.int))) M (ts.map V.int):=.inl upd_same
   dsimp only
   generalize upd H1 M (.tup (ts.map V.int))=Hd at S2 hM2 ⊢
   exact key M Hd ⟨S2,hM2⟩
  ·refine ⟨_,rfl,t,_,rfl,.inr ⟨(hT.mono s1).sq,?_⟩⟩
   exact key t H1 ⟨s1,hT.mono s1⟩
 case keyp =>
  rintro M Hd ⟨s2,hM2⟩
  refine ⟨_,rfl,a,dx,_,rfl,s2 _ _ R.ob,rfl,_,rfl,_,rfl,fun x dx2 nx ndx ne=>?_⟩
  refine ⟨x,dx2,_,ts,rfl,upd_same,hM2.mono (made_same nx ndx _ _),.inr Tr,fun H3 rv cu k ncu hob hcu hrv=>⟨rfl,?_⟩⟩
  have s3:=made_next nx ndx k
  have nx0:=s2.free nx
  have cx:cu≠x:=fun z=>by rw [z,upd_same] at ncu;cases ncu
  have ncu0:H cu=none:=by
   cases h:H cu with
   | none=>rfl
   | some o=>rw [made_same nx ndx _ _ cu o (s2 _ _ h)] at ncu;cases ncu
  refine D.enter (Fq:=fun z=>z=x∨z=cu) R0 (s2.trans s3) (fun b z=>by rcases z with rfl | rfl;exact nx0;exact ncu0) (fun b z=>by rcases z with rfl | rfl;exact ⟨_,hob⟩;exact ⟨_,hcu⟩) dd ⟨_,rfl,hM2.mono s3⟩ ?_
  rw [eps]
  have hN:FrA K H3 (cOf mg "NOUGHT") (0,1):=.inr T.t_NOUGHT
  exact ⟨dx2,_,rv,_,_,.non,_,_,cu,hob,.inl rfl,.inr rfl,hM2.mono s3,hrv,hN,hN,.inl ⟨rfl,rfl⟩,hN,hN,⟨[],hcu,.nil⟩⟩

def spMounted (K:PySem.W.Frag) (mg:Str→Option Value):Sp:=fun vs H Q E=>∃ (a:Addr) (p:PS) (Fp:Addr→Prop),vs=[.ref a]∧PRep K mg Fp H a p∧(p.pitch≠none→Q .non H)∧(p.pitch=none→E (.ref (cOf mg "NoTrain")) none H)
theorem d_f_check_mounted (T:Txt K mg):DefOkX P w K mg base "check_mounted" ["piece"] 1 (spMounted K mg):=by
 obtain ⟨f,fd,F,hm,hb⟩:=T.h_f_check_mounted
 refine ⟨f,fd,F.ok1 sc_f_check_mounted (fun vs H Q E h=>?_) (fun cdv A outer s H vs Q E hr h=>?_),hm,F.kp,hb⟩
 ·obtain ⟨a,p,Fp,rfl,_⟩:=h
  rfl
 obtain ⟨a,p,Fp,rfl,⟨dx,t,rv,w,c,fv,tc,mc,cu,R⟩,q1,q2⟩:=h
 refine ⟨_,(@pss_one _ _ _ (ps_if (pt_cmp (pc_isN (pe_fld (pv 0) rfl)))
 (@pss_one _ _ _ (ps_raise out_cx rfl T.x_NoTrain T.g_NoTrain (pa_cons pe_str pa_nil)))
 pss_nil)),?_⟩
 refine ⟨_,rfl,_,_,_,_,_,rfl,R.ob,T.cl_Piece,T.na_Piece_ratio,rfl,_,rfl,?_⟩
 have hra:=R.ra
 refine iteD (fun c=>?_) (fun c=>?_)
 ·refine ⟨by show 1≤sizeLine;decide,q2 ?_⟩
  cases hp:p.pitch with
  | none=>rfl
  | some x=>rw [hp] at hra;obtain ⟨n,e,_⟩:=hra;rw [c] at e;cases e
 ·refine q1 fun z=>c ?_
  rw [z] at hra;exact hra

def spTwin (K:PySem.W.Frag) (mg:Str→Option Value):Sp:=fun vs H Q _=>∃ a p Fp,vs=[.ref a]∧PRep K mg Fp H a p∧PcO p ∧
 ∀ b H' Fq,Same H H'→H b=none→(∀ z,Fq z→H z=none)→(∀ z,Fq z→∃ o,H' z=some o)→PRep K mg Fq H' b p→Q (.ref b) H'
theorem d_m_Piece_twin (T:Txt K mg):MethOk P w K mg base (cOf mg "Piece") "twin" ["self"] 6 (spTwin K mg):=by
 obtain ⟨f,fd,F,hm,hb⟩:=T.hm_Piece_twin
 refine ⟨f,fd,F.ok1 sc_m_Piece_twin (fun vs H Q E h=>?_) (fun cdv A outer s H vs Q E hr h=>?_),hm,T.cl_Piece,hb⟩
 ·obtain ⟨a,p,Fp,rfl,_⟩:=h
  rfl
 obtain ⟨a,p,Fp,rfl,⟨dx,t,rv,w,c,fv,tc,mc,cu,R⟩,Pc0,q⟩:=h
 refine ⟨_,(@pss_cons _ _ _ _ _ (@ps_set _ _ 1 _ _ _ _ sc_m_Piece_twin.nd rfl (Or.inl rfl) (pe_makeX (d_m_Piece___init__ T) hr (passOut out_cx) (pa_cons (pe_fld (pv 0) rfl) pa_nil)) (by rfl) (by first | exact .inl rfl | exact .inr rfl))
 (@pss_cons _ _ _ _ _ (ps_fld (pv 1) (pe_fld (pv 0) rfl) rfl)
 (@pss_cons _ _ _ _ _ (ps_fld (pv 1) (pe_fld (pv 0) rfl) rfl)
 (@pss_cons _ _ _ _ _ (ps_fld (pv 1) (pe_fld (pv 0) rfl) rfl)
 (@pss_cons _ _ _ _ _ (ps_fld (pv 1) (pe_fld (pv 0) rfl) rfl)
 (@pss_cons _ _ _ _ _ (ps_fld (pv 1) (pe_fld (pv 0) rfl) rfl)
 (@pss_cons _ _ _ _ _ (ps_fld (pv 1) (pe_fld (pv 0) rfl) rfl)
 (@pss_cons _ _ _ _ _ (ps_fld (pv 1) (pe_callTy call_list_of (by rfl) T.z_list PyProof.Rows.boot_list (pa_cons (pe_fld (pv 0) rfl) pa_nil)) rfl)
 (@pss_one _ _ _ (@ps_ret _ _ _ _ (pv 1))))))))))),?_⟩
 obtain ⟨htr,hpi⟩:=Pc0.train
 obtain ⟨rs,hrs,prs⟩:=R.cu
 refine ⟨_,rfl,_,_,_,_,_,rfl,R.ob,T.cl_Piece,T.na_Piece_train,rfl,fun x dx2 nx ndx ne=>?_⟩
 have sx:Same H (upd (upd H dx2 (.own x)) x (.ins (cOf mg "Piece") dx2 [])):=fun b o e=>by rw [upd_ne (ne_of_none e nx),upd_ne (ne_of_none e ndx)];exact e
 refine ⟨x,dx2,t,p.train,rfl,upd_same,R.tr.mono sx,htr,fun H1 rv1 cu1 k1 ncu1 hob hcu1 hrv=>⟨rfl,?_⟩⟩
 have s1:Same H H1:=fun b o e=>k1 b o (sx b o e) (ne_of_none e nx)
 have hax:a≠x:=ne_of_none R.ob nx
 have a1:=s1 _ _ R.ob
 refine ⟨_,rfl,_,_,_,_,_,rfl,a1,T.cl_Piece,T.na_Piece_work_turns,rfl,_,rfl,_,_,_,_,rfl,hob,T.cl_Piece,T.na_Piece_work_turns,Nat.le_of_ble_eq_true rfl,?_⟩
 refine ⟨_,rfl,_,_,_,_,_,rfl,((upd_ne hax).trans a1),T.cl_Piece,T.na_Piece_place,rfl,_,rfl,_,_,_,_,rfl,upd_same,T.cl_Piece,T.na_Piece_place,Nat.le_of_ble_eq_true rfl,?_⟩
 refine ⟨_,rfl,_,_,_,_,_,rfl,((upd_ne hax).trans ((upd_ne hax).trans a1)),T.cl_Piece,T.na_Piece_closed,rfl,_,rfl,_,_,_,_,rfl,upd_same,T.cl_Piece,T.na_Piece_closed,Nat.le_of_ble_eq_true rfl,?_⟩
 refine ⟨_,rfl,_,_,_,_,_,rfl,((upd_ne hax).trans ((upd_ne hax).trans ((upd_ne hax).trans a1))),T.cl_Piece,T.na_Piece_first,rfl,_,rfl,_,_,_,_,rfl,upd_same,T.cl_Piece,T.na_Piece_first,Nat.le_of_ble_eq_true rfl,?_⟩
 refine ⟨_,rfl,_,_,_,_,_,rfl,((upd_ne hax).trans ((upd_ne hax).trans ((upd_ne hax).trans ((upd_ne hax).trans a1)))),T.cl_Piece,T.na_Piece_turn_count,rfl,_,rfl,_,_,_,_,rfl,upd_same,T.cl_Piece,T.na_Piece_turn_count,Nat.le_of_ble_eq_true rfl,?_⟩
 refine ⟨_,rfl,_,_,_,_,_,rfl,((upd_ne hax).trans ((upd_ne hax).trans ((upd_ne hax).trans ((upd_ne hax).trans ((upd_ne hax).trans a1))))),T.cl_Piece,T.na_Piece_move_count,rfl,_,rfl,_,_,_,_,rfl,upd_same,T.cl_Piece,T.na_Piece_move_count,Nat.le_of_ble_eq_true rfl,?_⟩
 have hcx:cu≠x:=ne_of_none hrs nx
 have c1:=s1 _ _ hrs
 refine ⟨_,rfl,_,_,_,_,_,rfl,((upd_ne hax).trans ((upd_ne hax).trans ((upd_ne hax).trans ((upd_ne hax).trans ((upd_ne hax).trans ((upd_ne hax).trans a1)))))),T.cl_Piece,T.na_Piece_cuts,rfl,cu,_,rfl,.inl (SqL.of ((upd_ne hcx).trans ((upd_ne hcx).trans ((upd_ne hcx).trans ((upd_ne hcx).trans ((upd_ne hcx).trans ((upd_ne hcx).trans c1))))))),fun cu2 hcu2=>?_⟩
 have cx:cu2≠x:=fun z=>by rw [z,upd_same] at hcu2;cases hcu2
 refine ⟨_,rfl,_,_,_,_,rfl,((upd_ne (Ne.symm cx)).trans upd_same),T.cl_Piece,T.na_Piece_cuts,Nat.le_of_ble_eq_true rfl,_,rfl,?_⟩
 obtain ⟨s2,R2⟩:=twin_rep (dx2:=dx2) R nx hcu2 cx (fun b o e=>by
  have n:=ne_of_none e nx
  exact (upd_ne n).trans ((upd_ne n).trans ((upd_ne n).trans ((upd_ne n).trans ((upd_ne n).trans ((upd_ne n).trans (s1 b o e))))))) prs (by
  rw [hpi]
  refine hrv.tups fun b xs e=>?_
  have n:b≠x:=fun z=>by rw [z,hob] at e;cases e
  exact (upd_ne n).trans ((upd_ne n).trans ((upd_ne n).trans ((upd_ne n).trans ((upd_ne n).trans ((upd_ne n).trans e)))))) upd_same
 refine q x _ (fun z=>z=x∨z=cu2) s2 nx (fun z hz=>?_) (fun z hz=>?_) ⟨dx2,t,rv1,w,c,fv,tc,mc,cu2,R2⟩
 ·rcases hz with rfl | rfl
  ·exact nx
  ·rw [upd_ne cx,upd_ne cx,upd_ne cx,upd_ne cx,upd_ne cx,upd_ne cx] at hcu2
   exact s1.free hcu2
 ·rcases hz with rfl | rfl
  ·exact ⟨_,upd_same⟩
  ·exact ⟨_,(upd_ne cx).trans upd_same⟩

def spCloseP (K:PySem.W.Frag) (mg:Str→Option Value):Sp:=fun vs H Q _=>∃ a p Fp ts,vs=[.ref a]∧PRep K mg Fp H a p∧Pc p ts∧∀ H',(∀ b o,H b=some o→b≠a→H' b=some o)→(∃ o,H' a=some o)→PRep K mg Fp H' a (p.after .close)→Q .non H'
theorem d_m_Piece_close_nut (T:Txt K mg):MethOk P w K mg base (cOf mg "Piece") "close_nut" ["self"] 1 (spCloseP K mg):=by
 obtain ⟨f,fd,F,hm,hb⟩:=T.hm_Piece_close_nut
 refine ⟨f,fd,F.ok1 sc_m_Piece_close_nut (fun vs H Q E h=>?_) (fun cdv A outer s H vs Q E hr h=>?_),hm,T.cl_Piece,hb⟩
 ·obtain ⟨a,p,Fp,ts,rfl,_⟩:=h
  rfl
 obtain ⟨a,p,Fp,ts,rfl,⟨dx,t,rv,w,c,fv,tc,mc,cu,R⟩,P,q⟩:=h
 refine ⟨_,(@pss_cons _ _ _ _ _ (ps_fld (pv 0) pe_bl rfl)
 (@pss_one _ _ _ (ps_if (pt_cmp (pc_isN (pe_fld (pv 0) rfl)))
 (@pss_one _ _ _ (ps_fld (pv 0) (@pe_tup _ _ _ _ _ (pa_cons (pe_fld (pv 0) rfl) (pa_cons (pe_fld (pv 0) rfl) pa_nil))) rfl))
 pss_nil))),?_⟩
 obtain ⟨rs,hrs,prs⟩:=R.cu
 have hca:cu≠a:=fun z=>by rw [z,R.ob] at hrs;cases hrs
 refine ⟨_,rfl,_,_,_,_,rfl,R.ob,T.cl_Piece,T.na_Piece_closed,Nat.le_of_ble_eq_true rfl,?_⟩
 rcases R.fi with ⟨ho,rfl⟩ | ⟨o,f1,c1,w1,x,y,ho,rfl,hf,hc,hw,Fo,he⟩
 ·refine ⟨_,rfl,_,_,_,_,_,rfl,upd_same,T.cl_Piece,T.na_Piece_first,rfl,_,rfl,iteDT rfl ?_⟩
  refine ⟨_,rfl,_,_,_,_,_,rfl,upd_same,T.cl_Piece,T.na_Piece_place,rfl,_,rfl,_,_,_,_,_,rfl,upd_same,T.cl_Piece,T.na_Piece_work_turns,rfl,(by show 2≤sizeLine;decide),fun n hn=>?_⟩
  have na:n≠a:=fun z=>by rw [z,upd_same] at hn;cases hn
  refine ⟨_,rfl,_,_,_,_,rfl,((upd_ne (Ne.symm na)).trans upd_same),T.cl_Piece,T.na_Piece_first,Nat.le_of_ble_eq_true rfl,?_⟩
  have k:∀ b o,H b=some o→b≠a→upd (upd (upd H a (.ins (cOf mg "Piece") dx (pcF t rv w c true .non tc mc cu))) n (.tup [.ref c,.ref w])) a (.ins (cOf mg "Piece") dx (pcF t rv w c true (.ref n) tc mc cu)) b=some o:=fun b o e nb=>keep2 hn b o ((upd_ne nb).trans e) nb
  have tu:Tups H (upd (upd (upd H a (.ins (cOf mg "Piece") dx (pcF t rv w c true .non tc mc cu))) n (.tup [.ref c,.ref w])) a (.ins (cOf mg "Piece") dx (pcF t rv w c true (.ref n) tc mc cu))):=fun b xs e=>k b _ e fun z=>by rw [z,R.ob] at e;cases e
  refine q _ k ⟨_,upd_same⟩ ⟨dx,t,rv,w,c,.ref n,tc,mc,cu,upd_same,R.fa,R.fc,R.tr.tups tu,R.ra.tups tu,R.wo.tups tu,R.pl.tups tu,.inr ⟨(0,1),n,c,w,p.place,p.work,?_,rfl,(upd_ne na).trans upd_same,R.pl.tups tu,R.wo.tups tu,⟨P.pl,P.w,?_,?_,P.placeBd,?_⟩,?_⟩,R.tu.tups tu,R.mo.tups tu,⟨rs,k _ _ hrs hca,pair_tups tu prs⟩⟩
  ·show some (p.off.getD (0,1))=_;rw [ho];rfl
  ·show Wh (qv p.place * ((LL * (ratio p.train).2:Int):Rat));rw [P.et];exact P.dp
  ·show Wh (qv p.work * ((LL * (ratio p.train).1:Int):Rat));rw [P.et];exact P.dw
  ·exact Rat.le_trans P.lw P.t1
  ·show qv (0,1)=qv p.place - qv p.place - qv (ratio p.train) * (qv p.work - qv p.work)
   rw [qv_zero];grind
 ·refine ⟨_,rfl,_,_,_,_,_,rfl,upd_same,T.cl_Piece,T.na_Piece_first,rfl,_,rfl,iteDF (fun z=>by cases z) ?_⟩
  have k:∀ b o,H b=some o→b≠a→upd H a (.ins (cOf mg "Piece") dx (pcF t rv w c true (.ref f1) tc mc cu)) b=some o:=fun b o e n=>(upd_ne n).trans e
  have tu:Tups H (upd H a (.ins (cOf mg "Piece") dx (pcF t rv w c true (.ref f1) tc mc cu))):=fun b xs e=>k b _ e fun z=>by rw [z,R.ob] at e;cases e
  refine q _ k ⟨_,upd_same⟩ ⟨dx,t,rv,w,c,.ref f1,tc,mc,cu,upd_same,R.fa,R.fc,R.tr.tups tu,R.ra.tups tu,R.wo.tups tu,R.pl.tups tu,.inr ⟨o,f1,c1,w1,x,y,?_,rfl,tu _ _ hf,hc.tups tu,hw.tups tu,⟨Fo.ox,Fo.oy,Fo.wx,Fo.wy,Fo.bx,Fo.bY⟩,he⟩,R.tu.tups tu,R.mo.tups tu,⟨rs,k _ _ hrs hca,pair_tups tu prs⟩⟩
  show some (p.off.getD (0,1))=_;rw [ho];rfl

theorem d_m_Lathe_close_nut (T:Txt K mg):MethOk P w K mg base (cOf mg "Lathe") "close_nut" ["self"] 9 (spDeed0 K mg .close):=by
 obtain ⟨f,fd,F,hm,hb⟩:=T.hm_Lathe_close_nut
 refine ⟨f,fd,F.ok1 sc_m_Lathe_close_nut (fun vs H Q E h=>?_) (fun cdv A outer s H vs Q E hr h=>?_),hm,T.cl_Lathe,hb⟩
 ·obtain ⟨a,l,F,rfl,_⟩:=h
  rfl
 obtain ⟨a,l,F,rfl,R0,D⟩:=h
 have R1:=R0
 obtain ⟨Fp,dx,s,pa,ra,rdx,ea,es,R⟩:=R1
 refine ⟨_,(@pss_cons _ _ _ _ _ (ps_expr (pe_callX (d_f_check_mounted T) hr (passOut out_cx) (pa_cons (pe_fld (pv 0) rfl) pa_nil)))
 (@pss_cons _ _ _ _ _ (ps_expr (pe_callX (d_f_check_nut_open T) hr (passOut out_cx) (pa_cons (pe_fld (pv 0) rfl) pa_nil)))
 (@pss_cons _ _ _ _ _ (@ps_set _ _ 1 _ _ _ _ sc_m_Lathe_close_nut.nd rfl (Or.inl rfl) (pe_methX0 (d_m_Piece_off T) hr (passOut out_cx) (pe_fld (pv 0) rfl)) (by rfl) (by first | exact .inl rfl | exact .inr rfl))
 (@pss_cons _ _ _ _ _ (ps_if (pw_and (pt_cmp (pc_notN (pv 1))) (pw_and1 (pt_cmp (pc_neI (@pe_ix _ _ _ _ _ _ _ ix_tup (pv 1) pe_int (fun _ _=>rfl)) pe_int)))).pt
 (@pss_one _ _ _ (ps_raise out_cx rfl T.x_NoMeeting T.g_NoMeeting (pa_cons pe_str pa_nil)))
 pss_nil)
 (@pss_cons _ _ _ _ _ (@ps_set _ _ 2 _ _ _ _ sc_m_Lathe_close_nut.nd rfl (Or.inl rfl) (pe_methX0 (d_m_Piece_twin T) hr (passOut out_cx) (pe_fld (pv 0) rfl)) (by rfl) (by first | exact .inl rfl | exact .inr rfl))
 (@pss_cons _ _ _ _ _ (ps_expr (pe_methX0 (d_m_Piece_close_nut T) hr (passOut out_cx) (pv 2)))
 (@pss_one _ _ _ (@ps_ret _ _ _ _ (pe_methX (d_m_Lathe_enter T) hr (passOut out_cx) (pv 0) (pa_cons pe_str (pa_cons pe_non (pa_cons (pv 2) pa_nil)))))))))))),?_⟩
 refine ⟨_,rfl,_,_,_,_,_,rfl,R.ob,T.cl_Lathe,T.na_Lathe_piece,rfl,pa,l.ps,Fp,rfl,R.pc,fun pi=>?_,fun pi=>D.no R0 (Same.refl _) (due2 rfl (by show l.ps.pitch.isSome=false;rw [pi];rfl))⟩
 have d2:Req.close.has l=true:=by show l.ps.pitch.isSome=true;exact Option.isSome_iff_ne_none.mpr pi
 refine ⟨_,rfl,_,_,_,_,_,rfl,R.ob,T.cl_Lathe,T.na_Lathe_piece,rfl,pa,l.ps,Fp,rfl,R.pc,fun cl=>?_,fun cl=>D.no R0 (Same.refl _) (due3 rfl d2 cl)⟩
 obtain ⟨pdx,t,rv,w,c,fv,tc,mc,cu,Rp⟩:=R.pc
 rcases R.re.pco with e | ⟨ts,P⟩
 ·rw [e] at pi;exact absurd rfl pi
 refine ⟨_,rfl,_,_,_,_,_,rfl,R.ob,T.cl_Lathe,T.na_Lathe_piece,rfl,pa,pdx,_,rfl,Rp.ob,rfl,pa,l.ps,Fp,rfl,R.pc,R.re.pco,fun v H1 s1 hv=>?_⟩
 have meet:∀ o,l.ps.off=some o→(Req.close.meets l=true ↔ o.2=1):=fun o ho=>by
  show ((l.ps.off.getD (0,1)).2 == 1)=true ↔ _
  rw [ho];exact beq_iff_eq
 refine (fun (key:∀ Hd:Hp,(Hd=H1∧((l.book.length<100→due l .close=none)∧(100≤l.book.length→due l .close=some "BookFull")))→(?G:Hp→Prop) Hd)=>?main) ?keyp
 case main =>
  rcases ho:l.ps.off with _ | o
  ·rw [ho] at hv
   have ev:v = .non:=hv
   refine ⟨_,rfl,_,rfl,?_⟩
   rw [ev]
   refine iteF (iteF ?_)
   exact key H1 ⟨rfl,due6 (l:=l) (q:=.close) rfl d2 cl rfl (by show ((l.ps.off.getD (0,1)).2 == 1)=true;rw [ho];rfl)⟩
  ·rw [ho] at hv
   obtain ⟨n,ev,hn0,hn⟩:=hv
   refine ⟨_,rfl,_,rfl,?_⟩
   rw [ev]
   refine iteT ?_
   refine ⟨_,rfl,_,_,_,_,rfl,rfl,SqT.of (hn),rfl,_,_,rfl,rfl,_,rfl,?_⟩
   refine iteND (fun ne=>⟨by show 1≤sizeLine;decide,D.no R0 s1 (due5 rfl d2 cl rfl (Bool.eq_false_iff.mpr fun z=>ne ((meet o ho).mp z)))⟩) (fun eq=>?_)
   exact key H1 ⟨rfl,due6 (l:=l) (q:=.close) rfl d2 cl rfl ((meet o ho).mpr eq)⟩
 case keyp =>
  rintro _ ⟨rfl,dd⟩
  refine ⟨_,rfl,_,_,_,_,_,rfl,(s1 _ _ R.ob),T.cl_Lathe,T.na_Lathe_piece,rfl,pa,pdx,_,rfl,s1 _ _ Rp.ob,rfl,pa,l.ps,Fp,rfl,R.pc.same s1,R.re.pco,fun b H2 Fq s2 nb nq aq Rb=>?_⟩
  obtain ⟨bdx,bt,brv,bw,bc,bfv,btc,bmc,bcu,Rb'⟩:=id Rb
  refine ⟨_,rfl,b,bdx,_,rfl,Rb'.ob,rfl,b,l.ps,Fq,ts,rfl,Rb,P,fun H3 k3 ex3 R3=>?_⟩
  have s3:=keep1 (s1.trans s2) (s1.free nb) k3
  exact ⟨_,rfl,a,dx,_,rfl,s3 _ _ R.ob,rfl,_,rfl,D.enter R0 s3 (fun z f=>s1.free (nq z f)) (aq1 aq k3 ex3) dd rfl R3⟩

def spNutClosed (K:PySem.W.Frag) (mg:Str→Option Value):Sp:=fun vs H Q E=>∃ (a:Addr) (p:PS) (Fp:Addr→Prop),vs=[.ref a]∧PRep K mg Fp H a p∧(p.closed=true→Q .non H)∧(p.closed=false→E (.ref (cOf mg "WrongNut")) none H)
theorem d_f_check_nut_closed (T:Txt K mg):DefOkX P w K mg base "check_nut_closed" ["piece"] 1 (spNutClosed K mg):=by
 obtain ⟨f,fd,F,hm,hb⟩:=T.h_f_check_nut_closed
 refine ⟨f,fd,F.ok1 sc_f_check_nut_closed (fun vs H Q E h=>?_) (fun cdv A outer s H vs Q E hr h=>?_),hm,F.kp,hb⟩
 ·obtain ⟨a,p,Fp,rfl,_⟩:=h
  rfl
 obtain ⟨a,p,Fp,rfl,⟨dx,t,rv,w,c,fv,tc,mc,cu,R⟩,q1,q2⟩:=h
 refine ⟨_,(@pss_one _ _ _ (ps_if (pt_not (pt_val (pe_fld (pv 0) rfl)))
 (@pss_one _ _ _ (ps_raise out_cx rfl T.x_WrongNut T.g_WrongNut (pa_cons pe_str pa_nil)))
 pss_nil)),?_⟩
 refine ⟨_,rfl,_,_,_,_,_,rfl,R.ob,T.cl_Piece,T.na_Piece_closed,rfl,_,rfl,?_⟩
 refine ite2 (fun c=>?_) (fun c=>?_)
 ·exact ⟨by show 1≤sizeLine;decide,q2 (by simpa using c)⟩
 ·exact q1 (by simpa using c)

def spBottom (K:PySem.W.Frag) (mg:Str→Option Value):Sp:=fun vs H Q E=>∃ (a:Addr) (x y:Int),vs=[.ref a]∧TupK K H a [.int x,.int y]∧(1≤y∧y≤1000→Q .non H)∧(¬ (1≤y∧y≤1000)→E (.ref (cOf mg "BadNumber")) none H)
theorem d_f_check_bottom (T:Txt K mg):DefOkX P w K mg base "check_bottom" ["fraction"] 2 (spBottom K mg):=by
 obtain ⟨f,fd,F,hm,hb⟩:=T.h_f_check_bottom
 refine ⟨f,fd,F.ok1 sc_f_check_bottom (fun vs H Q E h=>?_) (fun cdv A outer s H vs Q E hr h=>?_),hm,F.kp,hb⟩
 ·obtain ⟨a,x,y,rfl,_⟩:=h
  rfl
 obtain ⟨a,x,y,rfl,hA,q1,q2⟩:=h
 refine ⟨_,(@pss_one _ _ _ (ps_if (pt_not (pt_val (pe_callD (d_f_is_within T) hr (pa_cons (@pe_ix _ _ _ _ _ _ _ ix_tup (pv 0) pe_int (fun _ _=>rfl)) (pa_cons pe_int (pa_cons pe_int pa_nil))))))
 (@pss_one _ _ _ (ps_raise out_cx rfl T.x_BadNumber T.g_BadNumber (pa_cons pe_str pa_nil)))
 pss_nil)),?_⟩
 refine ⟨_,rfl,_,_,_,_,rfl,rfl,hA.sq,rfl,_,_,_,rfl,_,rfl,?_⟩
 refine iteND (fun c=>?_) (fun c=>?_)
 ·exact ⟨by show 1≤sizeLine;decide,q2 c⟩
 ·exact q1 c

def spLess (K:PySem.W.Frag):Sp:=fun vs H Q _=>∃ (p r:Addr) (a b c d:Int),vs=[.ref p,.ref r]∧TupK K H p [.int a,.int b]∧TupK K H r [.int c,.int d]∧Bd 2000 a∧Bd 2000 b∧Bd 2000 c∧Bd 2000 d∧Q (.bl (decide (a * d<c * b))) H
theorem d_f_is_less (T:Txt K mg):DefOk P w K mg base "is_less" ["a","b"] 1 (spLess K):=by
 obtain ⟨f,fd,F,hm,hb⟩:=T.h_f_is_less
 refine ⟨f,fd,F.ok sc_f_is_less (fun vs H Q E h=>?_) (fun cdv A outer s H vs Q E hr h=>?_),hm,F.kp,hb⟩
 ·obtain ⟨p,r,a,b,c,d,rfl,_⟩:=h
  rfl
 obtain ⟨p,r,a,b,c,d,rfl,hp,hr',ba,bb,bc,bd,q⟩:=h
 refine ⟨_,(@pss_one _ _ _ (@ps_ret _ _ _ _ (pe_cmp (pc_lt (pe_op op_mulX (@pe_ix _ _ _ _ _ _ _ ix_tup (pv 0) pe_int (fun _ _=>rfl)) (@pe_ix _ _ _ _ _ _ _ ix_tup (pv 1) pe_int (fun _ _=>rfl))) (pe_op op_mulX (@pe_ix _ _ _ _ _ _ _ ix_tup (pv 1) pe_int (fun _ _=>rfl)) (@pe_ix _ _ _ _ _ _ _ ix_tup (pv 0) pe_int (fun _ _=>rfl))))))),?_⟩
 exact ⟨_,rfl,_,_,_,_,rfl,rfl,hp.sq,rfl,_,rfl,_,_,_,_,rfl,rfl,hr'.sq,rfl,_,_,rfl,rfl,.inr ⟨ba.mono (by decide),bd.mono (by decide)⟩,_,rfl,_,_,_,_,rfl,rfl,hr'.sq,rfl,_,rfl,_,_,_,_,rfl,rfl,hp.sq,rfl,_,_,rfl,rfl,.inr ⟨bc.mono (by decide),bb.mono (by decide)⟩,_,_,rfl,rfl,q⟩

def sp_sum_of (K:PySem.W.Frag):Sp:=fun vs H Q _=>∃ (p r:Addr) (a b c d:Int),vs=[.ref p,.ref r]∧TupK K H p [.int a,.int b]∧TupK K H r [.int c,.int d]∧Bd 2000 a∧Bd 2000 b∧Bd 2000 c∧Bd 2000 d∧b≠0∧d≠0 ∧
 ∀ n,H n=none→Q (.ref n) (upd H n (.tup [.int (ltN (a * d + c * b) (b * d)),.int (ltD (a * d + c * b) (b * d))]))
theorem d_f_sum_of (T:Txt K mg):DefOk P w K mg base "sum_of" ["a","b"] 3 (sp_sum_of K):=by
 obtain ⟨f,fd,F,hm,hb⟩:=T.h_f_sum_of
 refine ⟨f,fd,F.ok sc_f_sum_of (fun vs H Q E h=>?_) (fun cdv A outer s H vs Q E hr h=>?_),hm,F.kp,hb⟩
 ·obtain ⟨p,r,a,b,c,d,rfl,_⟩:=h
  rfl
 obtain ⟨p,r,a,b,c,d,rfl,hp,hr',ba,bb,bc,bd,b0,d0,q⟩:=h
 refine ⟨_,(@pss_one _ _ _ (@ps_ret _ _ _ _ (pe_callD (d_f_least_terms T) hr (pa_cons (pe_op op_add (pe_op op_mulX (@pe_ix _ _ _ _ _ _ _ ix_tup (pv 0) pe_int (fun _ _=>rfl)) (@pe_ix _ _ _ _ _ _ _ ix_tup (pv 1) pe_int (fun _ _=>rfl))) (pe_op op_mulX (@pe_ix _ _ _ _ _ _ _ ix_tup (pv 1) pe_int (fun _ _=>rfl)) (@pe_ix _ _ _ _ _ _ _ ix_tup (pv 0) pe_int (fun _ _=>rfl)))) (pa_cons (pe_op op_mulX (@pe_ix _ _ _ _ _ _ _ ix_tup (pv 0) pe_int (fun _ _=>rfl)) (@pe_ix _ _ _ _ _ _ _ ix_tup (pv 1) pe_int (fun _ _=>rfl))) pa_nil))))),?_⟩
 exact ⟨_,rfl,_,_,_,_,rfl,rfl,hp.sq,rfl,_,rfl,_,_,_,_,rfl,rfl,hr'.sq,rfl,_,_,rfl,rfl,.inr ⟨ba.mono (by decide),bd.mono (by decide)⟩,_,rfl,_,_,_,_,rfl,rfl,hr'.sq,rfl,_,rfl,_,_,_,_,rfl,rfl,hp.sq,rfl,_,_,rfl,rfl,.inr ⟨bc.mono (by decide),bb.mono (by decide)⟩,_,_,rfl,rfl,_,rfl,_,_,_,_,rfl,rfl,hp.sq,rfl,_,rfl,_,_,_,_,rfl,rfl,hr'.sq,rfl,_,_,rfl,rfl,.inr ⟨bb.mono (by decide),bd.mono (by decide)⟩,_,_,rfl,Int.mul_ne_zero b0 d0,(bb.mul bd).mono (by decide),q⟩

def spCounted (K:PySem.W.Frag):Sp:=fun vs H Q _=>∃ (p r:Addr) (c:Q2) (x y:Int),vs=[.ref p,.ref r]∧FrA K H p c∧FrA K H r (x,y)∧Bd 2000 c.1∧Bd 2000 c.2∧Bd 2000 x∧Bd 2000 y∧c.2≠0∧y≠0 ∧
 ∀ n H',Same H H'→H n=none→H' n=some (.tup [.int (qadd c (qabs (x,y))).1,.int (qadd c (qabs (x,y))).2])→Q (.ref n) H'
theorem d_f_counted (T:Txt K mg):DefOk P w K mg base "counted" ["count","amount"] 4 (spCounted K):=by
 obtain ⟨f,fd,F,hm,hb⟩:=T.h_f_counted
 refine ⟨f,fd,F.ok sc_f_counted (fun vs H Q E h=>?_) (fun cdv A outer s H vs Q E hr h=>?_),hm,F.kp,hb⟩
 ·obtain ⟨p,r,c,x,y,rfl,_⟩:=h
  rfl
 obtain ⟨p,r,c,x,y,rfl,hp,hR,b1,b2,b3,b4,n1,n2,q⟩:=h
 refine ⟨_,(@pss_one _ _ _ (@ps_ret _ _ _ _ (pe_callD (d_f_sum_of T) hr (pa_cons (pv 0) (pa_cons (@pe_tup _ _ _ _ _ (pa_cons (pe_callB call_abs (by rfl) T.z_abs PyProof.Rows.boot_abs (pa_cons (@pe_ix _ _ _ _ _ _ _ ix_tup (pv 1) pe_int (fun _ _=>rfl)) pa_nil)) (pa_cons (@pe_ix _ _ _ _ _ _ _ ix_tup (pv 1) pe_int (fun _ _=>rfl)) pa_nil))) pa_nil))))),?_⟩
 refine ⟨_,rfl,_,rfl,_,_,_,_,rfl,rfl,hR.sq,rfl,_,rfl,_,rfl,_,_,_,_,rfl,rfl,hR.sq,rfl,(by show 2≤sizeLine;decide),fun m hm=>?_⟩
 have s1:=same_new hm (.tup [.int (if x<0 then -x else x),.int y])
 refine ⟨p,m,_,_,_,_,rfl,hp.mono s1,.inl upd_same,b1,b2,(b3.le (by split <;> omega)),b4,n1,n2,fun n hn=>?_⟩
 exact q n _ (s1.trans (same_new hn _)) (s1.free hn) upd_same

def spCount (K:PySem.W.Frag) (mg:Str→Option Value):Sp:=fun vs H Q E=>∃ (p r:Addr) (c:Q2) (x y:Int),vs=[.ref p,.ref r]∧FrA K H p c∧FrA K H r (x,y)∧Bd 2000 c.1∧Bd 2000 c.2∧Bd 2000 x∧Bd 2000 y∧c.2≠0∧y≠0 ∧
 Bd 2000 (qadd c (qabs (x,y))).1∧Bd 2000 (qadd c (qabs (x,y))).2 ∧
 (tooMuch c (x,y)=false→∀ H',Same H H'→Q .non H')∧(tooMuch c (x,y)=true→∀ H',Same H H'→E (.ref (cOf mg "BadNumber")) none H')
theorem d_f_check_count (T:Txt K mg):DefOkX P w K mg base "check_count" ["count","amount"] 5 (spCount K mg):=by
 obtain ⟨f,fd,F,hm,hb⟩:=T.h_f_check_count
 refine ⟨f,fd,F.ok1 sc_f_check_count (fun vs H Q E h=>?_) (fun cdv A outer s H vs Q E hr h=>?_),hm,F.kp,hb⟩
 ·obtain ⟨p,r,c,x,y,rfl,_⟩:=h
  rfl
 obtain ⟨p,r,c,x,y,rfl,hp,hR,b1,b2,b3,b4,n1,n2,b5,b6,q1,q2⟩:=h
 refine ⟨_,(@pss_one _ _ _ (ps_if (pt_val (pe_callD (d_f_is_less T) hr (pa_cons (pe_glob (by rfl) T.g_MOST_COUNTED (v:=.ref (cOf mg "MOST_COUNTED")) rfl) (pa_cons (pe_callD (d_f_counted T) hr (pa_cons (pv 0) (pa_cons (pv 1) pa_nil))) pa_nil))))
 (@pss_one _ _ _ (ps_raise out_cx rfl T.x_BadNumber T.g_BadNumber (pa_cons pe_str pa_nil)))
 pss_nil)),?_⟩
 refine ⟨_,rfl,_,rfl,p,r,c,x,y,rfl,hp,hR,b1,b2,b3,b4,n1,n2,fun n H' s n0 hn=>?_⟩
 have e:decide ((100000:Int) * (qadd c (qabs (x,y))).2<(qadd c (qabs (x,y))).1 * 1)=tooMuch c (x,y):=by unfold tooMuch;rw [Int.mul_one]
 refine ⟨_,n,100000,1,(qadd c (qabs (x,y))).1,(qadd c (qabs (x,y))).2,rfl,.inr T.t_MOST_COUNTED,.inl hn,bd1e5.mono (by decide),(bd20 (by decide) (by decide)).mono (by decide),b5,b6,_,rfl,?_⟩
 rw [e]
 refine ite2 (fun c=>?_) (fun c=>?_)
 ·exact ⟨by show 1≤sizeLine;decide,q2 c _ s⟩
 ·exact q1 (by simpa using c) _ s

def spTurnP (K:PySem.W.Frag) (mg:Str→Option Value):Sp:=fun vs H Q _=>∃ a p Fp ts t x y,vs=[.ref a,.ref t]∧PRep K mg Fp H a p∧Pc p ts∧FrA K H t (x,y)∧Bd 2000 x∧Bd 2000 y∧1≤y∧(p.closed=true→Bd 200 x∧Bd 200 y)∧∀ H',(∀ b o,H b=some o→b≠a→H' b=some o)→(∃ o,H' a=some o)→PRep K mg Fp H' a (p.turn (red x y))→Q .non H'
theorem d_m_Piece_turn (T:Txt K mg):MethOk P w K mg base (cOf mg "Piece") "turn" ["self","turns"] 5 (spTurnP K mg):=by
 obtain ⟨f,fd,F,hm,hb⟩:=T.hm_Piece_turn
 refine ⟨f,fd,F.ok1 sc_m_Piece_turn (fun vs H Q E h=>?_) (fun cdv A outer s H vs Q E hr h=>?_),hm,T.cl_Piece,hb⟩
 ·obtain ⟨a,p,Fp,ts,t,x,y,rfl,_⟩:=h
  rfl
 obtain ⟨a,p,Fp,ts,tt,x,y,rfl,⟨dx,t,rv,w,c,fv,tc,mc,cu,R⟩,P,hT,bx,bY,y1,bcl,q⟩:=h
 refine ⟨_,(@pss_cons _ _ _ _ _ (ps_fld (pv 0) (pe_callD (d_f_sum_of T) hr (pa_cons (pe_fld (pv 0) rfl) (pa_cons (pv 1) pa_nil))) rfl)
 (@pss_cons _ _ _ _ _ (ps_fld (pv 0) (pe_callD (d_f_counted T) hr (pa_cons (pe_fld (pv 0) rfl) (pa_cons (pv 1) pa_nil))) rfl)
 (@pss_one _ _ _ (ps_if (pt_val (pe_fld (pv 0) rfl))
 (@pss_one _ _ _ (ps_fld (pv 0) (pe_callD (d_f_sum_of T) hr (pa_cons (pe_fld (pv 0) rfl) (pa_cons (pe_callD (d_f_product T) hr (pa_cons (pe_fld (pv 0) rfl) (pa_cons (pv 1) pa_nil))) pa_nil))) rfl))
 pss_nil)))),?_⟩
 obtain ⟨rs,hrs,prs⟩:=R.cu
 have hca:cu≠a:=fun z=>by rw [z,R.ob] at hrs;cases hrs
 have wN:=P.workN
 have tN:=P.turnedN
 have pN:=P.placeN
 have y0:y≠0:=by omega
 have hra:=R.ra
 rw [P.ep] at hra
 obtain ⟨rr,rfl,hra⟩:=hra
 have L:=P.tr.pl
 refine ⟨_,rfl,_,_,_,_,_,rfl,R.ob,T.cl_Piece,T.na_Piece_work_turns,rfl,_,rfl,w,tt,p.work.1,p.work.2,x,y,rfl,R.wo,hT,wN.1.mono (by decide),wN.2.mono (by decide),bx,bY,P.w.ne,y0,fun n1 hn1=>?_⟩
 have s1:=same_new hn1 (.tup [.int (qadd p.work (x,y)).1,.int (qadd p.work (x,y)).2])
 have na:a≠n1:=ne_of_none R.ob hn1
 refine ⟨_,rfl,_,_,_,_,rfl,((upd_ne na).trans R.ob),T.cl_Piece,T.na_Piece_work_turns,Nat.le_of_ble_eq_true rfl,?_⟩
 have k2:=fun b o (e:H b=some o) (n:b≠a)=>(upd_ne (o:=.ins (cOf mg "Piece") dx (pcF t (.ref rr) n1 c p.closed fv tc mc cu)) n).trans (s1 b o e)
 have t2:Tups H _:=fun b xs e=>k2 b _ e fun z=>by rw [z,R.ob] at e;cases e
 refine ⟨_,rfl,_,_,_,_,_,rfl,upd_same,T.cl_Piece,T.na_Piece_turn_count,rfl,_,rfl,tc,tt,p.turned,x,y,rfl,R.tu.tups t2,hT.tups t2,tN.1.mono (by decide),tN.2.mono (by decide),bx,bY,P.t.ne,y0,fun n2 H3 s3 nn2 hn2=>?_⟩
 refine ⟨_,rfl,_,_,_,_,rfl,(s3 _ _ upd_same),T.cl_Piece,T.na_Piece_turn_count,Nat.le_of_ble_eq_true rfl,?_⟩
 have a3:=s3 _ _ (upd_same (a:=a) (o:=.ins (cOf mg "Piece") dx (pcF t (.ref rr) n1 c p.closed fv tc mc cu)))
 have k3:∀ b o,H b=some o→b≠a→upd H3 a (.ins (cOf mg "Piece") dx (pcF t (.ref rr) n1 c p.closed fv n2 mc cu)) b=some o:=fun b o e n=>(upd_ne n).trans (s3 _ _ (k2 b o e n))
 have t3:Tups H (upd H3 a (.ins (cOf mg "Piece") dx (pcF t (.ref rr) n1 c p.closed fv n2 mc cu))):=fun b xs e=>k3 b _ e fun z=>by rw [z,R.ob] at e;cases e
 have w3:upd H3 a (.ins (cOf mg "Piece") dx (pcF t (.ref rr) n1 c p.closed fv n2 mc cu)) n1=some (.tup [.int (qadd p.work (x,y)).1,.int (qadd p.work (x,y)).2]):=(upd_ne (Ne.symm na)).trans (s3 _ _ ((upd_ne (Ne.symm na)).trans upd_same))
 have m3:upd H3 a (.ins (cOf mg "Piece") dx (pcF t (.ref rr) n1 c p.closed fv n2 mc cu)) n2=_:=(upd_ne (fun z=>by rw [z,a3] at hn2;cases hn2)).trans hn2
 have ha:=red_ok (t:=x) y0
 have ro:=P.tr.rok
 have rr':=P.rr
 refine ⟨_,rfl,_,_,_,_,_,rfl,upd_same,T.cl_Piece,T.na_Piece_closed,rfl,_,rfl,?_⟩
 refine ite2 (fun cl=>?_) (fun cl=>?_)
 ·obtain ⟨bx2,bY2⟩:=bcl cl
  have bm1:Bd 2000 (qmul (ratio ts) (x,y)).1:=(((L.bp.mul bx2).mono (show _≤2000 by decide)).le (lt_is (t:=(ratio ts).1 * x) (Int.mul_ne_zero ro.ne y0)).nx)
  have bm2:Bd 2000 (qmul (ratio ts) (x,y)).2:=(((L.bq.mul bY2).mono (show _≤2000 by decide)).le (lt_is (t:=(ratio ts).1 * x) (Int.mul_ne_zero ro.ne y0)).ny)
  refine ⟨_,rfl,_,_,_,_,_,rfl,upd_same,T.cl_Piece,T.na_Piece_place,rfl,_,rfl,_,_,_,_,_,rfl,upd_same,T.cl_Piece,T.na_Piece_ratio,rfl,_,rfl,rr,tt,(ratio ts).1,(ratio ts).2,x,y,rfl,.inl (t3 _ _ hra),hT.tups t3,L.bp.mono (by decide),L.bq.mono (by decide),bx2.mono (by decide),bY2.mono (by decide),ro.ne,y0,fun n4 hn4=>?_⟩
  have s4:=same_new hn4 (.tup [.int (qmul (ratio ts) (x,y)).1,.int (qmul (ratio ts) (x,y)).2])
  refine ⟨c,n4,p.place.1,p.place.2,(qmul (ratio ts) (x,y)).1,(qmul (ratio ts) (x,y)).2,rfl,(R.pl.tups t3).mono s4,.inl upd_same,pN.1.mono (by decide),pN.2.mono (by decide),bm1,bm2,P.pl.ne,(qmul_ok (b:=(x,y)) ro.ne y0).ne,fun n5 hn5=>?_⟩
  have s5:=s4.trans (same_new hn5 (.tup [.int (qadd p.place (qmul (ratio ts) (x,y))).1,.int (qadd p.place (qmul (ratio ts) (x,y))).2]))
  refine ⟨_,rfl,_,_,_,_,rfl,(s5 _ _ upd_same),T.cl_Piece,T.na_Piece_place,Nat.le_of_ble_eq_true rfl,?_⟩
  have n1a:=Ne.symm na
  have n2a:n2≠a:=fun z=>by rw [z,a3] at hn2;cases hn2
  have n5a:n5≠a:=Ne.symm (ne_of_none (s4 _ _ upd_same) hn5)
  refine q _ (fun b o e n=>?_) ⟨_,upd_same⟩ (turn_rep R P y1 (fun b o e n=>?_) upd_same ((upd_ne n1a).trans (s5 _ _ w3)) ((upd_ne n2a).trans (s5 _ _ m3)) (fun _=>(upd_ne n5a).trans upd_same) (fun z=>by rw [cl] at z;cases z))
  ·exact (upd_ne n).trans (s5 _ _ (k3 b o e n))
  ·exact (upd_ne n).trans (s5 _ _ (k3 b o e n))
 ·exact q _ k3 ⟨_,upd_same⟩ (turn_rep R P y1 k3 upd_same w3 m3 (fun z=>absurd z cl) (fun _=>rfl))

def spGroove:Sp:=fun vs H Q _=>∃ (r:Addr) (t b c:Int),vs=[.ref r,.int c]∧H r=some (.tup [.int t,.int b])∧Rat2 t b∧Bd 400 c ∧
 ∀ (H':Hp),Same H H'→Q (.int (c * ltD t b % ltN t b)) H'
theorem d_f_groove_of (T:Txt K mg):DefOk P w K mg base "groove_of" ["ratio","closing"] 3 spGroove:=by
 obtain ⟨f,fd,F,hm,hb⟩:=T.h_f_groove_of
 refine ⟨f,fd,F.ok sc_f_groove_of (fun vs H Q E h=>?_) (fun cdv A outer s H vs Q E hr h=>?_),hm,F.kp,hb⟩
 ·obtain ⟨r,t,b,c,rfl,_⟩:=h
  rfl
 obtain ⟨r,t,b,c,rfl,hR,R,bc,q⟩:=h
 refine ⟨_,(@pss_cons _ _ _ _ _ (@ps_set _ _ 2 _ _ _ _ sc_f_groove_of.nd rfl (Or.inl rfl) (pe_callD (d_f_least_terms T) hr (pa_cons (@pe_ix _ _ _ _ _ _ _ ix_tup (pv 0) pe_int (fun _ _=>rfl)) (pa_cons (@pe_ix _ _ _ _ _ _ _ ix_tup (pv 0) pe_int (fun _ _=>rfl)) pa_nil))) (by rfl) (by first | exact .inl rfl | exact .inr rfl))
 (@pss_one _ _ _ (@ps_ret _ _ _ _ (pe_op op_mod (pe_op op_mulX (pv 1) (@pe_ix _ _ _ _ _ _ _ ix_tup (pv 2) pe_int (fun _ _=>rfl))) (@pe_ix _ _ _ _ _ _ _ ix_tup (pv 2) pe_int (fun _ _=>rfl)))))),?_⟩
 have L:=R.pl
 have p1:=L.p1
 have b1:=R.b1
 refine ⟨_,rfl,_,_,_,_,rfl,rfl,SqT.of (hR),rfl,_,rfl,_,_,_,_,rfl,rfl,SqT.of (hR),rfl,_,_,rfl,by omega,R.bb.mono (by decide),fun p hp=>?_⟩
 refine ⟨_,rfl,_,rfl,_,_,_,_,rfl,rfl,SqT.of (upd_same),rfl,_,_,rfl,rfl,.inr ⟨bc.mono (by decide),L.bq.mono (by decide)⟩,_,rfl,_,_,_,_,rfl,rfl,SqT.of (upd_same),rfl,_,_,rfl,rfl,by omega,?_⟩
 exact q _ (same_new hp _)

def spCutP (K:PySem.W.Frag) (mg:Str→Option Value):Sp:=fun vs H Q _=>∃ a p Fp ts t x y,vs=[.ref a,.ref t]∧PRep K mg Fp H a p∧Pc p ts∧FrA K H t (x,y)∧Bd 200 x∧Bd 200 y∧1≤y∧p.closed=true∧p.cuts.length<1000∧∀ H',(∀ b o,H b=some o→¬ Fp b→H' b=some o)→(∀ b,Fp b→∀ o,H b=some o→∃ o',H' b=some o')→PRep K mg Fp H' a (p.after (.cut (red x y)))→Q .non H'
theorem d_m_Piece_cut (T:Txt K mg):MethOk P w K mg base (cOf mg "Piece") "cut" ["self","turns"] 6 (spCutP K mg):=by
 obtain ⟨f,fd,F,hm,hb⟩:=T.hm_Piece_cut
 refine ⟨f,fd,F.ok1 sc_m_Piece_cut (fun vs H Q E h=>?_) (fun cdv A outer s H vs Q E hr h=>?_),hm,T.cl_Piece,hb⟩
 ·obtain ⟨a,p,Fp,ts,t,x,y,rfl,_⟩:=h
  rfl
 obtain ⟨a,p,Fp,ts,tt,x,y,rfl,R0,P,hT,bx,bY,y1,cl,c1000,q⟩:=h
 obtain ⟨dx,t,rv,w,c,fv,tc,mc,cu,R⟩:=id R0
 refine ⟨_,(@pss_cons _ _ _ _ _ (@ps_set _ _ 2 _ _ _ _ sc_m_Piece_cut.nd rfl (Or.inl rfl) (@pe_ix _ _ _ _ _ _ _ ix_tup (pe_methX0 (d_m_Piece_off T) hr (passOut out_cx) (pv 0)) pe_int (fun _ _=>rfl)) (by rfl) (by first | exact .inl rfl | exact .inr rfl))
 (@pss_cons _ _ _ _ _ (ps_expr (pe_bm PySem.F.plainAttrs_list PySem.F.slot_list_append PySem.F.type_list_append mt_append (pe_fld (pv 0) rfl) (pa_cons (@pe_tup _ _ _ _ _ (pa_cons (pv 2) (pa_cons (pe_callD (d_f_groove_of T) hr (pa_cons (pe_fld (pv 0) rfl) (pa_cons (pv 2) pa_nil))) pa_nil))) pa_nil)))
 (@pss_one _ _ _ (ps_expr (pe_methX (d_m_Piece_turn T) hr (passOut out_cx) (pv 0) (pa_cons (pv 1) pa_nil)))))),?_⟩
 obtain ⟨kk,hk⟩:=P.cl cl
 have ec:p.closing=kk:=by unfold PS.closing;rw [hk];rfl
 refine ⟨_,rfl,a,dx,_,rfl,R.ob,rfl,a,p,Fp,rfl,R0,.inr ⟨ts,P⟩,fun v H1 s1 hv=>?_⟩
 rw [hk] at hv
 obtain ⟨n,rfl,hn0,hn⟩:=hv
 obtain ⟨rs,hrs,prs⟩:=R.cu
 have hca:cu≠a:=fun z=>by rw [z,R.ob] at hrs;cases hrs
 have hra:=R.ra
 rw [P.ep] at hra
 obtain ⟨rr,rfl,hra⟩:=hra
 have Rt:Rat2 (ratio ts).1 (ratio ts).2:=⟨P.tr.pl.p1,P.tr.pl.p2,P.tr.pl.q1,P.tr.pl.q2⟩
 have eN:ltN (ratio ts).1 (ratio ts).2=(ratio ts).1:=congrArg Prod.fst (red_self P.tr.rok)
 have eD:ltD (ratio ts).1 (ratio ts).2=(ratio ts).2:=congrArg Prod.snd (red_self P.tr.rok)
 have bk:=P.closeBd hk
 refine ⟨_,_,_,_,rfl,rfl,SqT.of hn,rfl,?_⟩
 refine ⟨_,rfl,_,_,_,_,_,rfl,(s1 _ _ R.ob),T.cl_Piece,T.na_Piece_cuts,rfl,.inl ⟨rfl,_,SqL.of (s1 _ _ hrs)⟩,_,rfl,_,rfl,_,_,_,_,_,rfl,(s1 _ _ R.ob),T.cl_Piece,T.na_Piece_ratio,rfl,_,rfl,rr,(ratio ts).1,(ratio ts).2,kk,rfl,s1 _ _ hra,Rt,bk.mono (by decide),fun H2 s2=>?_⟩
 rw [eN,eD]
 have s12:=s1.trans s2
 refine ⟨(by show 2≤sizeLine;decide),fun m hm=>?_⟩
 have s3:=s12.trans (same_new hm (.tup [.int kk,.int (kk * (ratio ts).2 % (ratio ts).1)]))
 have mcu:m≠cu:=Ne.symm (ne_of_none (s12 _ _ hrs) hm)
 refine ⟨cu,_,_,rfl,rfl,s3 _ _ hrs,(by have h:=Paired.length prs;rw [List.length_map] at h;rw [List.length_map];exact small1000 (by omega)),?_⟩
 have R4:=cut_rep (m:=m) (e:=(kk,kk * (ratio ts).2 % (ratio ts).1)) R hrs prs s3 upd_same
 have P4:=P.more bk
 obtain ⟨dx4,t4,rv4,w4,c4,fv4,tc4,mc4,cu4,R4'⟩:=id R4
 have tu4:Tups H _:=fun b xs (e:H b=some (.tup xs))=>(upd_ne (o:=.lst (rs.map V.ref++[.ref m])) (fun z=>by rw [z,hrs] at e;cases e)).trans (s3 b _ e)
 refine ⟨_,rfl,a,dx4,_,rfl,R4'.ob,rfl,_,rfl,a,_,Fp,ts,tt,x,y,rfl,R4,P4,hT.tups tu4,bx.mono (by decide),bY.mono (by decide),y1,fun _=>⟨bx,bY⟩,fun H5 k5 ex5 R5=>?_⟩
 refine q H5 (fun b o e n=>k5 b o ((upd_ne (fun z:b=cu=>n (z ▸ R.fc))).trans (s3 b o e)) (fun z=>n (z ▸ R.fa))) (fun b f o e=>?_) ?_
 ·by_cases za:b=a
  ·rw [za];exact ex5
  ·by_cases zc:b=cu
   ·exact ⟨_,k5 b _ (by rw [zc];exact upd_same) za⟩
   ·exact ⟨o,k5 b o ((upd_ne zc).trans (s3 b o e)) za⟩
 ·have e:p.after (.cut (red x y))=PS.turn { p with cuts:=p.cuts++[(kk,kk * (ratio ts).2 % (ratio ts).1)] } (red x y):=by
   show { p.turn (red x y) with cuts:=p.cuts++[(p.closing,p.groove)] } = _
   unfold PS.groove
   rw [ec,P.rr]
   rfl
  rw [e];exact R5

theorem d_m_Lathe_cut (T:Txt K mg):MethOk P w K mg base (cOf mg "Lathe") "cut" ["self","turns"] 9 (spAmount K mg .cut):=by
 obtain ⟨f,fd,F,hm,hb⟩:=T.hm_Lathe_cut
 refine ⟨f,fd,F.ok1 sc_m_Lathe_cut (fun vs H Q E h=>?_) (fun cdv A outer s H vs Q E hr h=>?_),hm,T.cl_Lathe,hb⟩
 ·obtain ⟨a,t,x,y,l,F,rfl,_⟩:=h
  rfl
 obtain ⟨a,tt,x,y,l,F,rfl,R0,hT,bx,bY,D⟩:=h
 have R1:=R0
 obtain ⟨Fp,dx,s,pa,ra,rdx,ea,es,R⟩:=R1
 refine ⟨_,(@pss_cons _ _ _ _ _ (ps_expr (pe_callX (d_f_check_mounted T) hr (passOut out_cx) (pa_cons (pe_fld (pv 0) rfl) pa_nil)))
 (@pss_cons _ _ _ _ _ (ps_expr (pe_callX (d_f_check_nut_closed T) hr (passOut out_cx) (pa_cons (pe_fld (pv 0) rfl) pa_nil)))
 (@pss_cons _ _ _ _ _ (ps_expr (pe_callX (d_f_check_bottom T) hr (passOut out_cx) (pa_cons (pv 1) pa_nil)))
 (@pss_cons _ _ _ _ _ (ps_if (pt_cmp (pc_le (@pe_ix _ _ _ _ _ _ _ ix_tup (pv 1) pe_int (fun _ _=>rfl)) pe_int))
 (@pss_one _ _ _ (ps_raise out_cx rfl T.x_BadNumber T.g_BadNumber (pa_cons pe_str pa_nil)))
 pss_nil)
 (@pss_cons _ _ _ _ _ (ps_expr (pe_callX (d_f_check_count T) hr (passOut out_cx) (pa_cons (pe_fld (pe_fld (pv 0) rfl) rfl) (pa_cons (pv 1) pa_nil))))
 (@pss_cons _ _ _ _ _ (@ps_set _ _ 2 _ _ _ _ sc_m_Lathe_cut.nd rfl (Or.inl rfl) (pe_methX0 (d_m_Piece_twin T) hr (passOut out_cx) (pe_fld (pv 0) rfl)) (by rfl) (by first | exact .inl rfl | exact .inr rfl))
 (@pss_cons _ _ _ _ _ (ps_expr (pe_methX (d_m_Piece_cut T) hr (passOut out_cx) (pv 2) (pa_cons (pv 1) pa_nil)))
 (@pss_one _ _ _ (@ps_ret _ _ _ _ (pe_methX (d_m_Lathe_enter T) hr (passOut out_cx) (pv 0) (pa_cons pe_str (pa_cons (pe_callD (d_f_least_terms T) hr (pa_cons (@pe_ix _ _ _ _ _ _ _ ix_tup (pv 1) pe_int (fun _ _=>rfl)) (pa_cons (@pe_ix _ _ _ _ _ _ _ ix_tup (pv 1) pe_int (fun _ _=>rfl)) pa_nil))) (pa_cons (pv 2) pa_nil))))))))))))),?_⟩
 refine ⟨_,rfl,_,_,_,_,_,rfl,R.ob,T.cl_Lathe,T.na_Lathe_piece,rfl,pa,l.ps,Fp,rfl,R.pc,fun pi=>?_,fun pi=>D.no R0 (Same.refl _) (due2 rfl (by show l.ps.pitch.isSome=false;rw [pi];rfl))⟩
 have d2:(Req.cut x y).has l=true:=by show l.ps.pitch.isSome=true;exact Option.isSome_iff_ne_none.mpr pi
 refine ⟨_,rfl,_,_,_,_,_,rfl,R.ob,T.cl_Lathe,T.na_Lathe_piece,rfl,pa,l.ps,Fp,rfl,R.pc,fun cl=>?_,fun cl=>D.no R0 (Same.refl _) (due3 rfl d2 (by show (!l.ps.closed)=true;rw [cl];rfl))⟩
 obtain ⟨pdx,t,rv,w,c,fv,tc,mc,cu,Rp⟩:=R.pc
 rcases R.re.pco with e | ⟨ts,P⟩
 ·rw [e] at pi;exact absurd rfl pi
 refine ⟨_,rfl,tt,x,y,rfl,hT,fun ok=>?_,fun bad=>D.no R0 (Same.refl _) (due4 rfl d2 (by show (!l.ps.closed)=false;rw [cl];rfl) (cut_bottom bad))⟩
 have y0:y≠0:=by omega
 refine ⟨_,rfl,_,_,_,_,rfl,rfl,hT.sq,rfl,_,_,rfl,rfl,_,rfl,iteD (fun np=>⟨by show 1≤sizeLine;decide,D.no R0 (Same.refl _) (due4 rfl d2 (by show (!l.ps.closed)=false;rw [cl];rfl) (cut_low np))⟩) (fun xp=>?_)⟩
 have tN:=P.turnedN
 obtain ⟨cb1,cb2⟩:=count_bd (c:=l.ps.turned) tN.1 tN.2 bx bY P.t.ne y0
 refine ⟨_,rfl,_,_,_,_,_,rfl,R.ob,T.cl_Lathe,T.na_Lathe_piece,rfl,_,_,_,_,_,rfl,Rp.ob,T.cl_Piece,T.na_Piece_turn_count,rfl,_,rfl,tc,tt,l.ps.turned,x,y,rfl,Rp.tu,hT,tN.1.mono (by decide),tN.2.mono (by decide),bx.mono (by decide),bY.mono (by decide),P.t.ne,y0,cb1,cb2,fun few H1 s1=>?_,fun many H1 s1=>D.no R0 s1 (due4 rfl d2 (by show (!l.ps.closed)=false;rw [cl];rfl) (cut_many many))⟩
 have dd:=due6 (l:=l) (q:=.cut x y) rfl d2 (by show (!l.ps.closed)=false;rw [cl];rfl) (cut_none ok xp few) rfl
 refine ⟨_,rfl,_,_,_,_,_,rfl,(s1 _ _ R.ob),T.cl_Lathe,T.na_Lathe_piece,rfl,pa,pdx,_,rfl,s1 _ _ Rp.ob,rfl,pa,l.ps,Fp,rfl,R.pc.same s1,R.re.pco,fun b H2 Fq s2 nb nq aq Rb=>?_⟩
 obtain ⟨bdx,bt,brv,bw,bc,bfv,btc,bmc,bcu,Rb'⟩:=id Rb
 refine ⟨_,rfl,b,bdx,_,rfl,Rb'.ob,rfl,_,rfl,b,l.ps,Fq,ts,tt,x,y,rfl,Rb,P,hT.mono (s1.trans s2),bx,bY,ok.1,cl,(by have h1:=cuts_le l;have h2:=R.re.len;omega),fun H3 k3 ex3 R3=>?_⟩
 have s3:Same H H3:=fun z o e=>k3 z o ((s1.trans s2) z o e) fun f=>by have:=s1.free (nq z f);rw [e] at this;cases this
 have hT3:=(hT.mono s3).sq
 refine ⟨_,rfl,a,dx,_,rfl,s3 _ _ R.ob,rfl,_,rfl,_,_,_,_,rfl,rfl,hT3,rfl,_,rfl,_,_,_,_,rfl,rfl,hT3,rfl,x,y,rfl,y0,bY.mono (by decide),fun n4 hn4=>?_⟩
 have s4:=same_new hn4 (.tup [.int (red x y).1,.int (red x y).2])
 exact ⟨_,rfl,D.enter R0 (s3.trans s4) (fun z f=>s1.free (nq z f)) (fun z f=>by obtain ⟨o,h⟩:=(fun z f=>by obtain ⟨o,h⟩:=aq z f;exact ex3 z f o h:∀ z,Fq z→∃ o,H3 z=some o) z f;exact ⟨o,s4 _ _ h⟩) dd ⟨n4,rfl,.inl upd_same⟩ (R3.same s4)⟩

def spOpenP (K:PySem.W.Frag) (mg:Str→Option Value):Sp:=fun vs H Q _=>∃ a p Fp,vs=[.ref a]∧PRep K mg Fp H a p∧∀ H',(∀ b o,H b=some o→b≠a→H' b=some o)→(∃ o,H' a=some o)→PRep K mg Fp H' a (p.after .opn)→Q .non H'
theorem d_m_Piece_open_nut (T:Txt K mg):MethOk P w K mg base (cOf mg "Piece") "open_nut" ["self"] 1 (spOpenP K mg):=by
 obtain ⟨f,fd,F,hm,hb⟩:=T.hm_Piece_open_nut
 refine ⟨f,fd,F.ok1 sc_m_Piece_open_nut (fun vs H Q E h=>?_) (fun cdv A outer s H vs Q E hr h=>?_),hm,T.cl_Piece,hb⟩
 ·obtain ⟨a,p,Fp,rfl,_⟩:=h
  rfl
 obtain ⟨a,p,Fp,rfl,⟨dx,t,rv,w,c,fv,tc,mc,cu,R⟩,q⟩:=h
 refine ⟨_,(@pss_one _ _ _ (ps_fld (pv 0) pe_bl rfl)),?_⟩
 refine ⟨_,rfl,_,_,_,_,rfl,R.ob,T.cl_Piece,T.na_Piece_closed,Nat.le_of_ble_eq_true rfl,?_⟩
 have k:∀ b o,H b=some o→b≠a→upd H a (.ins (cOf mg "Piece") dx (pcF t rv w c false fv tc mc cu)) b=some o:=fun b o e n=>(upd_ne n).trans e
 have tu:Tups H (upd H a (.ins (cOf mg "Piece") dx (pcF t rv w c false fv tc mc cu))):=fun b xs e=>k b _ e fun z=>by rw [z,R.ob] at e;cases e
 obtain ⟨rs,hrs,prs⟩:=R.cu
 have hca:cu≠a:=fun z=>by rw [z,R.ob] at hrs;cases hrs
 refine q _ k ⟨_,upd_same⟩ ⟨dx,t,rv,w,c,fv,tc,mc,cu,upd_same,R.fa,R.fc,R.tr.tups tu,R.ra.tups tu,R.wo.tups tu,R.pl.tups tu,(R.fi.tups tu).like rfl rfl rfl rfl,R.tu.tups tu,R.mo.tups tu,⟨rs,k _ _ hrs hca,pair_tups tu prs⟩⟩

theorem d_m_Lathe_open_nut (T:Txt K mg):MethOk P w K mg base (cOf mg "Lathe") "open_nut" ["self"] 9 (spDeed0 K mg .opn):=by
 obtain ⟨f,fd,F,hm,hb⟩:=T.hm_Lathe_open_nut
 refine ⟨f,fd,F.ok1 sc_m_Lathe_open_nut (fun vs H Q E h=>?_) (fun cdv A outer s H vs Q E hr h=>?_),hm,T.cl_Lathe,hb⟩
 ·obtain ⟨a,l,F,rfl,_⟩:=h
  rfl
 obtain ⟨a,l,F,rfl,R0,D⟩:=h
 have R1:=R0
 obtain ⟨Fp,dx,s,pa,ra,rdx,ea,es,R⟩:=R1
 refine ⟨_,(@pss_cons _ _ _ _ _ (ps_expr (pe_callX (d_f_check_mounted T) hr (passOut out_cx) (pa_cons (pe_fld (pv 0) rfl) pa_nil)))
 (@pss_cons _ _ _ _ _ (ps_expr (pe_callX (d_f_check_nut_closed T) hr (passOut out_cx) (pa_cons (pe_fld (pv 0) rfl) pa_nil)))
 (@pss_cons _ _ _ _ _ (@ps_set _ _ 1 _ _ _ _ sc_m_Lathe_open_nut.nd rfl (Or.inl rfl) (pe_methX0 (d_m_Piece_twin T) hr (passOut out_cx) (pe_fld (pv 0) rfl)) (by rfl) (by first | exact .inl rfl | exact .inr rfl))
 (@pss_cons _ _ _ _ _ (ps_expr (pe_methX0 (d_m_Piece_open_nut T) hr (passOut out_cx) (pv 1)))
 (@pss_one _ _ _ (@ps_ret _ _ _ _ (pe_methX (d_m_Lathe_enter T) hr (passOut out_cx) (pv 0) (pa_cons pe_str (pa_cons pe_non (pa_cons (pv 1) pa_nil)))))))))),?_⟩
 refine ⟨_,rfl,_,_,_,_,_,rfl,R.ob,T.cl_Lathe,T.na_Lathe_piece,rfl,pa,l.ps,Fp,rfl,R.pc,fun pi=>?_,fun pi=>D.no R0 (Same.refl _) (due2 rfl (by show l.ps.pitch.isSome=false;rw [pi];rfl))⟩
 have d2:Req.opn.has l=true:=by show l.ps.pitch.isSome=true;exact Option.isSome_iff_ne_none.mpr pi
 refine ⟨_,rfl,_,_,_,_,_,rfl,R.ob,T.cl_Lathe,T.na_Lathe_piece,rfl,pa,l.ps,Fp,rfl,R.pc,fun cl=>?_,fun cl=>D.no R0 (Same.refl _) (due3 rfl d2 (by show (!l.ps.closed)=true;rw [cl];rfl))⟩
 obtain ⟨pdx,t,rv,w,c,fv,tc,mc,cu,Rp⟩:=R.pc
 have dd:=due6 (l:=l) (q:=.opn) rfl d2 (by show (!l.ps.closed)=false;rw [cl];rfl) rfl rfl
 refine ⟨_,rfl,_,_,_,_,_,rfl,R.ob,T.cl_Lathe,T.na_Lathe_piece,rfl,pa,pdx,_,rfl,Rp.ob,rfl,pa,l.ps,Fp,rfl,R.pc,R.re.pco,fun b H2 Fq s2 nb nq aq Rb=>?_⟩
 obtain ⟨bdx,bt,brv,bw,bc,bfv,btc,bmc,bcu,Rb'⟩:=id Rb
 refine ⟨_,rfl,b,bdx,_,rfl,Rb'.ob,rfl,b,l.ps,Fq,rfl,Rb,fun H3 k3 ex3 R3=>?_⟩
 have s3:=keep1 s2 nb k3
 exact ⟨_,rfl,a,dx,_,rfl,s3 _ _ R.ob,rfl,_,rfl,D.enter R0 s3 nq (aq1 aq k3 ex3) dd rfl R3⟩

def spMoveP (K:PySem.W.Frag) (mg:Str→Option Value):Sp:=fun vs H Q _=>∃ a p Fp ts t x y,vs=[.ref a,.ref t]∧PRep K mg Fp H a p∧Pc p ts∧FrA K H t (x,y)∧Bd 200 x∧Bd 200 y∧1≤y∧∀ H',(∀ b o,H b=some o→b≠a→H' b=some o)→(∃ o,H' a=some o)→PRep K mg Fp H' a (p.after (.move (red x y)))→Q .non H'
theorem d_m_Piece_move (T:Txt K mg):MethOk P w K mg base (cOf mg "Piece") "move" ["self","way"] 5 (spMoveP K mg):=by
 obtain ⟨f,fd,F,hm,hb⟩:=T.hm_Piece_move
 refine ⟨f,fd,F.ok1 sc_m_Piece_move (fun vs H Q E h=>?_) (fun cdv A outer s H vs Q E hr h=>?_),hm,T.cl_Piece,hb⟩
 ·obtain ⟨a,p,Fp,ts,t,x,y,rfl,_⟩:=h
  rfl
 obtain ⟨a,p,Fp,ts,tt,x,y,rfl,⟨dx,t,rv,w,c,fv,tc,mc,cu,R⟩,P,hT,bx,bY,y1,q⟩:=h
 refine ⟨_,(@pss_cons _ _ _ _ _ (ps_fld (pv 0) (pe_callD (d_f_sum_of T) hr (pa_cons (pe_fld (pv 0) rfl) (pa_cons (pv 1) pa_nil))) rfl)
 (@pss_one _ _ _ (ps_fld (pv 0) (pe_callD (d_f_counted T) hr (pa_cons (pe_fld (pv 0) rfl) (pa_cons (pv 1) pa_nil))) rfl))),?_⟩
 obtain ⟨rs,hrs,prs⟩:=R.cu
 have hca:cu≠a:=fun z=>by rw [z,R.ob] at hrs;cases hrs
 have pN:=P.placeN
 have mN:=P.movedN
 have y0:y≠0:=by omega
 refine ⟨_,rfl,_,_,_,_,_,rfl,R.ob,T.cl_Piece,T.na_Piece_place,rfl,_,rfl,c,tt,p.place.1,p.place.2,x,y,rfl,R.pl,hT,pN.1.mono (by decide),pN.2.mono (by decide),bx.mono (by decide),bY.mono (by decide),P.pl.ne,y0,fun n1 hn1=>?_⟩
 have s1:=same_new hn1 (.tup [.int (qadd p.place (x,y)).1,.int (qadd p.place (x,y)).2])
 have na:a≠n1:=ne_of_none R.ob hn1
 refine ⟨_,rfl,_,_,_,_,rfl,((upd_ne na).trans R.ob),T.cl_Piece,T.na_Piece_place,Nat.le_of_ble_eq_true rfl,?_⟩
 have k2:=fun b o (e:H b=some o) (n:b≠a)=>(upd_ne (o:=.ins (cOf mg "Piece") dx (pcF t rv w n1 p.closed fv tc mc cu)) n).trans (s1 b o e)
 have t2:Tups H _:=fun b xs e=>k2 b _ e fun z=>by rw [z,R.ob] at e;cases e
 refine ⟨_,rfl,_,_,_,_,_,rfl,upd_same,T.cl_Piece,T.na_Piece_move_count,rfl,_,rfl,mc,tt,p.moved,x,y,rfl,R.mo.tups t2,hT.tups t2,mN.1.mono (by decide),mN.2.mono (by decide),bx.mono (by decide),bY.mono (by decide),P.m.ne,y0,fun n2 H3 s3 nn2 hn2=>?_⟩
 refine ⟨_,rfl,_,_,_,_,rfl,(s3 _ _ upd_same),T.cl_Piece,T.na_Piece_move_count,Nat.le_of_ble_eq_true rfl,?_⟩
 have a3:=s3 _ _ (upd_same (a:=a) (o:=.ins (cOf mg "Piece") dx (pcF t rv w n1 p.closed fv tc mc cu)))
 have k3:∀ b o,H b=some o→b≠a→upd H3 a (.ins (cOf mg "Piece") dx (pcF t rv w n1 p.closed fv tc n2 cu)) b=some o:=fun b o e n=>(upd_ne n).trans (s3 _ _ (k2 b o e n))
 have t3:Tups H (upd H3 a (.ins (cOf mg "Piece") dx (pcF t rv w n1 p.closed fv tc n2 cu))):=fun b xs e=>k3 b _ e fun z=>by rw [z,R.ob] at e;cases e
 have p3:upd H3 a (.ins (cOf mg "Piece") dx (pcF t rv w n1 p.closed fv tc n2 cu)) n1=some (.tup [.int (qadd p.place (x,y)).1,.int (qadd p.place (x,y)).2]):=(upd_ne (Ne.symm na)).trans (s3 _ _ ((upd_ne (Ne.symm na)).trans upd_same))
 have m3:upd H3 a (.ins (cOf mg "Piece") dx (pcF t rv w n1 p.closed fv tc n2 cu)) n2=_:=(upd_ne (fun z=>by rw [z,a3] at hn2;cases hn2)).trans hn2
 rw [qadd_red P.pl.ne y0] at p3
 rw [qadd_abs P.m.ne (by omega)] at m3
 refine q _ k3 ⟨_,upd_same⟩ ⟨dx,t,rv,w,n1,fv,tc,n2,cu,upd_same,R.fa,R.fc,R.tr.tups t3,R.ra.tups t3,R.wo.tups t3,.inl p3,?_,R.tu.tups t3,.inl m3,⟨rs,k3 _ _ hrs hca,pair_tups t3 prs⟩⟩
 have ha:=red_ok (t:=x) y0
 rcases R.fi with ⟨ho,rfl⟩ | ⟨o,f1,c1,w1,u,v,ho,rfl,hf,hc,hw,Fo,he⟩
 ·exact .inl ⟨by show p.off.map _=none;rw [ho];rfl,rfl⟩
 ·refine .inr ⟨qadd o (red x y),f1,c1,w1,u,v,by show p.off.map _=_;rw [ho];rfl,rfl,t3 _ _ hf,hc.tups t3,hw.tups t3,⟨Fo.ox,Fo.oy,Fo.wx,Fo.wy,Fo.bx,Fo.bY⟩,?_⟩
  show qv (qadd o (red x y))=qv (qadd p.place (red x y)) - qv u - qv (ratio p.train) * (qv p.work - qv v)
  rw [qv_add (P.o o ho).ne ha.ne,qv_add P.pl.ne ha.ne,he]
  grind

theorem d_m_Lathe_move (T:Txt K mg):MethOk P w K mg base (cOf mg "Lathe") "move" ["self","way"] 9 (spAmount K mg .move):=by
 obtain ⟨f,fd,F,hm,hb⟩:=T.hm_Lathe_move
 refine ⟨f,fd,F.ok1 sc_m_Lathe_move (fun vs H Q E h=>?_) (fun cdv A outer s H vs Q E hr h=>?_),hm,T.cl_Lathe,hb⟩
 ·obtain ⟨a,t,x,y,l,F,rfl,_⟩:=h
  rfl
 obtain ⟨a,tt,x,y,l,F,rfl,R0,hT,bx,bY,D⟩:=h
 have R1:=R0
 obtain ⟨Fp,dx,s,pa,ra,rdx,ea,es,R⟩:=R1
 refine ⟨_,(@pss_cons _ _ _ _ _ (ps_expr (pe_callX (d_f_check_mounted T) hr (passOut out_cx) (pa_cons (pe_fld (pv 0) rfl) pa_nil)))
 (@pss_cons _ _ _ _ _ (ps_expr (pe_callX (d_f_check_nut_open T) hr (passOut out_cx) (pa_cons (pe_fld (pv 0) rfl) pa_nil)))
 (@pss_cons _ _ _ _ _ (ps_expr (pe_callX (d_f_check_bottom T) hr (passOut out_cx) (pa_cons (pv 1) pa_nil)))
 (@pss_cons _ _ _ _ _ (ps_expr (pe_callX (d_f_check_count T) hr (passOut out_cx) (pa_cons (pe_fld (pe_fld (pv 0) rfl) rfl) (pa_cons (pv 1) pa_nil))))
 (@pss_cons _ _ _ _ _ (@ps_set _ _ 2 _ _ _ _ sc_m_Lathe_move.nd rfl (Or.inl rfl) (pe_methX0 (d_m_Piece_twin T) hr (passOut out_cx) (pe_fld (pv 0) rfl)) (by rfl) (by first | exact .inl rfl | exact .inr rfl))
 (@pss_cons _ _ _ _ _ (ps_expr (pe_methX (d_m_Piece_move T) hr (passOut out_cx) (pv 2) (pa_cons (pv 1) pa_nil)))
 (@pss_one _ _ _ (@ps_ret _ _ _ _ (pe_methX (d_m_Lathe_enter T) hr (passOut out_cx) (pv 0) (pa_cons pe_str (pa_cons (pe_callD (d_f_least_terms T) hr (pa_cons (@pe_ix _ _ _ _ _ _ _ ix_tup (pv 1) pe_int (fun _ _=>rfl)) (pa_cons (@pe_ix _ _ _ _ _ _ _ ix_tup (pv 1) pe_int (fun _ _=>rfl)) pa_nil))) (pa_cons (pv 2) pa_nil)))))))))))),?_⟩
 refine ⟨_,rfl,_,_,_,_,_,rfl,R.ob,T.cl_Lathe,T.na_Lathe_piece,rfl,pa,l.ps,Fp,rfl,R.pc,fun pi=>?_,fun pi=>D.no R0 (Same.refl _) (due2 rfl (by show l.ps.pitch.isSome=false;rw [pi];rfl))⟩
 have d2:(Req.move x y).has l=true:=by show l.ps.pitch.isSome=true;exact Option.isSome_iff_ne_none.mpr pi
 refine ⟨_,rfl,_,_,_,_,_,rfl,R.ob,T.cl_Lathe,T.na_Lathe_piece,rfl,pa,l.ps,Fp,rfl,R.pc,fun cl=>?_,fun cl=>D.no R0 (Same.refl _) (due3 rfl d2 cl)⟩
 obtain ⟨pdx,t,rv,w,c,fv,tc,mc,cu,Rp⟩:=R.pc
 rcases R.re.pco with e | ⟨ts,P⟩
 ·rw [e] at pi;exact absurd rfl pi
 refine ⟨_,rfl,tt,x,y,rfl,hT,fun ok=>?_,fun bad=>D.no R0 (Same.refl _) (due4 rfl d2 cl (bad_bottom2 bad))⟩
 have y0:y≠0:=by omega
 have mN:=P.movedN
 obtain ⟨cb1,cb2⟩:=count_bd (c:=l.ps.moved) mN.1 mN.2 bx bY P.m.ne y0
 refine ⟨_,rfl,_,_,_,_,_,rfl,R.ob,T.cl_Lathe,T.na_Lathe_piece,rfl,_,_,_,_,_,rfl,Rp.ob,T.cl_Piece,T.na_Piece_move_count,rfl,_,rfl,mc,tt,l.ps.moved,x,y,rfl,Rp.mo,hT,mN.1.mono (by decide),mN.2.mono (by decide),bx.mono (by decide),bY.mono (by decide),P.m.ne,y0,cb1,cb2,fun few H1 s1=>?_,fun many H1 s1=>D.no R0 s1 (due4 rfl d2 cl (bad_many many))⟩
 have dd:=due6 (l:=l) (q:=.move x y) rfl d2 cl (bad_none ok few) rfl
 refine ⟨_,rfl,_,_,_,_,_,rfl,(s1 _ _ R.ob),T.cl_Lathe,T.na_Lathe_piece,rfl,pa,pdx,_,rfl,s1 _ _ Rp.ob,rfl,pa,l.ps,Fp,rfl,R.pc.same s1,R.re.pco,fun b H2 Fq s2 nb nq aq Rb=>?_⟩
 obtain ⟨bdx,bt,brv,bw,bc,bfv,btc,bmc,bcu,Rb'⟩:=id Rb
 refine ⟨_,rfl,b,bdx,_,rfl,Rb'.ob,rfl,_,rfl,b,l.ps,Fq,ts,tt,x,y,rfl,Rb,P,hT.mono (s1.trans s2),bx,bY,ok.1,fun H3 k3 ex3 R3=>?_⟩
 have s3:=keep1 (s1.trans s2) (s1.free nb) k3
 have hT3:=(hT.mono s3).sq
 refine ⟨_,rfl,a,dx,_,rfl,s3 _ _ R.ob,rfl,_,rfl,_,_,_,_,rfl,rfl,hT3,rfl,_,rfl,_,_,_,_,rfl,rfl,hT3,rfl,x,y,rfl,y0,bY.mono (by decide),fun n4 hn4=>?_⟩
 have s4:=same_new hn4 (.tup [.int (red x y).1,.int (red x y).2])
 exact ⟨_,rfl,D.enter R0 (s3.trans s4) (fun z f=>s1.free (nq z f)) (fun z f=>by obtain ⟨o,h⟩:=aq1 aq k3 ex3 z f;exact ⟨o,s4 _ _ h⟩) dd ⟨n4,rfl,.inl upd_same⟩ (R3.same s4)⟩

theorem d_m_Lathe_turn (T:Txt K mg):MethOk P w K mg base (cOf mg "Lathe") "turn" ["self","turns"] 9 (spAmount K mg .turn):=by
 obtain ⟨f,fd,F,hm,hb⟩:=T.hm_Lathe_turn
 refine ⟨f,fd,F.ok1 sc_m_Lathe_turn (fun vs H Q E h=>?_) (fun cdv A outer s H vs Q E hr h=>?_),hm,T.cl_Lathe,hb⟩
 ·obtain ⟨a,t,x,y,l,F,rfl,_⟩:=h
  rfl
 obtain ⟨a,tt,x,y,l,F,rfl,R0,hT,bx,bY,D⟩:=h
 have R1:=R0
 obtain ⟨Fp,dx,s,pa,ra,rdx,ea,es,R⟩:=R1
 refine ⟨_,(@pss_cons _ _ _ _ _ (ps_expr (pe_callX (d_f_check_mounted T) hr (passOut out_cx) (pa_cons (pe_fld (pv 0) rfl) pa_nil)))
 (@pss_cons _ _ _ _ _ (ps_expr (pe_callX (d_f_check_bottom T) hr (passOut out_cx) (pa_cons (pv 1) pa_nil)))
 (@pss_cons _ _ _ _ _ (ps_expr (pe_callX (d_f_check_count T) hr (passOut out_cx) (pa_cons (pe_fld (pe_fld (pv 0) rfl) rfl) (pa_cons (pv 1) pa_nil))))
 (@pss_cons _ _ _ _ _ (@ps_set _ _ 2 _ _ _ _ sc_m_Lathe_turn.nd rfl (Or.inl rfl) (pe_methX0 (d_m_Piece_twin T) hr (passOut out_cx) (pe_fld (pv 0) rfl)) (by rfl) (by first | exact .inl rfl | exact .inr rfl))
 (@pss_cons _ _ _ _ _ (ps_expr (pe_methX (d_m_Piece_turn T) hr (passOut out_cx) (pv 2) (pa_cons (pv 1) pa_nil)))
 (@pss_one _ _ _ (@ps_ret _ _ _ _ (pe_methX (d_m_Lathe_enter T) hr (passOut out_cx) (pv 0) (pa_cons pe_str (pa_cons (pe_callD (d_f_least_terms T) hr (pa_cons (@pe_ix _ _ _ _ _ _ _ ix_tup (pv 1) pe_int (fun _ _=>rfl)) (pa_cons (@pe_ix _ _ _ _ _ _ _ ix_tup (pv 1) pe_int (fun _ _=>rfl)) pa_nil))) (pa_cons (pv 2) pa_nil))))))))))),?_⟩
 refine ⟨_,rfl,_,_,_,_,_,rfl,R.ob,T.cl_Lathe,T.na_Lathe_piece,rfl,pa,l.ps,Fp,rfl,R.pc,fun pi=>?_,fun pi=>D.no R0 (Same.refl _) (due2 rfl (by show l.ps.pitch.isSome=false;rw [pi];rfl))⟩
 have d2:(Req.turn x y).has l=true:=by show l.ps.pitch.isSome=true;exact Option.isSome_iff_ne_none.mpr pi
 obtain ⟨pdx,t,rv,w,c,fv,tc,mc,cu,Rp⟩:=R.pc
 rcases R.re.pco with e | ⟨ts,P⟩
 ·rw [e] at pi;exact absurd rfl pi
 refine ⟨_,rfl,tt,x,y,rfl,hT,fun ok=>?_,fun bad=>D.no R0 (Same.refl _) (due4 rfl d2 rfl (bad_bottom bad))⟩
 have y0:y≠0:=by omega
 have tN:=P.turnedN
 obtain ⟨cb1,cb2⟩:=count_bd (c:=l.ps.turned) tN.1 tN.2 bx bY P.t.ne y0
 refine ⟨_,rfl,_,_,_,_,_,rfl,R.ob,T.cl_Lathe,T.na_Lathe_piece,rfl,_,_,_,_,_,rfl,Rp.ob,T.cl_Piece,T.na_Piece_turn_count,rfl,_,rfl,tc,tt,l.ps.turned,x,y,rfl,Rp.tu,hT,tN.1.mono (by decide),tN.2.mono (by decide),bx.mono (by decide),bY.mono (by decide),P.t.ne,y0,cb1,cb2,fun few H1 s1=>?_,fun many H1 s1=>D.no R0 s1 (due4 rfl d2 rfl (bad_many many))⟩
 have dd:=due6 (l:=l) (q:=.turn x y) rfl d2 rfl (bad_none ok few) rfl
 refine ⟨_,rfl,_,_,_,_,_,rfl,(s1 _ _ R.ob),T.cl_Lathe,T.na_Lathe_piece,rfl,pa,pdx,_,rfl,s1 _ _ Rp.ob,rfl,pa,l.ps,Fp,rfl,R.pc.same s1,R.re.pco,fun b H2 Fq s2 nb nq aq Rb=>?_⟩
 obtain ⟨bdx,bt,brv,bw,bc,bfv,btc,bmc,bcu,Rb'⟩:=id Rb
 refine ⟨_,rfl,b,bdx,_,rfl,Rb'.ob,rfl,_,rfl,b,l.ps,Fq,ts,tt,x,y,rfl,Rb,P,hT.mono (s1.trans s2),bx.mono (by decide),bY.mono (by decide),ok.1,fun _=>⟨bx,bY⟩,fun H3 k3 ex3 R3=>?_⟩
 have s3:=keep1 (s1.trans s2) (s1.free nb) k3
 have hT3:=(hT.mono s3).sq
 refine ⟨_,rfl,a,dx,_,rfl,s3 _ _ R.ob,rfl,_,rfl,_,_,_,_,rfl,rfl,hT3,rfl,_,rfl,_,_,_,_,rfl,rfl,hT3,rfl,x,y,rfl,y0,bY.mono (by decide),fun n4 hn4=>?_⟩
 have s4:=same_new hn4 (.tup [.int (red x y).1,.int (red x y).2])
 exact ⟨_,rfl,D.enter R0 (s3.trans s4) (fun z f=>s1.free (nq z f)) (fun z f=>by obtain ⟨o,h⟩:=aq1 aq k3 ex3 z f;exact ⟨o,s4 _ _ h⟩) dd ⟨n4,rfl,.inl upd_same⟩ (R3.same s4)⟩

def sp_quotient:Sp:=fun vs H Q _=>∃ (p r:Addr) (a b c d:Int),vs=[.ref p,.ref r]∧H p=some (.tup [.int a,.int b])∧H r=some (.tup [.int c,.int d])∧Bd 2000 a∧Bd 2000 b∧Bd 2000 c∧Bd 2000 d∧b≠0∧c≠0 ∧
 ∀ n,H n=none→Q (.ref n) (upd H n (.tup [.int (ltN (a * d) (b * c)),.int (ltD (a * d) (b * c))]))
theorem d_f_quotient (T:Txt K mg):DefOk P w K mg base "quotient" ["a","b"] 3 sp_quotient:=by
 obtain ⟨f,fd,F,hm,hb⟩:=T.h_f_quotient
 refine ⟨f,fd,F.ok sc_f_quotient (fun vs H Q E h=>?_) (fun cdv A outer s H vs Q E hr h=>?_),hm,F.kp,hb⟩
 ·obtain ⟨p,r,a,b,c,d,rfl,_⟩:=h
  rfl
 obtain ⟨p,r,a,b,c,d,rfl,hp,hr',ba,bb,bc,bd,b0,c0,q⟩:=h
 refine ⟨_,(@pss_one _ _ _ (@ps_ret _ _ _ _ (pe_callD (d_f_least_terms T) hr (pa_cons (pe_op op_mulX (@pe_ix _ _ _ _ _ _ _ ix_tup (pv 0) pe_int (fun _ _=>rfl)) (@pe_ix _ _ _ _ _ _ _ ix_tup (pv 1) pe_int (fun _ _=>rfl))) (pa_cons (pe_op op_mulX (@pe_ix _ _ _ _ _ _ _ ix_tup (pv 0) pe_int (fun _ _=>rfl)) (@pe_ix _ _ _ _ _ _ _ ix_tup (pv 1) pe_int (fun _ _=>rfl))) pa_nil))))),?_⟩
 exact ⟨_,rfl,_,_,_,_,rfl,rfl,SqT.of (hp),rfl,_,rfl,_,_,_,_,rfl,rfl,SqT.of (hr'),rfl,_,_,rfl,rfl,.inr ⟨ba.mono (by decide),bd.mono (by decide)⟩,_,rfl,_,_,_,_,rfl,rfl,SqT.of (hp),rfl,_,rfl,_,_,_,_,rfl,rfl,SqT.of (hr'),rfl,_,_,rfl,rfl,.inr ⟨bb.mono (by decide),bc.mono (by decide)⟩,_,_,rfl,Int.mul_ne_zero b0 c0,(bb.mul bc).mono (by decide),q⟩

def spSO:Sp:=fun vs H Q _=>∃ (r o:Addr) (t b x y u v:Int),vs=[.ref r,.ref o,.int u,.int v]∧H r=some (.tup [.int t,.int b])∧H o=some (.tup [.int x,.int y])∧Rat2 t b∧Bd 1700 x∧Bd 1700 y∧0<y∧Bd 64 u∧Bd 64 v∧1≤v∧Bd 64 (u + (x - u * y) / (v * y) * v) ∧
 ∀ (k X Y:Int) (m f:Addr) (H':Hp),Same H H'→k=u + (x - u * y) / (v * y) * v→k * y≤x→x<(k + v) * y→Bd 64 k →
  1≤Y→Int.gcd X Y=1→X * (y * t)=(x - k * y) * b * Y→Bd 2000 X→Bd 2000 Y→H' m=some (.tup [.ref f,.int k])→H' f=some (.tup [.int X,.int Y])→Q (.ref m) H'
theorem d_f_soonest_of (T:Txt K mg):DefOk P w K mg base "soonest_of" ["ratio","off","start","step"] 4 spSO:=by
 obtain ⟨f,fd,F,hm,hb⟩:=T.h_f_soonest_of
 refine ⟨f,fd,F.ok sc_f_soonest_of (fun vs H Q E h=>?_) (fun cdv A outer s H vs Q E hr h=>?_),hm,F.kp,hb⟩
 ·obtain ⟨r,o,t,b,x,y,u,v,rfl,_⟩:=h
  rfl
 obtain ⟨r,o,t,b,x,y,u,v,rfl,hR,hO,R,bx,bY,y0,bu,bv,v1,bk,q⟩:=h
 refine ⟨_,(@pss_cons _ _ _ _ _ (@ps_set _ _ 4 _ _ _ _ sc_f_soonest_of.nd rfl (Or.inl rfl) (pe_op op_fdivP (pe_op op_sub (@pe_ix _ _ _ _ _ _ _ ix_tup (pv 1) pe_int (fun _ _=>rfl)) (pe_op op_mulX (pv 2) (@pe_ix _ _ _ _ _ _ _ ix_tup (pv 1) pe_int (fun _ _=>rfl)))) (pe_op op_mulX (pv 3) (@pe_ix _ _ _ _ _ _ _ ix_tup (pv 1) pe_int (fun _ _=>rfl)))) (by rfl) (by first | exact .inl rfl | exact .inr rfl))
 (@pss_cons _ _ _ _ _ (@ps_set _ _ 5 _ _ _ _ sc_f_soonest_of.nd rfl (Or.inl rfl) (pe_op op_add (pv 2) (pe_op op_mulX (pv 4) (pv 3))) (by rfl) (by first | exact .inl rfl | exact .inr rfl))
 (@pss_one _ _ _ (@ps_ret _ _ _ _ (@pe_tup _ _ _ _ _ (pa_cons (pe_callD (d_f_quotient T) hr (pa_cons (pe_callD (d_f_difference T) hr (pa_cons (pv 1) (pa_cons (@pe_tup _ _ _ _ _ (pa_cons (pv 5) (pa_cons pe_int pa_nil))) pa_nil))) (pa_cons (pv 0) pa_nil))) (pa_cons (pv 5) pa_nil))))))),?_⟩
 have t1:=R.t1
 have b1:=R.b1
 have vy:0<v * y:=Int.mul_pos (by omega) y0
 have bz:=(bx.sub (bu.mul bY)).mono (show _≤1800 by decide)
 have bq:=bd_div bz vy
 refine ⟨_,rfl,_,_,_,_,rfl,rfl,SqT.of (hO),rfl,_,rfl,_,rfl,_,_,_,_,rfl,rfl,SqT.of (hO),rfl,_,_,rfl,rfl,.inr ⟨bu.mono (by decide),bY.mono (by decide)⟩,_,_,rfl,rfl,_,rfl,_,rfl,_,_,_,_,rfl,rfl,SqT.of (hO),rfl,_,_,rfl,rfl,.inr ⟨bv.mono (by decide),bY.mono (by decide)⟩,_,_,rfl,rfl,⟨vy,(bv.mul bY).mono (by decide)⟩,?_⟩
 refine ⟨_,rfl,_,rfl,_,rfl,_,_,rfl,rfl,.inr ⟨bq.mono (by decide),bv.mono (by decide)⟩,_,_,rfl,rfl,?_⟩
 have fl:=floor_le (x - u * y) vy
 have k1:(u + (x - u * y) / (v * y) * v) * y≤x∧x<((u + (x - u * y) / (v * y) * v) + v) * y:=by
  generalize (x - u * y) / (v * y)=z at *
  have e1:(u + z * v) * y=u * y + z * (v * y):=by grind
  have e2:(u + z * v + v) * y=u * y + (z + 1) * (v * y):=by grind
  rw [e1,e2]
  omega
 have bone:Bd 2000 (1:Int):=(bd20 (by decide) (by decide)).mono (by decide)
 refine ⟨_,rfl,_,rfl,(by show 2≤sizeLine;decide),fun p hp=>?_⟩
 have s1:=same_new hp (.tup [.int (u + (x - u * y) / (v * y) * v),.int 1])
 refine ⟨o,p,x,y,(u + (x - u * y) / (v * y) * v),1,rfl,.inl (s1 _ _ hO),.inl upd_same,bx.mono (by decide),bY.mono (by decide),bk.mono (by decide),bone,by omega,by decide,fun d hd=>?_⟩
 have s2:=same_new hd (.tup [.int (ltN (x * 1 - (u + (x - u * y) / (v * y) * v) * y) (y * 1)),.int (ltD (x * 1 - (u + (x - u * y) / (v * y) * v) * y) (y * 1))])
 have D:=lt_is (t:=x * 1 - (u + (x - u * y) / (v * y) * v) * y) (b:=y * 1) (by omega)
 have bD:=((bx.mul (bd20 (i:=1) (by decide) (by decide))).sub (bk.mul bY)).mono (show _≤1900 by decide)
 have bE:=(bY.mul (bd20 (i:=1) (by decide) (by decide))).mono (show _≤1900 by decide)
 have bX1:=bD.le D.nx
 have bY1:=bE.le D.ny
 have he:=D.eq
 have hp1:=D.pos
 refine ⟨_,rfl,d,r,_,_,t,b,rfl,upd_same,s2 _ _ (s1 _ _ hR),bX1.mono (by decide),bY1.mono (by decide),R.bt.mono (by decide),R.bb.mono (by decide),by omega,by omega,fun f hf=>?_⟩
 generalize ltN (x * 1 - (u + (x - u * y) / (v * y) * v) * y) (y * 1)=X1 at *
 generalize ltD (x * 1 - (u + (x - u * y) / (v * y) * v) * y) (y * 1)=Y1 at *
 have yt:Y1 * t≠0:=Int.ne_of_gt (Int.mul_pos (by omega) (by omega))
 have L:=lt_is (t:=X1 * b) yt
 have s3:=same_new hf (.tup [.int (ltN (X1 * b) (Y1 * t)),.int (ltD (X1 * b) (Y1 * t))])
 refine ⟨_,rfl,(by show 2≤sizeLine;decide),fun m hm=>?_⟩
 have s4:=same_new hm (.tup [.ref f,.int (u + (x - u * y) / (v * y) * v)])
 refine q (u + (x - u * y) / (v * y) * v) _ _ m f _ (s1.trans (s2.trans (s3.trans s4))) rfl k1.1 k1.2 bk L.pos L.co ?_ (((bX1.mul R.bb).mono (show _≤2000 by decide)).le L.nx) (((bY1.mul R.bt).mono (show _≤2000 by decide)).le L.ny) upd_same (s4 _ _ upd_same)
 have h2:=L.eq
 generalize ltN (X1 * b) (Y1 * t)=X at *
 generalize ltD (X1 * b) (Y1 * t)=Y at *
 generalize (u + (x - u * y) / (v * y) * v)=k at *
 have h3:(X * (y * t) - (x - k * y) * b * Y) * Y1=0:=by grind
 rcases Int.mul_eq_zero.mp h3 with h3 | h3
 ·omega
 ·omega

def spTop:Sp:=fun vs H Q _=>∃ (r:Addr) (t b:Int),vs=[.ref r]∧H r=some (.tup [.int t,.int b])∧Rat2 t b∧∀ H',Same H H'→Q (.int (ltN t b)) H'
theorem d_f_top_of (T:Txt K mg):DefOk P w K mg base "top_of" ["ratio"] 3 spTop:=by
 obtain ⟨f,fd,F,hm,hb⟩:=T.h_f_top_of
 refine ⟨f,fd,F.ok sc_f_top_of (fun vs H Q E h=>?_) (fun cdv A outer s H vs Q E hr h=>?_),hm,F.kp,hb⟩
 ·obtain ⟨r,t,b,rfl,_⟩:=h
  rfl
 obtain ⟨r,t,b,rfl,hR,R,q⟩:=h
 refine ⟨_,(@pss_one _ _ _ (@ps_ret _ _ _ _ (@pe_ix _ _ _ _ _ _ _ ix_tup (pe_callD (d_f_least_terms T) hr (pa_cons (@pe_ix _ _ _ _ _ _ _ ix_tup (pv 0) pe_int (fun _ _=>rfl)) (pa_cons (@pe_ix _ _ _ _ _ _ _ ix_tup (pv 0) pe_int (fun _ _=>rfl)) pa_nil))) pe_int (fun _ _=>rfl)))),?_⟩
 have b1:=R.b1
 refine ⟨_,rfl,_,_,_,_,rfl,rfl,SqT.of (hR),rfl,_,rfl,_,_,_,_,rfl,rfl,SqT.of (hR),rfl,_,_,rfl,by omega,R.bb.mono (by decide),fun p hp=>?_⟩
 exact ⟨_,_,_,_,rfl,rfl,SqT.of upd_same,rfl,q _ (same_new hp _)⟩

def spSafe:Sp:=fun vs H Q _=>∃ (r o:Addr) (t b x y:Int),vs=[.ref r,.ref o]∧H r=some (.tup [.int t,.int b])∧H o=some (.tup [.int x,.int y])∧Rat2 t b∧Bd 1700 x∧Bd 1700 y∧0<y∧Bd 64 (0 + (x - 0 * y) / (ltN t b * y) * ltN t b) ∧
 ∀ (k X Y:Int) (m f:Addr) (H':Hp),Same H H'→k % ltN t b=0→k * y≤x→x<(k + ltN t b) * y→Bd 64 k →
  1≤Y→Int.gcd X Y=1→X * (y * t)=(x - k * y) * b * Y→Bd 2000 X→Bd 2000 Y→H' m=some (.tup [.ref f,.int k])→H' f=some (.tup [.int X,.int Y])→Q (.ref m) H'
theorem d_f_soonest_safe (T:Txt K mg):DefOk P w K mg base "soonest_safe" ["ratio","off"] 5 spSafe:=by
 obtain ⟨f,fd,F,hm,hb⟩:=T.h_f_soonest_safe
 refine ⟨f,fd,F.ok sc_f_soonest_safe (fun vs H Q E h=>?_) (fun cdv A outer s H vs Q E hr h=>?_),hm,F.kp,hb⟩
 ·obtain ⟨r,o,t,b,x,y,rfl,_⟩:=h
  rfl
 obtain ⟨r,o,t,b,x,y,rfl,hR,hO,R,bx,bY,y0,bk0,q⟩:=h
 refine ⟨_,(@pss_one _ _ _ (@ps_ret _ _ _ _ (pe_callD (d_f_soonest_of T) hr (pa_cons (pv 0) (pa_cons (pv 1) (pa_cons pe_int (pa_cons (pe_callD (d_f_top_of T) hr (pa_cons (pv 0) pa_nil)) pa_nil))))))),?_⟩
 have L:=R.pl
 refine ⟨_,rfl,_,rfl,_,rfl,r,t,b,rfl,hR,R,fun H1 s1=>?_⟩
 refine ⟨r,o,t,b,x,y,0,_,rfl,s1 _ _ hR,s1 _ _ hO,R,bx,bY,y0,bd20 (by decide) (by decide),L.bp,L.p1,bk0,fun k X Y m f H' s e k1 k2 bk h1 h2 h3 h4 h5 h6 h7=>?_⟩
 refine q k X Y m f H' (s1.trans s) ?_ k1 k2 bk h1 h2 h3 h4 h5 h6 h7
 rw [e,Int.zero_add]
 exact Int.mul_emod_left _ _

def spNext (K:PySem.W.Frag) (mg:Str→Option Value):Sp:=fun vs H Q _=>∃ a p Fp ts,vs=[.ref a]∧PRep K mg Fp H a p∧Pc p ts∧∀ m f k H',Same H H'→H' m=some (.tup [.ref f,.int k])→FrA K H' f p.ahead→Bd 2000 p.ahead.1→Bd 2000 p.ahead.2→0≤p.ahead.1→(p.off=none→k=0)→(∀ o,p.off=some o→k % (ratio ts).1=0∧k * o.2≤o.1∧o.1<(k + (ratio ts).1) * o.2)→Q (.ref m) H'
theorem d_m_Piece_next_safe (T:Txt K mg):MethOk P w K mg base (cOf mg "Piece") "next_safe" ["self"] 6 (spNext K mg):=by
 obtain ⟨f,fd,F,hm,hb⟩:=T.hm_Piece_next_safe
 refine ⟨f,fd,F.ok1 sc_m_Piece_next_safe (fun vs H Q E h=>?_) (fun cdv A outer s H vs Q E hr h=>?_),hm,T.cl_Piece,hb⟩
 ·obtain ⟨a,p,Fp,ts,rfl,_⟩:=h
  rfl
 obtain ⟨a,p,Fp,ts,rfl,R0,P,q⟩:=h
 obtain ⟨dx,t,rv,w,c,fv,tc,mc,cu,R⟩:=id R0
 refine ⟨_,(@pss_cons _ _ _ _ _ (ps_if (pt_cmp (pc_isN (pe_fld (pv 0) rfl)))
 (@pss_one _ _ _ (@ps_ret _ _ _ _ (@pe_tup _ _ _ _ _ (pa_cons (pe_glob (by rfl) T.g_NOUGHT (v:=.ref (cOf mg "NOUGHT")) rfl) (pa_cons pe_int pa_nil)))))
 pss_nil)
 (@pss_one _ _ _ (@ps_ret _ _ _ _ (pe_callD (d_f_soonest_safe T) hr (pa_cons (pe_fld (pv 0) rfl) (pa_cons (pe_methX0 (d_m_Piece_off T) hr (passOut out_cx) (pv 0)) pa_nil)))))),?_⟩
 have b1:Bd 2000 (1:Int):=(Bd.of60 (by decide) (by decide)).mono (by decide)
 have b0:Bd 2000 (0:Int):=(Bd.of60 (by decide) (by decide)).mono (by decide)
 rcases R.fi with ⟨ho,rfl⟩ | ⟨o,f1,c1,w1,x,y,ho,rfl,hf,hc,hw,Fo,he⟩
 ·have ea:p.ahead=(0,1):=by unfold PS.ahead;rw [ho]
  refine ⟨_,rfl,_,_,_,_,_,rfl,R.ob,T.cl_Piece,T.na_Piece_first,rfl,_,rfl,iteDT rfl ?_⟩
  refine ⟨(by show 2≤sizeLine;decide),fun m hm=>?_⟩
  exact q m _ 0 _ (same_new hm _) upd_same (by rw [ea];exact .inr T.t_NOUGHT) (by rw [ea];exact b0) (by rw [ea];exact b1) (by rw [ea];decide) (fun _=>rfl) (fun o z=>by rw [ho] at z;cases z)
 ·have hra:=R.ra
  rw [P.ep] at hra
  obtain ⟨rr,rfl,hra⟩:=hra
  have Rt:Rat2 (ratio ts).1 (ratio ts).2:=⟨P.tr.pl.p1,P.tr.pl.p2,P.tr.pl.q1,P.tr.pl.q2⟩
  have eN:ltN (ratio ts).1 (ratio ts).2=(ratio ts).1:=congrArg Prod.fst (red_self P.tr.rok)
  have oN:=P.offN ho
  have oO:=P.o o ho
  have o2:0<o.2:=by have:=oO.pos;omega
  refine ⟨_,rfl,_,_,_,_,_,rfl,R.ob,T.cl_Piece,T.na_Piece_first,rfl,_,rfl,iteDF (fun z=>by cases z) ?_⟩
  refine ⟨_,rfl,_,_,_,_,_,rfl,R.ob,T.cl_Piece,T.na_Piece_ratio,rfl,_,rfl,a,dx,_,rfl,R.ob,rfl,a,p,Fp,rfl,R0,.inr ⟨ts,P⟩,fun v H1 s1 hv=>?_⟩
  rw [ho] at hv
  obtain ⟨n,rfl,hn0,hn⟩:=hv
  refine ⟨rr,n,(ratio ts).1,(ratio ts).2,o.1,o.2,rfl,s1 _ _ hra,hn,Rt,oN.1,oN.2,o2,(by rw [eN];exact P.safeBd ho),fun k X Y m f H' s k1 k2 k3 bk h1 h2 h3 h4 h5 h6 h7=>?_⟩
  rw [eN] at k1 k3
  obtain ⟨e1,e2⟩:=P.ahead_of ho k1 k2 k3 h1 h2 h3
  exact q m f k H' (s1.trans s) h6 (by rw [e1];exact .inl h7) (by rw [e1];exact h4) (by rw [e1];exact h5) e2 (fun z=>by rw [ho] at z;cases z) (fun o' z=>by rw [ho] at z;cases z;exact ⟨k1,k2,k3⟩)

theorem d_m_Lathe_wait (T:Txt K mg):MethOk P w K mg base (cOf mg "Lathe") "wait" ["self"] 9 (spDeed0 K mg .wait):=by
 obtain ⟨f,fd,F,hm,hb⟩:=T.hm_Lathe_wait
 refine ⟨f,fd,F.ok1 sc_m_Lathe_wait (fun vs H Q E h=>?_) (fun cdv A outer s H vs Q E hr h=>?_),hm,T.cl_Lathe,hb⟩
 ·obtain ⟨a,l,F,rfl,_⟩:=h
  rfl
 obtain ⟨a,l,F,rfl,R0,D⟩:=h
 have R1:=R0
 obtain ⟨Fp,dx,s,pa,ra,rdx,ea,es,R⟩:=R1
 refine ⟨_,(@pss_cons _ _ _ _ _ (ps_expr (pe_callX (d_f_check_mounted T) hr (passOut out_cx) (pa_cons (pe_fld (pv 0) rfl) pa_nil)))
 (@pss_cons _ _ _ _ _ (ps_expr (pe_callX (d_f_check_nut_open T) hr (passOut out_cx) (pa_cons (pe_fld (pv 0) rfl) pa_nil)))
 (@pss_cons _ _ _ _ _ (@ps_set _ _ 1 _ _ _ _ sc_m_Lathe_wait.nd rfl (Or.inl rfl) (@pe_ix _ _ _ _ _ _ _ ix_tup (pe_methX0 (d_m_Piece_next_safe T) hr (passOut out_cx) (pe_fld (pv 0) rfl)) pe_int (fun _ _=>rfl)) (by rfl) (by first | exact .inl rfl | exact .inr rfl))
 (@pss_cons _ _ _ _ _ (ps_expr (pe_callX (d_f_check_count T) hr (passOut out_cx) (pa_cons (pe_fld (pe_fld (pv 0) rfl) rfl) (pa_cons (pv 1) pa_nil))))
 (@pss_cons _ _ _ _ _ (@ps_set _ _ 2 _ _ _ _ sc_m_Lathe_wait.nd rfl (Or.inl rfl) (pe_methX0 (d_m_Piece_twin T) hr (passOut out_cx) (pe_fld (pv 0) rfl)) (by rfl) (by first | exact .inl rfl | exact .inr rfl))
 (@pss_cons _ _ _ _ _ (ps_expr (pe_methX (d_m_Piece_turn T) hr (passOut out_cx) (pv 2) (pa_cons (pv 1) pa_nil)))
 (@pss_one _ _ _ (@ps_ret _ _ _ _ (pe_methX (d_m_Lathe_enter T) hr (passOut out_cx) (pv 0) (pa_cons pe_str (pa_cons pe_non (pa_cons (pv 2) pa_nil)))))))))))),?_⟩
 refine ⟨_,rfl,_,_,_,_,_,rfl,R.ob,T.cl_Lathe,T.na_Lathe_piece,rfl,pa,l.ps,Fp,rfl,R.pc,fun pi=>?_,fun pi=>D.no R0 (Same.refl _) (due2 rfl (by show l.ps.pitch.isSome=false;rw [pi];rfl))⟩
 have d2:Req.wait.has l=true:=by show l.ps.pitch.isSome=true;exact Option.isSome_iff_ne_none.mpr pi
 refine ⟨_,rfl,_,_,_,_,_,rfl,R.ob,T.cl_Lathe,T.na_Lathe_piece,rfl,pa,l.ps,Fp,rfl,R.pc,fun cl=>?_,fun cl=>D.no R0 (Same.refl _) (due3 rfl d2 cl)⟩
 obtain ⟨pdx,t,rv,w,c,fv,tc,mc,cu,Rp⟩:=R.pc
 rcases R.re.pco with e | ⟨ts,P⟩
 ·rw [e] at pi;exact absurd rfl pi
 refine ⟨_,rfl,_,_,_,_,_,rfl,R.ob,T.cl_Lathe,T.na_Lathe_piece,rfl,pa,pdx,_,rfl,Rp.ob,rfl,pa,l.ps,Fp,ts,rfl,R.pc,P,fun m f k H1 s1 hm hf b1 b2 n0 _ _=>?_⟩
 refine ⟨_,_,_,_,rfl,rfl,SqT.of hm,rfl,?_⟩
 have tN:=P.turnedN
 have ao:=(ahead_is P).1
 have wN:=P.waitN
 have y0:l.ps.ahead.2≠0:=ao.ne
 refine ⟨_,rfl,_,_,_,_,_,rfl,(s1 _ _ R.ob),T.cl_Lathe,T.na_Lathe_piece,rfl,_,_,_,_,_,rfl,(s1 _ _ Rp.ob),T.cl_Piece,T.na_Piece_turn_count,rfl,_,rfl,tc,f,l.ps.turned,l.ps.ahead.1,l.ps.ahead.2,rfl,Rp.tu.mono s1,hf,tN.1.mono (by decide),tN.2.mono (by decide),b1,b2,P.t.ne,y0,wN.2.1.mono (by decide),wN.2.2.mono (by decide),fun few H2 s2=>?_,fun many H2 s2=>D.no R0 (s1.trans s2) (due4 rfl d2 cl many)⟩
 have dd:=due6 (l:=l) (q:=.wait) rfl d2 cl few rfl
 have s12:=s1.trans s2
 refine ⟨_,rfl,_,_,_,_,_,rfl,(s12 _ _ R.ob),T.cl_Lathe,T.na_Lathe_piece,rfl,pa,pdx,_,rfl,s12 _ _ Rp.ob,rfl,pa,l.ps,Fp,rfl,R.pc.same s12,R.re.pco,fun b H3 Fq s3 nb nq aq Rb=>?_⟩
 obtain ⟨bdx,bt,brv,bw,bc,bfv,btc,bmc,bcu,Rb'⟩:=id Rb
 have hf3:=hf.mono (s2.trans s3)
 refine ⟨_,rfl,b,bdx,_,rfl,Rb'.ob,rfl,_,rfl,b,l.ps,Fq,ts,f,l.ps.ahead.1,l.ps.ahead.2,rfl,Rb,P,hf3,b1,b2,ao.pos,fun z=>(by rw [cl] at z;cases z),fun H4 k4 ex4 R4=>?_⟩
 have s4:=keep1 (s12.trans s3) (s12.free nb) k4
 rw [red_self ao] at R4
 exact ⟨_,rfl,a,dx,_,rfl,s4 _ _ R.ob,rfl,_,rfl,D.enter R0 s4 (fun z f=>s12.free (nq z f)) (aq1 aq k4 ex4) dd rfl R4⟩

def doneQ (K:PySem.W.Frag) (mg:Str→Option Value) (H:Hp) (a:Addr) (l:LS) (F:Addr→Prop) (q:Req) (Q:VK) (E:XK):Option String→Prop
 | none=>∀ H' F',LRep K mg H' a (l.push q.deed) F'→Fit F F' H H'→Q .non H'
 | some x=>∀ H' F',LRep K mg H' a l F'→Fit F F' H H'→E (.ref (cOf mg x)) none H'
def spDoDeed (K:PySem.W.Frag) (mg:Str→Option Value):Sp:=fun vs H Q E=>∃ (a:Addr) (l:LS) (F:Addr→Prop) (q:Req) (wv:V),vs=[.ref a,.str (Req.word q),wv]∧LRep K mg H a l F∧ReqV K H wv q∧∃ o,due l q=o∧doneQ K mg H a l F q Q E o
theorem d_f_do_deed (T:Txt K mg):DefOkX P w K mg base "do_deed" ["lathe","word","what"] 10 (spDoDeed K mg):=by
 obtain ⟨f,fd,F,hm,hb⟩:=T.h_f_do_deed
 refine ⟨f,fd,F.ok1 sc_f_do_deed (fun vs H Q E h=>?_) (fun cdv A outer s H vs Q E hr h=>?_),hm,F.kp,hb⟩
 ·obtain ⟨a,l,F,q,wv,rfl,_⟩:=h
  rfl
 obtain ⟨a,l,F,rq,wv,rfl,R,hv,o,d,q⟩:=h
 refine ⟨_,(@pss_one _ _ _ (ps_if (pt_cmpR op_eq (pv 1) pe_str (nomark _))
 (@pss_one _ _ _ (ps_expr (pe_methX (d_m_Lathe_mount T) hr (passOut out_cx) (pv 0) (pa_cons (pv 2) pa_nil))))
 (@pss_one _ _ _ (ps_if (pt_cmpR op_eq (pv 1) pe_str (nomark _))
 (@pss_one _ _ _ (ps_expr (pe_methX (d_m_Lathe_turn T) hr (passOut out_cx) (pv 0) (pa_cons (pv 2) pa_nil))))
 (@pss_one _ _ _ (ps_if (pt_cmpR op_eq (pv 1) pe_str (nomark _))
 (@pss_one _ _ _ (ps_expr (pe_methX0 (d_m_Lathe_wait T) hr (passOut out_cx) (pv 0))))
 (@pss_one _ _ _ (ps_if (pt_cmpR op_eq (pv 1) pe_str (nomark _))
 (@pss_one _ _ _ (ps_expr (pe_methX0 (d_m_Lathe_close_nut T) hr (passOut out_cx) (pv 0))))
 (@pss_one _ _ _ (ps_if (pt_cmpR op_eq (pv 1) pe_str (nomark _))
 (@pss_one _ _ _ (ps_expr (pe_methX0 (d_m_Lathe_open_nut T) hr (passOut out_cx) (pv 0))))
 (@pss_one _ _ _ (ps_if (pt_cmpR op_eq (pv 1) pe_str (nomark _))
 (@pss_one _ _ _ (ps_expr (pe_methX (d_m_Lathe_move T) hr (passOut out_cx) (pv 0) (pa_cons (pv 2) pa_nil))))
 (@pss_one _ _ _ (ps_if (pt_cmpR op_eq (pv 1) pe_str (nomark _))
 (@pss_one _ _ _ (ps_expr (pe_methX (d_m_Lathe_cut T) hr (passOut out_cx) (pv 0) (pa_cons (pv 2) pa_nil))))
 (@pss_one _ _ _ (ps_raise out_cx rfl T.x_LatheError T.g_LatheError (pa_cons pe_str pa_nil))))))))))))))))),?_⟩
 obtain ⟨dx,fs,ins,no⟩:=R.ins
 have D:deedQ K mg H a l F rq (fun _ H'=>Q .non H') E:=⟨fun z=>by rw [z] at d;subst d;exact fun _ H' F' R' f' _=>q H' F' R' f',fun e he=>by rw [he] at d;subst d;exact q⟩
 cases rq with
 | mount ts =>
  obtain ⟨t,rfl,ht,h1,h2⟩:=hv
  refine ⟨_,rfl,rfl,_,rfl,iteDT rfl ?_⟩
  exact ⟨_,rfl,a,dx,fs,rfl,ins,no "mount" (by decide +kernel),_,rfl,a,t,ts,l,F,rfl,R,ht,h1,h2,D⟩
 | turn x y =>
  obtain ⟨t,rfl,ht,b1,b2⟩:=hv
  refine ⟨_,rfl,rfl,_,rfl,iteDF (by show ¬ V.str "turn" = V.str "mount";decide +kernel) ?_⟩
  refine ⟨_,rfl,rfl,_,rfl,iteDT rfl ?_⟩
  exact ⟨_,rfl,a,dx,fs,rfl,ins,no "turn" (by decide +kernel),_,rfl,a,t,x,y,l,F,rfl,R,ht,b1,b2,D⟩
 | wait =>
  refine ⟨_,rfl,rfl,_,rfl,iteDF (by show ¬ V.str "wait" = V.str "mount";decide +kernel) ?_⟩
  refine ⟨_,rfl,rfl,_,rfl,iteDF (by show ¬ V.str "wait" = V.str "turn";decide +kernel) ?_⟩
  refine ⟨_,rfl,rfl,_,rfl,iteDT rfl ?_⟩
  exact ⟨_,rfl,a,dx,fs,rfl,ins,no "wait" (by decide +kernel),a,l,F,rfl,R,D⟩
 | close =>
  refine ⟨_,rfl,rfl,_,rfl,iteDF (by show ¬ V.str "close" = V.str "mount";decide +kernel) ?_⟩
  refine ⟨_,rfl,rfl,_,rfl,iteDF (by show ¬ V.str "close" = V.str "turn";decide +kernel) ?_⟩
  refine ⟨_,rfl,rfl,_,rfl,iteDF (by show ¬ V.str "close" = V.str "wait";decide +kernel) ?_⟩
  refine ⟨_,rfl,rfl,_,rfl,iteDT rfl ?_⟩
  exact ⟨_,rfl,a,dx,fs,rfl,ins,no "close_nut" (by decide +kernel),a,l,F,rfl,R,D⟩
 | opn =>
  refine ⟨_,rfl,rfl,_,rfl,iteDF (by show ¬ V.str "open" = V.str "mount";decide +kernel) ?_⟩
  refine ⟨_,rfl,rfl,_,rfl,iteDF (by show ¬ V.str "open" = V.str "turn";decide +kernel) ?_⟩
  refine ⟨_,rfl,rfl,_,rfl,iteDF (by show ¬ V.str "open" = V.str "wait";decide +kernel) ?_⟩
  refine ⟨_,rfl,rfl,_,rfl,iteDF (by show ¬ V.str "open" = V.str "close";decide +kernel) ?_⟩
  refine ⟨_,rfl,rfl,_,rfl,iteDT rfl ?_⟩
  exact ⟨_,rfl,a,dx,fs,rfl,ins,no "open_nut" (by decide +kernel),a,l,F,rfl,R,D⟩
 | move x y =>
  obtain ⟨t,rfl,ht,b1,b2⟩:=hv
  refine ⟨_,rfl,rfl,_,rfl,iteDF (by show ¬ V.str "move" = V.str "mount";decide +kernel) ?_⟩
  refine ⟨_,rfl,rfl,_,rfl,iteDF (by show ¬ V.str "move" = V.str "turn";decide +kernel) ?_⟩
  refine ⟨_,rfl,rfl,_,rfl,iteDF (by show ¬ V.str "move" = V.str "wait";decide +kernel) ?_⟩
  refine ⟨_,rfl,rfl,_,rfl,iteDF (by show ¬ V.str "move" = V.str "close";decide +kernel) ?_⟩
  refine ⟨_,rfl,rfl,_,rfl,iteDF (by show ¬ V.str "move" = V.str "open";decide +kernel) ?_⟩
  refine ⟨_,rfl,rfl,_,rfl,iteDT rfl ?_⟩
  exact ⟨_,rfl,a,dx,fs,rfl,ins,no "move" (by decide +kernel),_,rfl,a,t,x,y,l,F,rfl,R,ht,b1,b2,D⟩
 | cut x y =>
  obtain ⟨t,rfl,ht,b1,b2⟩:=hv
  refine ⟨_,rfl,rfl,_,rfl,iteDF (by show ¬ V.str "cut" = V.str "mount";decide +kernel) ?_⟩
  refine ⟨_,rfl,rfl,_,rfl,iteDF (by show ¬ V.str "cut" = V.str "turn";decide +kernel) ?_⟩
  refine ⟨_,rfl,rfl,_,rfl,iteDF (by show ¬ V.str "cut" = V.str "wait";decide +kernel) ?_⟩
  refine ⟨_,rfl,rfl,_,rfl,iteDF (by show ¬ V.str "cut" = V.str "close";decide +kernel) ?_⟩
  refine ⟨_,rfl,rfl,_,rfl,iteDF (by show ¬ V.str "cut" = V.str "open";decide +kernel) ?_⟩
  refine ⟨_,rfl,rfl,_,rfl,iteDF (by show ¬ V.str "cut" = V.str "move";decide +kernel) ?_⟩
  refine ⟨_,rfl,rfl,_,rfl,iteDT rfl ?_⟩
  exact ⟨_,rfl,a,dx,fs,rfl,ins,no "cut" (by decide +kernel),_,rfl,a,t,x,y,l,F,rfl,R,ht,b1,b2,D⟩

def replQ (K:PySem.W.Frag) (mg:Str→Option Value) (H:Hp) (Q:VK) (E:XK):LS ⊕ String→Prop
 | .inl l=>∀ x H' F',LRep K mg H' x l F'→Fit (fun _=>False) F' H H'→Q (.ref x) H'
 | .inr e=>∀ H',Same H H'→E (.ref (cOf mg e)) none H'
def spReplay (K:PySem.W.Frag) (mg:Str→Option Value):Sp:=fun vs H Q E=>∃ (W B:Addr) (ws:List Int) (n:Int) (rs:List Addr) (qs:List Req),vs=[.ref W,.int n,.ref B]∧(H W=some (.lst (ws.map V.int))∨H W=some (.tup (ws.map V.int)))∧ws.length≤1000∧(∀ v∈ws,Bd 200 v)∧Bd 200 n∧SqA K H B (rs.map V.ref)∧DeedV K H rs qs ∧
 (GoodShop ws n→∃ o,runO ⟨ws,n,[]⟩ qs=o∧replQ K mg H Q E o)∧(¬ GoodShop ws n→∀ H',Same H H'→E (.ref (cOf mg "BadNumber")) none H')
theorem d_f_replay (T:Txt K mg):DefOkX P w K mg base "replay" ["wheels","teeth","deeds"] 11 (spReplay K mg):=by
 obtain ⟨f,fd,F,hm,hb⟩:=T.h_f_replay
 refine ⟨f,fd,F.ok1 sc_f_replay (fun vs H Q E h=>?_) (fun cdv A outer s H vs Q E hr h=>?_),hm,F.kp,hb⟩
 ·obtain ⟨W,B,ws,n,rs,qs,rfl,_⟩:=h
  rfl
 obtain ⟨W,B,ws,n,rs,qs,rfl,hW,hl,hb',bn,hB,dv,q1,q2⟩:=h
 refine ⟨_,(@pss_cons _ _ _ _ _ (@ps_set _ _ 3 _ _ _ _ sc_f_replay.nd rfl (Or.inl rfl) (pe_makeX (d_m_Lathe___init__ T) hr (passOut out_cx) (pa_cons (pv 0) (pa_cons (pv 1) pa_nil))) (by rfl) (by first | exact .inl rfl | exact .inr rfl))
 (@pss_cons _ _ _ _ _ (ps_for PassesOwn.leaving rfl (pi_any (pv 2)) (pg_name (i:=4) sc_f_replay.nd rfl (Or.inl rfl))
 (@pss_one _ _ _ (ps_expr (pe_callX (d_f_do_deed T) hr (passOut out_cx) (pa_cons (pv 3) (pa_cons (@pe_ix _ _ _ _ _ _ _ ix_tup (pv 4) pe_int (fun _ _=>rfl)) (pa_cons (@pe_ix _ _ _ _ _ _ _ ix_tup (pv 4) pe_int (fun _ _=>rfl)) pa_nil)))))))
 (@pss_one _ _ _ (@ps_ret _ _ _ _ (pv 3))))),?_⟩
 refine ⟨_,rfl,_,rfl,fun x dx nx ndx ne=>?_⟩
 have sx:Same H (upd (upd H dx (.own x)) x (.ins (cOf mg "Lathe") dx [])):=fun b o e=>by rw [upd_ne (ne_of_none e nx),upd_ne (ne_of_none e ndx)];exact e
 refine ⟨x,dx,W,ws,n,rfl,upd_same,(by rw [upd_ne ne,upd_same]),(hW.elim (fun h=>.inl (sx _ _ h)) fun h=>.inr (sx _ _ h)),hl,hb',bn,fun G H2 F2 R2 k2 f2=>⟨rfl,?_⟩,fun z=>?_⟩
 ·have fit2:=Fit.made nx ndx k2 f2
  obtain ⟨o,ho,q⟩:=q1 G
  refine ⟨B,rfl,for_any2 (K:=K) (a:=B) (xs:=rs.map V.ref) (H0:=H) (fun i σ H'=>∃ (l:LS) (F:Addr→Prop) (v:Option V),σ=[some (.ref W),some (.int n),some (.ref B),some (.ref x),v]∧LRep K mg H' x l F∧Fit (fun _=>False) F H H'∧runO l (qs.drop i)=o) hB ⟨_,F2,none,rfl,R2,fit2,ho⟩ (fun i σ H' ⟨_,_,_,_,_,f,_⟩=>f.all) ?_ ?_⟩
  ·rintro i v σ Hc hv ⟨l,F,v1,rfl,R,f,hr⟩
   rw [List.getElem?_map] at hv
   obtain ⟨r,hr0,rfl⟩:=Option.map_eq_some_iff.mp hv
   obtain ⟨rq,wv,hq,h1,h2⟩:=(dv.same f.all).at_ i r hr0
   obtain ⟨st1,st2⟩:=runO_step (l:=l) hq
   refine ⟨_,rfl,_,rfl,_,_,_,_,rfl,rfl,SqT.of (h1),rfl,_,rfl,_,_,_,_,rfl,rfl,SqT.of (h1),rfl,x,l,F,rq,wv,rfl,R,h2,_,rfl,?_⟩
   rcases hd:due l rq with _ | e
   ·intro H' F' R' f'
    exact ⟨_,F',_,rfl,R',f.trans f',(st1 hd).symm.trans hr⟩
   ·intro H' F' R' f'
    rw [← ((st2 e hd).symm.trans hr)] at q
    exact q H' (f.trans f').all
  ·rintro σ Hc ⟨l,F,v1,rfl,R,f,hr⟩
   rw [List.drop_eq_nil_of_le (by rw [List.length_map,dv.len];exact Nat.le_refl _)] at hr
   rw [← show Sum.inl l=o from hr] at q
   exact ⟨_,rfl,q x Hc F R f⟩
 ·intro H' kk
  exact q2 z H' (fun b o e=>kk b o (sx b o e) (ne_of_none e nx))

def spSpoil:Sp:=fun vs H Q _=>∃ (r:Addr) (t b n m:Int),vs=[.ref r,.int n,.int m]∧H r=some (.tup [.int t,.int b])∧Rat2 t b∧2≤n∧n≤64∧0≤m∧m<n ∧
 ∀ (H':Hp),Same H H'→Q (spoilV (ltN t b) n m) H'
theorem d_f_spoiling_at (T:Txt K mg):DefOk P w K mg base "spoiling_at" ["ratio","teeth","mark"] 4 spSpoil:=by
 obtain ⟨f,fd,F,hm,hb⟩:=T.h_f_spoiling_at
 refine ⟨f,fd,F.ok sc_f_spoiling_at (fun vs H Q E h=>?_) (fun cdv A outer s H vs Q E hr h=>?_),hm,F.kp,hb⟩
 ·obtain ⟨r,t,b,n,m,rfl,_⟩:=h
  rfl
 obtain ⟨r,t,b,n,m,rfl,hR,R,n0,n1,m0,m1,q⟩:=h
 refine ⟨_,(@pss_cons _ _ _ _ _ (ps_for PassesOwn.never rfl (pi_tup (@pe_tup _ _ _ _ _ (pa_cons (pv 2) (pa_cons (pe_op op_add (pv 2) (pv 1)) pa_nil)))) (pg_name (i:=3) sc_f_spoiling_at.nd rfl (Or.inl rfl))
 (@pss_one _ _ _ (ps_if (pt_cmp (pc_neI (pe_callD (d_f_groove_of T) hr (pa_cons (pv 0) (pa_cons (pv 3) pa_nil))) pe_int))
 (@pss_one _ _ _ (@ps_ret _ _ _ _ (pv 3)))
 pss_nil)))
 (@pss_one _ _ _ (@ps_ret _ _ _ _ pe_non))),?_⟩
 have L:=R.pl
 refine ⟨_,rfl,_,rfl,_,rfl,_,_,rfl,rfl,(by show 2≤sizeLine;decide),fun l hl=>?_⟩
 have s0:=same_new hl (.tup [.int m,.int (m + n)])
 refine ⟨l,rfl,⟨_,SqT.of upd_same⟩,for_tup (K:=K) (a:=l) (xs:=[.int m,.int (m + n)]) (fun i σ H'=>∃ k:Option V,σ=[some (.ref r),some (.int n),some (.int m),k]∧Same H H'∧H' l=some (.tup [.int m,.int (m + n)])∧(1≤i→m % ltN t b=0)∧(2≤i→(m + n) % ltN t b=0))
  ⟨none,rfl,s0,upd_same,by omega,by omega⟩ (fun i σ H' _ ⟨_,_,_,h,_⟩=>SqT.of h) ?_ ?_⟩
 ·rintro i x σ H' hx ⟨k,rfl,s1,h1,z1,z2⟩
  have hx':∃ c:Int,x = .int c∧((i=0∧c=m)∨(i=1∧c=m + n)):=by
   match i,hx with
   | 0,hx=>cases hx;exact ⟨m,rfl,.inl ⟨rfl,rfl⟩⟩
   | 1,hx=>cases hx;exact ⟨m + n,rfl,.inr ⟨rfl,rfl⟩⟩
  obtain ⟨c,rfl,hc⟩:=hx'
  have bc:Bd 64 c:=bd20 (by omega) (by omega)
  refine ⟨_,rfl,_,rfl,r,t,b,c,rfl,s1 _ _ hR,R,bc.mono (by decide),fun H2 s2=>?_⟩
  refine ⟨_,_,rfl,rfl,_,rfl,?_⟩
  refine iteND (fun ne=>?_) (fun eq=>?_)
  ·have ne':c % ltN t b≠0:=fun z=>ne ((cop_mod c L.co).mpr z)
   have e:V.int c=spoilV (ltN t b) n m:=by
    unfold spoilV
    rcases hc with ⟨_,rfl⟩ | ⟨rfl,rfl⟩
    ·rw [if_pos ne']
    ·have hm:=z1 (Nat.le_refl 1)
     rw [if_neg (fun z=>z hm),if_pos]
     intro z
     have:=mod_lin 1 hm z
     rw [Int.one_mul] at this
     exact ne' this
   have q':=q H2 (s1.trans s2)
   rw [← e] at q'
   exact ⟨_,rfl,q'⟩
  ·have eq':c % ltN t b=0:=(cop_mod c L.co).mp eq
   refine ⟨_,rfl,s1.trans s2,s2 _ _ h1,fun _=>?_,fun _=>?_⟩
   ·rcases hc with ⟨_,rfl⟩ | ⟨rfl,rfl⟩
    ·exact eq'
    ·exact z1 (Nat.le_refl 1)
   ·rcases hc with ⟨_,rfl⟩ | ⟨rfl,rfl⟩
    ·omega
    ·exact eq'
 ·rintro σ H' ⟨k,rfl,s1,h1,z1,z2⟩
  have a1:=z1 (show 1≤2 by decide)
  have a2:=z2 (show 2≤2 by decide)
  have q':=q H' s1
  unfold spoilV at q'
  rw [if_neg (fun z=>z a1),if_neg (fun z=>z (mod_drop a1 a2))] at q'
  exact q'

theorem d_m_Lathe_marks (T:Txt K mg):MethOk P w K mg base (cOf mg "Lathe") "marks" ["self"] 9 (spMarksL K mg):=by
 obtain ⟨f,fd,F,hm,hb⟩:=T.hm_Lathe_marks
 refine ⟨f,fd,F.ok1 sc_m_Lathe_marks (fun vs H Q E h=>?_) (fun cdv A outer s H vs Q E hr h=>?_),hm,T.cl_Lathe,hb⟩
 ·obtain ⟨a,l,F,rfl,_⟩:=h
  rfl
 obtain ⟨a,l,F,rfl,R0,q1,q2⟩:=h
 have R1:=R0
 obtain ⟨Fp,dx,s,pa,ra,rdx,ea,es,R⟩:=R1
 refine ⟨_,(@pss_cons _ _ _ _ _ (ps_expr (pe_callX (d_f_check_mounted T) hr (passOut out_cx) (pa_cons (pe_fld (pv 0) rfl) pa_nil)))
 (@pss_one _ _ _ (@ps_ret _ _ _ _ (pe_comp0 rfl (sc:=defScope s_m_Lathe_marks) rfl (N:=["self"]) rfl ⟨by decide +kernel,rfl,by decide +kernel,by decide +kernel,rfl,by decide +kernel,by decide +kernel,by decide +kernel⟩ (pi_range1 (by rfl) T.z_range (pa_cons (pe_fld (pv 0) rfl) pa_nil)) (fun _ _ _ _ _ _=>(pe_callD (d_f_spoiling_at T) hr (pa_cons (pe_fldK (K:=K) rfl (pe_fldK (K:=K) rfl (pv 1) rfl) rfl) (pa_cons (pe_fldK (K:=K) rfl (pv 1) rfl) (pa_cons (pv 0) pa_nil))))))))),?_⟩
 refine ⟨_,rfl,_,_,_,_,_,rfl,R.ob,T.cl_Lathe,T.na_Lathe_piece,rfl,pa,l.ps,Fp,rfl,R.pc,fun pi=>?_,fun pi=>q2 pi _ F R0 (Fit.refl _ _)⟩
 obtain ⟨pdx,t,rv,w,c,fv,tc,mc,cu,Rp⟩:=R.pc
 rcases R.re.pco with e | ⟨ts,P⟩
 ·rw [e] at pi;exact absurd rfl pi
 have G:=R.re.good
 have n2:=G.n2
 have n64:=G.n64
 have hra:=Rp.ra
 rw [P.ep] at hra
 obtain ⟨rr,rfl,hra⟩:=hra
 have Rt:Rat2 (ratio ts).1 (ratio ts).2:=⟨P.tr.pl.p1,P.tr.pl.p2,P.tr.pl.q1,P.tr.pl.q2⟩
 have eN:ltN (ratio ts).1 (ratio ts).2=(ratio ts).1:=congrArg Prod.fst (red_self P.tr.rok)
 refine ⟨_,rfl,_,_,_,_,_,rfl,R.ob,T.cl_Lathe,T.na_Lathe_teeth,rfl,_,rfl,by omega,by omega,?_⟩
 intro D hD
 have u0:=same_new hD (.lst [])
 refine comp_range (tt:=fun _ H Q=>Q true H) (lo:=0) (n:=l.teeth.toNat) (fun i H6 ys=>ys=(List.range i).map (fun (m:Nat)=>spoilV (ratio ts).1 l.teeth (m:Int))∧(∀ b o,H b=some o→H6 b=some o)∧H6 D=some (.lst ys)) ⟨rfl,u0,upd_same⟩ ?_ ?_
 ·rintro i H6 ys kk hk hi ⟨rfl,s6,hd6⟩
  refine ⟨hd6,iteT ?_⟩
  refine ⟨_,rfl,_,_,_,_,_,rfl,(s6 _ _ R.ob),T.cl_Lathe,T.na_Lathe_piece,rfl,_,_,_,_,_,rfl,(s6 _ _ Rp.ob),T.cl_Piece,T.na_Piece_ratio,rfl,_,rfl,_,_,_,_,_,rfl,(s6 _ _ R.ob),T.cl_Lathe,T.na_Lathe_teeth,rfl,_,rfl,rr,(ratio ts).1,(ratio ts).2,l.teeth,_,rfl,s6 _ _ hra,Rt,n2,n64,by omega,by omega,fun H7 s7=>?_⟩
  refine ⟨s7 _ _ hd6,(by rw [List.length_map,List.length_range];exact small1000 (by omega)),hk _ _ ⟨?_,fun b o e=>by rw [upd_ne (ne_of_none e hD)];exact s7 _ _ (s6 b o e),upd_same⟩⟩
  rw [List.range_succ,List.map_append,eN,Int.zero_add]
  rfl
 ·rintro H6 ys ⟨rfl,s6,hd6⟩
  refine ⟨hd6,?_⟩
  exact q1 (ratio ts) P.ep D _ F (R0.same s6) (Fit.of_same s6) hD (fun z=>by obtain ⟨o,h⟩:=R0.at_ z;rw [hD] at h;cases h) hd6

theorem d_m_Lathe_passes (T:Txt K mg):MethOk P w K mg base (cOf mg "Lathe") "passes" ["self"] 9 (spAsk K mg tellPasses):=by
 obtain ⟨f,fd,F,hm,hb⟩:=T.hm_Lathe_passes
 refine ⟨f,fd,F.ok1 sc_m_Lathe_passes (fun vs H Q E h=>?_) (fun cdv A outer s H vs Q E hr h=>?_),hm,T.cl_Lathe,hb⟩
 ·obtain ⟨a,l,F,rfl,_⟩:=h
  rfl
 obtain ⟨a,l,F,rfl,R0,q⟩:=h
 have R1:=R0
 obtain ⟨Fp,dx,s,pa,ra,rdx,ea,es,R⟩:=R1
 refine ⟨_,(@pss_one _ _ _ (@ps_ret _ _ _ _ (pe_callTy call_list_of (by rfl) T.z_list PyProof.Rows.boot_list (pa_cons (pe_fld (pe_fld (pv 0) rfl) rfl) pa_nil)))),?_⟩
 obtain ⟨pdx,t,rv,w,c,fv,tc,mc,cu,Rp⟩:=R.pc
 obtain ⟨rs,hrs,prs⟩:=Rp.cu
 refine ⟨_,rfl,_,_,_,_,_,rfl,R.ob,T.cl_Lathe,T.na_Lathe_piece,rfl,_,_,_,_,_,rfl,Rp.ob,T.cl_Piece,T.na_Piece_cuts,rfl,cu,_,rfl,.inl (SqL.of hrs),fun D hD=>?_⟩
 have s1:=same_new hD (.lst (rs.map V.ref))
 exact q _ _ F (R0.same s1) (Fit.of_same s1) ⟨D,rfl,hD,(fun z=>by obtain ⟨o,h⟩:=R0.at_ z;rw [hD] at h;cases h),⟨rs,upd_same,pair_mono s1 prs⟩⟩

def spDeeds (K:PySem.W.Frag) (mg:Str→Option Value):Sp:=fun vs H Q _=>∃ b rdx ea es Fp ds,vs=[.ref b]∧H b=some (.ins (cOf mg "Book") rdx [("entries",.ref ea)])∧H ea=some (.lst es)∧Ents K mg Fp H ds es∧ds.length≤100 ∧
 ∀ D rs H',Same H H'→H D=none→H' D=some (.lst (rs.map V.ref))→Booked K H' ds rs→Q (.ref D) H'
theorem d_m_Book_deeds (T:Txt K mg):MethOk P w K mg base (cOf mg "Book") "deeds" ["self"] 1 (spDeeds K mg):=by
 obtain ⟨f,fd,F,hm,hb⟩:=T.hm_Book_deeds
 refine ⟨f,fd,F.ok1 sc_m_Book_deeds (fun vs H Q E h=>?_) (fun cdv A outer s H vs Q E hr h=>?_),hm,T.cl_Book,hb⟩
 ·obtain ⟨b,rdx,ea,es,Fp,ds,rfl,_⟩:=h
  rfl
 obtain ⟨b,rdx,ea,es,Fp,ds,rfl,hb',he,En,h100,q⟩:=h
 refine ⟨_,(@pss_one _ _ _ (@ps_ret _ _ _ _ (pe_comp0 rfl (sc:=defScope s_m_Book_deeds) rfl (N:=["self"]) rfl ⟨by decide +kernel,rfl,by decide +kernel,by decide +kernel,rfl,by decide +kernel,by decide +kernel,by decide +kernel⟩ (pi_list (pe_fld (pv 0) rfl)) (fun _ _ _ _ _ _=>(@pe_ix _ _ _ _ _ _ _ (ix_tupK (K:=K) rfl) (pv 0) pe_int (fun _ _=>rfl)))))),?_⟩
 have hlen:=En.len
 refine ⟨_,rfl,_,_,_,_,_,rfl,hb',T.cl_Book,T.na_Book_entries,rfl,ea,rfl,⟨_,SqL.of he⟩,?_⟩
 intro D hD
 have u0:=same_new hD (.lst [])
 refine comp_list (K:=K) (a:=ea) (xs:=es) (tt:=fun _ H Q=>Q true H) (fun i H6 ys=>∃ rs:List Addr,ys=rs.map V.ref∧Same H H6∧H6 D=some (.lst ys)∧Booked K H (ds.take i) rs) ⟨[],rfl,u0,upd_same,by rw [List.take_zero];exact .nil⟩ (fun i H6 ys ⟨rs,_,s6,hd,_⟩=>⟨SqL.of (s6 _ _ he),hd⟩) ?_ ?_
 ·rintro i v H6 ys kk hk hv ⟨rs,rfl,s6,hd6,Bk⟩
  have il:i<ds.length:=by rw [← hlen];exact (List.getElem?_eq_some_iff.mp hv).1
  obtain ⟨e,t,pb,wv,rfl,h1,h2,h3,_⟩:=En.ent i ds[i] v (List.getElem?_eq_getElem il) hv
  have lr:=Paired.length Bk
  refine iteT ?_
  refine ⟨_,rfl,_,_,_,_,rfl,rfl,SqT.of ((s6 _ _ h1)),rfl,hd6,(by rw [List.length_map,lr,List.length_take];exact small1000 (by omega)),hk _ _ ⟨rs++[t],by rw [List.map_append];rfl,fun b o h=>by rw [upd_ne (ne_of_none h hD)];exact s6 b o h,upd_same,?_⟩⟩
  rw [List.take_add_one,List.getElem?_eq_getElem il]
  exact Paired.snoc Bk ⟨wv,h2,h3⟩
 ·rintro H6 ys ⟨rs,rfl,s6,hd6,Bk⟩
  rw [hlen,List.take_length] at Bk
  exact q D rs H6 s6 hD hd6 (Bk.tups (Same.tups s6))

theorem d_m_Lathe_book (T:Txt K mg):MethOk P w K mg base (cOf mg "Lathe") "book" ["self"] 9 (spAsk K mg (tellBook K)):=by
 obtain ⟨f,fd,F,hm,hb⟩:=T.hm_Lathe_book
 refine ⟨f,fd,F.ok1 sc_m_Lathe_book (fun vs H Q E h=>?_) (fun cdv A outer s H vs Q E hr h=>?_),hm,T.cl_Lathe,hb⟩
 ·obtain ⟨a,l,F,rfl,_⟩:=h
  rfl
 obtain ⟨a,l,F,rfl,R0,q⟩:=h
 have R1:=R0
 obtain ⟨Fp,dx,s,pa,ra,rdx,ea,es,R⟩:=R1
 refine ⟨_,(@pss_one _ _ _ (@ps_ret _ _ _ _ (pe_methX0 (d_m_Book_deeds T) hr (passOut out_cx) (pe_fld (pv 0) rfl)))),?_⟩
 refine ⟨_,rfl,_,_,_,_,_,rfl,R.ob,T.cl_Lathe,T.na_Lathe_record,rfl,ra,rdx,_,rfl,R.bo,rfl,ra,rdx,ea,es,Fp,l.book,rfl,R.bo,R.he,R.en,R.re.len,fun D rs H' s' nD hD B=>?_⟩
 exact q _ H' F (R0.same s') (Fit.of_same s') ⟨D,rfl,nD,(fun z=>by obtain ⟨o,h⟩:=R0.at_ z;rw [nD] at h;cases h),rs,hD,B⟩

def spSafeM:Sp:=fun vs H Q _=>∃ (r:Addr) (t b n:Int),vs=[.ref r,.int n]∧H r=some (.tup [.int t,.int b])∧Rat2 t b∧2≤n∧n≤64 ∧
 ∀ (D:Addr) (H':Hp),Same H H'→H D=none→H' D=some (.lst ((marksL n.toNat (safeB (ltN t b) n)).map V.int))→Q (.ref D) H'
theorem d_f_safe_marks (T:Txt K mg):DefOk P w K mg base "safe_marks" ["ratio","teeth"] 5 spSafeM:=by
 obtain ⟨f,fd,F,hm,hb⟩:=T.h_f_safe_marks
 refine ⟨f,fd,F.ok sc_f_safe_marks (fun vs H Q E h=>?_) (fun cdv A outer s H vs Q E hr h=>?_),hm,F.kp,hb⟩
 ·obtain ⟨r,t,b,n,rfl,_⟩:=h
  rfl
 obtain ⟨r,t,b,n,rfl,hR,R,n0,n1,q⟩:=h
 refine ⟨_,(@pss_one _ _ _ (@ps_ret _ _ _ _ (pe_comp1 rfl (sc:=defScope s_f_safe_marks) rfl (N:=["ratio","teeth"]) rfl ⟨by decide +kernel,rfl,by decide +kernel,by decide +kernel,rfl,by decide +kernel,by decide +kernel,by decide +kernel⟩ (pi_range1 (by rfl) T.z_range (pa_cons (pv 1) pa_nil)) (fun _ _ _ _ _ _=>(pt_cmp (pc_isN (pe_callD (d_f_spoiling_at T) hr (pa_cons (pv 1) (pa_cons (pv 2) (pa_cons (pv 0) pa_nil))))))) (fun _ _ _ _ _ _=>(pv 0))))),?_⟩
 refine ⟨_,rfl,n,rfl,by omega,by omega,?_⟩
 intro D hD
 refine comp_range (lo:=0) (n:=n.toNat) (fun i H' ys=>ys=(marksL i (safeB (ltN t b) n)).map V.int∧Same H H'∧H' D=some (.lst ys)) ⟨rfl,same_new hD _,upd_same⟩ ?_ ?_
 ·rintro i H2 ys kk hk hi ⟨rfl,s2,hd2⟩
  refine ⟨hd2,?_⟩
  refine ⟨_,rfl,_,rfl,_,rfl,r,t,b,n,_,rfl,s2 _ _ hR,R,n0,n1,by omega,by omega,fun H3 s3=>?_⟩
  rw [Int.zero_add]
  have hd3:=s3 _ _ hd2
  have case1:∀ (b1:Bool),b1=safeB (ltN t b) n (i:Int)→(if b1=true then tVar 0 (some (V.int (i:Int))::[some (V.ref r),some (V.int n)]) H3 (fun v H5=>H5 D=some (.lst ((marksL i (safeB (ltN t b) n)).map V.int))∧((marksL i (safeB (ltN t b) n)).map V.int).length<sizeLine∧kk (upd H5 D (.lst ((marksL i (safeB (ltN t b) n)).map V.int++[v]))) ((marksL i (safeB (ltN t b) n)).map V.int++[v])) else kk H3 ((marksL i (safeB (ltN t b) n)).map V.int)):=by
   rintro b1 rfl
   refine iteBool (fun e=>?_) (fun e=>?_)
   ·obtain ⟨s',h'⟩:=due_step hD (s2.trans s3) e
    refine ⟨_,rfl,hd3,(by rw [List.length_map];exact small1000 (Nat.le_trans (marksL_len _ _) (by omega))),hk _ _ ⟨?_,s',upd_same⟩⟩
    rw [marksL_succ,if_pos e,List.map_append];rfl
   ·refine hk _ _ ⟨?_,s2.trans s3,hd3⟩
    rw [marksL_succ,if_neg (by rw [e];exact Bool.false_ne_true),List.append_nil]
  rcases spoil_cases (ltN t b) n (i:Int) with ⟨h1,h2,e⟩ | ⟨h,c,e⟩
  ·rw [e]
   exact ⟨_,rfl,case1 true (decide_eq_true ⟨h1,h2⟩).symm⟩
  ·rw [e]
   exact ⟨_,rfl,case1 false (decide_eq_false h).symm⟩
 ·rintro H2 ys ⟨rfl,s2,hd2⟩
  exact ⟨hd2,q D H2 s2 hD hd2⟩

def spInv:Sp:=fun vs H Q _=>∃ (n p:Int),vs=[.int n,.int p]∧1≤p∧p≤20000∧Int.gcd p n=1∧∀ c:Int,0≤c→c<p→p ∣ c * n - 1→Q (.int c) H
theorem d_f_inverse_of (T:Txt K mg):DefOk P w K mg base "inverse_of" ["number","modulus"] 1 spInv:=by
 obtain ⟨f,fd,F,hm,hb⟩:=T.h_f_inverse_of
 refine ⟨f,fd,F.ok sc_f_inverse_of (fun vs H Q E h=>?_) (fun cdv A outer s H vs Q E hr h=>?_),hm,F.kp,hb⟩
 ·obtain ⟨n,p,rfl,_⟩:=h
  rfl
 obtain ⟨n,p,rfl,p1,p2,co,q⟩:=h
 refine ⟨_,(@pss_cons _ _ _ _ _ (@ps_set _ _ 2 _ _ _ _ sc_f_inverse_of.nd rfl (Or.inl rfl) (pv 1) (by rfl) (by first | exact .inl rfl | exact .inr rfl))
 (@pss_cons _ _ _ _ _ (@ps_set _ _ 3 _ _ _ _ sc_f_inverse_of.nd rfl (Or.inl rfl) pe_int (by rfl) (by first | exact .inl rfl | exact .inr rfl))
 (@pss_cons _ _ _ _ _ (@ps_set _ _ 4 _ _ _ _ sc_f_inverse_of.nd rfl (Or.inl rfl) (pe_op op_mod (pv 0) (pv 1)) (by rfl) (by first | exact .inl rfl | exact .inr rfl))
 (@pss_cons _ _ _ _ _ (@ps_set _ _ 5 _ _ _ _ sc_f_inverse_of.nd rfl (Or.inl rfl) pe_int (by rfl) (by first | exact .inl rfl | exact .inr rfl))
 (@pss_cons _ _ _ _ _ (ps_while PassesOwn.never (pt_cmp (pc_neI (pv 4) pe_int))
 (@pss_cons _ _ _ _ _ (@ps_set _ _ 6 _ _ _ _ sc_f_inverse_of.nd rfl (Or.inl rfl) (pe_op op_fdivP (pv 2) (pv 4)) (by rfl) (by first | exact .inl rfl | exact .inr rfl))
 (@pss_cons _ _ _ _ _ (@ps_set _ _ 7 _ _ _ _ sc_f_inverse_of.nd rfl (Or.inl rfl) (pv 2) (by rfl) (by first | exact .inl rfl | exact .inr rfl))
 (@pss_cons _ _ _ _ _ (@ps_set _ _ 8 _ _ _ _ sc_f_inverse_of.nd rfl (Or.inl rfl) (pv 3) (by rfl) (by first | exact .inl rfl | exact .inr rfl))
 (@pss_cons _ _ _ _ _ (@ps_set _ _ 2 _ _ _ _ sc_f_inverse_of.nd rfl (Or.inl rfl) (pv 4) (by rfl) (by first | exact .inl rfl | exact .inr rfl))
 (@pss_cons _ _ _ _ _ (@ps_set _ _ 3 _ _ _ _ sc_f_inverse_of.nd rfl (Or.inl rfl) (pv 5) (by rfl) (by first | exact .inl rfl | exact .inr rfl))
 (@pss_cons _ _ _ _ _ (@ps_set _ _ 4 _ _ _ _ sc_f_inverse_of.nd rfl (Or.inl rfl) (pe_op op_sub (pv 7) (pe_op op_mulX (pv 6) (pv 2))) (by rfl) (by first | exact .inl rfl | exact .inr rfl))
 (@pss_one _ _ _ (@ps_set _ _ 5 _ _ _ _ sc_f_inverse_of.nd rfl (Or.inl rfl) (pe_op op_sub (pv 8) (pe_op op_mulX (pv 6) (pv 3))) (by rfl) (by first | exact .inl rfl | exact .inr rfl))))))))))
 (@pss_one _ _ _ (@ps_ret _ _ _ _ (pe_op op_mod (pv 3) (pv 1))))))))),?_⟩
 have p0:0<p:=by omega
 have m0:=Int.emod_nonneg n (Int.ne_of_gt p0)
 have m1:=Int.emod_lt_of_pos n p0
 refine ⟨_,rfl,_,rfl,_,rfl,_,_,rfl,rfl,p0,?_⟩
 refine ⟨fun m σ H'=>∃ (a f x g:Int) (s1 s2 s3:Option V),σ=[some (.int n),some (.int p),some (.int a),some (.int f),some (.int x),some (.int g),s1,s2,s3]∧H'=H∧0≤a∧a≤20000∧0≤x∧x≤20000∧Int.gcd a x=1∧p ∣ f * n - a∧p ∣ g * n - x∧m=x.toNat,
  ⟨_,p,0,n % p,1,none,none,none,rfl,rfl,by omega,p2,m0,by omega,?_,?_,?_,rfl⟩,?_⟩
 ·rw [gcd_step,Int.gcd_comm];exact co
 ·exact ⟨-1,by omega⟩
 ·have:=Int.emod_add_mul_ediv n p
  exact ⟨n / p,by omega⟩
 rintro m σ H' ⟨a,f,x,g,s1,s2,s3,rfl,rfl,a0,a1,x0,x1,hg,d1,d2,rfl⟩
 refine ⟨_,rfl,_,_,rfl,rfl,_,rfl,?_⟩
 by_cases c:x=0
 ·subst c
  refine iteNS rfl ?_
  rw [Int.gcd_zero_right] at hg
  have e:a=1:=by omega
  subst e
  refine ⟨_,rfl,_,rfl,_,_,rfl,rfl,p0,?_⟩
  refine q _ (Int.emod_nonneg _ (Int.ne_of_gt p0)) (Int.emod_lt_of_pos _ p0) ?_
  have dv:=Int.emod_add_mul_ediv f p
  have e:f % p * n - 1=(f * n - 1) - p * (f / p * n):=by
   generalize f % p=y at *
   generalize f / p=z at *
   rw [← dv];grind
  rw [e]
  exact Int.dvd_sub d1 (Int.dvd_mul_right _ _)
 ·refine ite2 (fun _=>?_) (fun z=>absurd (by simp [c]) z)
  have x2:0<x:=by omega
  have hd:=Int.emod_add_mul_ediv a x
  have r0:=Int.emod_nonneg a (Int.ne_of_gt x2)
  have r1:=Int.emod_lt_of_pos a x2
  have k0:=Int.ediv_nonneg a0 x0
  have k1:=Int.ediv_le_self x a0
  refine ⟨fun σ' H''=>∃ (a f y g:Int) (s1 s2 s3:Option V),σ'=[some (.int n),some (.int p),some (.int a),some (.int f),some (.int y),some (.int g),s1,s2,s3]∧H''=H'∧0≤a∧a≤20000∧0≤y∧y≤20000∧Int.gcd a y=1∧p ∣ f * n - a∧p ∣ g * n - y∧y.toNat<x.toNat,?_,?_⟩
  ·rintro σ' H'' ⟨a,f,y,g,s1,s2,s3,rfl,rfl,h0,h1,h2,h3,h4,h5,h6,h7⟩
   exact ⟨_,h7,a,f,y,g,s1,s2,s3,rfl,rfl,h0,h1,h2,h3,h4,h5,h6,rfl⟩
  ·refine ⟨_,rfl,_,rfl,_,_,rfl,rfl,⟨x2,(bd20 x0 x1).mono (by decide)⟩,_,rfl,_,rfl,_,rfl,_,rfl,_,rfl,_,rfl,_,rfl,_,_,rfl,rfl,.inl (.inl ⟨by omega,by omega⟩),_,_,rfl,rfl,_,rfl,_,rfl,_,rfl,_,_,rfl,rfl,.inl (.inl ⟨by omega,by omega⟩),_,_,rfl,rfl,?_⟩
   have e:a - a / x * x=a % x:=by rw [Int.mul_comm (a / x) x];omega
   refine ⟨x,g,a - a / x * x,f - a / x * g,_,_,_,rfl,rfl,by omega,by omega,by rw [e];exact r0,by rw [e];omega,?_,d2,?_,by rw [e];omega⟩
   ·rw [e,gcd_step];exact hg
   ·have e2:(f - a / x * g) * n - (a - a / x * x)=(f * n - a) - a / x * (g * n - x):=by
     generalize a / x=k at *
     grind
    rw [e2]
    exact Int.dvd_sub d1 (Int.dvd_trans d2 (Int.dvd_mul_left _ _))

def spLeast:Sp:=fun vs H Q _=>∃ (r:Addr) (t b g:Int),vs=[.ref r,.int g]∧H r=some (.tup [.int t,.int b])∧Rat2 t b∧0≤g∧g<ltN t b ∧
 ∀ (c:Int) (H':Hp),Same H H'→0≤c→c<ltN t b→c * ltD t b % ltN t b=g→Q (.int c) H'
theorem d_f_least_closing (T:Txt K mg):DefOk P w K mg base "least_closing" ["ratio","groove"] 4 spLeast:=by
 obtain ⟨f,fd,F,hm,hb⟩:=T.h_f_least_closing
 refine ⟨f,fd,F.ok sc_f_least_closing (fun vs H Q E h=>?_) (fun cdv A outer s H vs Q E hr h=>?_),hm,F.kp,hb⟩
 ·obtain ⟨r,t,b,g,rfl,_⟩:=h
  rfl
 obtain ⟨r,t,b,g,rfl,hR,R,g0,g1,q⟩:=h
 refine ⟨_,(@pss_cons _ _ _ _ _ (@ps_set _ _ 2 _ _ _ _ sc_f_least_closing.nd rfl (Or.inl rfl) (pe_callD (d_f_least_terms T) hr (pa_cons (@pe_ix _ _ _ _ _ _ _ ix_tup (pv 0) pe_int (fun _ _=>rfl)) (pa_cons (@pe_ix _ _ _ _ _ _ _ ix_tup (pv 0) pe_int (fun _ _=>rfl)) pa_nil))) (by rfl) (by first | exact .inl rfl | exact .inr rfl))
 (@pss_one _ _ _ (@ps_ret _ _ _ _ (pe_op op_mod (pe_op op_mulX (pv 1) (pe_callD (d_f_inverse_of T) hr (pa_cons (@pe_ix _ _ _ _ _ _ _ ix_tup (pv 2) pe_int (fun _ _=>rfl)) (pa_cons (@pe_ix _ _ _ _ _ _ _ ix_tup (pv 2) pe_int (fun _ _=>rfl)) pa_nil)))) (@pe_ix _ _ _ _ _ _ _ ix_tup (pv 2) pe_int (fun _ _=>rfl)))))),?_⟩
 have L:=R.pl
 have p1:=L.p1
 have p2:=L.p2
 have b1:=R.b1
 have co:=L.co
 have bg:Bd 64 g:=bd20 g0 (by omega)
 refine ⟨_,rfl,_,_,_,_,rfl,rfl,SqT.of (hR),rfl,_,rfl,_,_,_,_,rfl,rfl,SqT.of (hR),rfl,_,_,rfl,by omega,R.bb.mono (by decide),fun p hp=>?_⟩
 refine ⟨_,rfl,_,rfl,_,_,_,_,rfl,rfl,SqT.of (upd_same),rfl,_,rfl,_,_,_,_,rfl,rfl,SqT.of (upd_same),rfl,_,_,rfl,p1,p2,co,fun c c0 c1 dv=>?_⟩
 refine ⟨_,_,rfl,rfl,.inl (.inl ⟨by omega,by omega⟩),_,rfl,_,_,_,_,rfl,rfl,SqT.of (upd_same),rfl,_,_,rfl,rfl,by omega,?_⟩
 have p0:0<ltN t b:=by omega
 refine q _ _ (same_new hp _) (Int.emod_nonneg _ (Int.ne_of_gt p0)) (Int.emod_lt_of_pos _ p0) ((groove_iff p0 g0 g1).mp (Int.emod_eq_zero_of_dvd ?_))
 have hd:=Int.emod_add_mul_ediv (g * c) (ltN t b)
 generalize ltN t b=x at *
 generalize ltD t b=y at *
 generalize g * c % x=u at *
 generalize hv:g * c / x=v at *
 have e:u * y - g=(c * y - 1) * g - x * (v * y):=by
  have hu:u=g * c - x * v:=by omega
  rw [hu];grind
 rw [e]
 exact Int.dvd_sub (Int.dvd_trans dv (Int.dvd_mul_right _ _)) (Int.dvd_mul_right _ _)

def spMarks:Sp:=fun vs H Q _=>∃ (r:Addr) (t b n g:Int),vs=[.ref r,.int n,.int g]∧H r=some (.tup [.int t,.int b])∧Rat2 t b∧2≤n∧n≤64∧0≤g∧g<ltN t b ∧
 ∀ (c:Int) (D:Addr) (H':Hp),0≤c→c<ltN t b→c * ltD t b % ltN t b=g→Same H H'→H D=none→H' D=some (.lst ((marksL n.toNat (shB (ltN t b) n c n.toNat)).map V.int))→Q (.ref D) H'
theorem d_f_marks_of (T:Txt K mg):DefOk P w K mg base "marks_of" ["ratio","teeth","groove"] 5 spMarks:=by
 obtain ⟨f,fd,F,hm,hb⟩:=T.h_f_marks_of
 refine ⟨f,fd,F.ok sc_f_marks_of (fun vs H Q E h=>?_) (fun cdv A outer s H vs Q E hr h=>?_),hm,F.kp,hb⟩
 ·obtain ⟨r,t,b,n,g,rfl,_⟩:=h
  rfl
 obtain ⟨r,t,b,n,g,rfl,hR,R,n0,n1,g0,g1,q⟩:=h
 refine ⟨_,(@pss_cons _ _ _ _ _ (@ps_set _ _ 3 _ _ _ _ sc_f_marks_of.nd rfl (Or.inl rfl) (pe_callD (d_f_greatest_divisor T) hr (pa_cons (pe_callD (d_f_top_of T) hr (pa_cons (pv 0) pa_nil)) (pa_cons (pv 1) pa_nil))) (by rfl) (by first | exact .inl rfl | exact .inr rfl))
 (@pss_one _ _ _ (@ps_ret _ _ _ _ (pe_callTy (call_list_rangeO rfl) (by rfl) T.z_list PyProof.Rows.boot_list (pa_cons (pe_callTy call_range3O (by rfl) T.z_range PyProof.Rows.boot_range (pa_cons (pe_op op_mod (pe_callD (d_f_least_closing T) hr (pa_cons (pv 0) (pa_cons (pv 2) pa_nil))) (pv 3)) (pa_cons (pv 1) (pa_cons (pv 3) pa_nil)))) pa_nil))))),?_⟩
 have L:=R.pl
 have p1:=L.p1
 refine ⟨_,rfl,r,t,b,rfl,hR,R,fun H1 s1=>?_⟩
 refine ⟨_,rfl,_,_,rfl,by omega,by omega,?_⟩
 refine ⟨_,rfl,_,rfl,r,t,b,g,rfl,s1 _ _ hR,R,g0,g1,fun c H2 s2 c0 c1 hc=>?_⟩
 have gp:0<Int.gcd (ltN t b) n:=Int.gcd_pos_iff.mpr (.inr (by omega))
 have gl:Int.gcd (ltN t b) n≤n.natAbs:=Nat.le_of_dvd (by omega) (Int.natCast_dvd_natCast.mp (by rw [Int.natAbs_of_nonneg (show 0≤n by omega)];exact Int.gcd_dvd_right (ltN t b) n))
 obtain ⟨N,hN,hl,hm⟩:=marks_step (n:=n) (c:=c) (by omega) p1 c0
 have a0:=Int.emod_nonneg c (show ((Int.gcd (ltN t b) n:Nat):Int)≠0 by omega)
 have a1:=Int.emod_lt_of_pos c (show 0<((Int.gcd (ltN t b) n:Nat):Int) by omega)
 refine ⟨_,rfl,_,_,rfl,rfl,by omega,_,rfl,_,rfl,_,_,_,rfl,by omega,by omega,fun x hx=>?_⟩
 have s3:=same_new hx (RngO x (c % ((Int.gcd (ltN t b) n:Nat):Int)) n ((Int.gcd (ltN t b) n:Nat):Int))
 refine ⟨x,_,_,_,N,rfl,upd_same,small_pos (N:Int) a0 (by omega) (by omega) (by omega) (by omega) (by omega) hN (by omega) (by omega),hN,by omega,fun l hl'=>?_⟩
 have s4:=same_new hl' (.lst ((List.range N).map fun (i:Nat)=>V.int (c % ((Int.gcd (ltN t b) n:Nat):Int) + i * ((Int.gcd (ltN t b) n:Nat):Int))))
 refine q c l _ c0 c1 hc (s1.trans (s2.trans (s3.trans s4))) ((s1.trans (s2.trans s3)).free hl') ?_
 rw [upd_same,hm,List.map_map]
 rfl

def spPairs (K:PySem.W.Frag):Sp:=fun vs H Q _=>∃ (t:Addr) (ts:List Int),vs=[.ref t]∧SqL K H t (ts.map V.int)∧ts.length≤12∧∀ (D:Addr) (H':Hp),Same H H'→H D=none→TL H' D (pairsM ts)→(pairsM ts).length≤144→Q (.ref D) H'
theorem d_f_pairs_of (T:Txt K mg):DefOk P w K mg base "pairs_of" ["teeth"] 1 (spPairs K):=by
 obtain ⟨f,fd,F,hm,hb⟩:=T.h_f_pairs_of
 refine ⟨f,fd,F.ok sc_f_pairs_of (fun vs H Q E h=>?_) (fun cdv A outer s H vs Q E hr h=>?_),hm,F.kp,hb⟩
 ·obtain ⟨t,ts,rfl,_⟩:=h
  rfl
 obtain ⟨t,ts,rfl,hS,h12,q⟩:=h
 refine ⟨_,(@pss_cons _ _ _ _ _ (@ps_set _ _ 1 _ _ _ _ sc_f_pairs_of.nd rfl (Or.inl rfl) (@pe_lst _ _ _ _ pa_nil) (by rfl) (by first | exact .inl rfl | exact .inr rfl))
 (@pss_cons _ _ _ _ _ (ps_for PassesOwn.never rfl (pi_list (pv 0)) (pg_name (i:=2) sc_f_pairs_of.nd rfl (Or.inl rfl))
 (@pss_one _ _ _ (ps_for PassesOwn.never rfl (pi_list (pv 0)) (pg_name (i:=3) sc_f_pairs_of.nd rfl (Or.inl rfl))
 (@pss_one _ _ _ (ps_if (pt_cmp (pc_neI (pv 2) (pv 3)))
 (@pss_one _ _ _ (ps_expr (pe_bm PySem.F.plainAttrs_list PySem.F.slot_list_append PySem.F.type_list_append mt_append (pv 1) (pa_cons (@pe_tup _ _ _ _ _ (pa_cons (pv 2) (pa_cons (pv 3) pa_nil))) pa_nil))))
 pss_nil)))))
 (@pss_one _ _ _ (@ps_ret _ _ _ _ (pv 1))))),?_⟩
 have hlen:(ts.map V.int).length=ts.length:=List.length_map _
 refine ⟨(by show 0≤sizeLine;decide),fun D hD=>?_⟩
 refine ⟨_,rfl,t,rfl,⟨_,(same_new hD _).seq hS⟩,for_list (K:=K) (a:=t) (xs:=ts.map V.int) (fun i σ H'=>∃ u v,σ=[some (.ref t),some (.ref D),u,v]∧Same H H'∧TL H' D ((ts.take i).flatMap (rowM ts))∧((ts.take i).flatMap (rowM ts)).length≤12 * i)
  ⟨none,none,rfl,same_new hD _,⟨[],upd_same,.nil⟩,Nat.le_refl _⟩ (fun i σ H' _ ⟨_,_,_,s,_⟩=>s.seq hS) ?_ ?_⟩
 ·rintro i x σ H' hx ⟨u,v,rfl,s,tl,hl⟩
  obtain ⟨a,rfl,ha⟩:=int_at hx
  have hi:i<ts.length:=(List.getElem?_eq_some_iff.mp ha).1
  refine ⟨_,rfl,t,rfl,⟨_,s.seq hS⟩,for_list (K:=K) (a:=t) (xs:=ts.map V.int) (fun j σ H2=>∃ v,σ=[some (.ref t),some (.ref D),some (.int a),v]∧Same H H2∧TL H2 D ((ts.take i).flatMap (rowM ts)++((ts.take j).filter fun b=>decide (a≠b)).map fun b=>[a,b])∧((ts.take i).flatMap (rowM ts)++((ts.take j).filter fun b=>decide (a≠b)).map fun b=>[a,b]).length≤12 * i + j)
   ⟨v,rfl,s,by simpa using tl,by simpa using hl⟩ (fun j σ H2 _ ⟨_,_,s2,_⟩=>s2.seq hS) ?_ ?_⟩
  ·rintro j y σ H2 hy ⟨v,rfl,s2,tl2,hl2⟩
   obtain ⟨b,rfl,hb'⟩:=int_at hy
   have hj:j<ts.length:=(List.getElem?_eq_some_iff.mp hb').1
   refine ⟨_,rfl,_,rfl,_,_,rfl,rfl,_,rfl,?_⟩
   refine iteND (fun ne=>?_) (fun eq=>?_)
   ·obtain ⟨rs,h1,h2⟩:=tl2
    have hz:(rs.map V.ref).length<sizeLine:=by rw [List.length_map,Paired.length h2];exact big (by omega)
    refine ⟨_,rfl,.inl ⟨rfl,_,SqL.of h1⟩,_,rfl,_,rfl,(by show 2≤sizeLine;decide),fun r hr'=>?_⟩
    refine ⟨D,_,_,rfl,rfl,(by rw [upd_ne (ne_of_none h1 hr')];exact h1),hz,?_⟩
    have e:((ts.take (j + 1)).filter fun b=>decide (a≠b)).map (fun b=>[a,b])=((ts.take j).filter fun b=>decide (a≠b)).map (fun b=>[a,b])++[[a,b]]:=by
     rw [take_more hb',List.filter_append,List.map_append]
     simp [ne]
    refine ⟨_,rfl,same_push s2 hD hr',?_,?_⟩
    ·rw [e,← List.append_assoc]
     exact TL.push (t:=[a,b]) h1 h2 hr'
    ·rw [e,← List.append_assoc,List.length_append,List.length_singleton]
     omega
   ·have e:((ts.take (j + 1)).filter fun b=>decide (a≠b)).map (fun b=>[a,b])=((ts.take j).filter fun b=>decide (a≠b)).map (fun b=>[a,b]):=by
     rw [take_more hb',List.filter_append,List.map_append]
     simp [eq]
    refine ⟨_,rfl,s2,?_,?_⟩
    ·rw [e];exact tl2
    ·rw [e];omega
  ·rintro σ H2 ⟨v,rfl,s2,tl2,hl2⟩
   rw [hlen,List.take_length] at tl2 hl2
   refine ⟨_,_,rfl,s2,?_,?_⟩
   ·rw [take_more ha,List.flatMap_append];simpa [rowM] using tl2
   ·rw [take_more ha,List.flatMap_append]
    have:(((ts.take i).flatMap (rowM ts))++[a].flatMap (rowM ts)).length=((ts.take i).flatMap (rowM ts)++(ts.filter fun b=>decide (a≠b)).map fun b=>[a,b]).length:=by simp [rowM]
    rw [this];omega
 ·rintro σ H' ⟨u,v,rfl,s,tl,hl⟩
  rw [hlen,List.take_length] at tl hl
  exact ⟨_,rfl,q D H' s hD tl (Nat.le_trans hl (by omega))⟩

def spFours:Sp:=fun vs H Q _=>∃ (t:Addr) (ps:List (List Int)),vs=[.ref t]∧TL H t ps∧ps.length≤144∧(∀ p∈ps,∃ x y,p=[x,y])∧∀ (D:Addr) (H':Hp),Same H H'→H D=none→TL H' D (foursM ps)→(foursM ps).length≤20736→Q (.ref D) H'
theorem d_f_fours_of (T:Txt K mg):DefOk P w K mg base "fours_of" ["pairs"] 1 spFours:=by
 obtain ⟨f,fd,F,hm,hb⟩:=T.h_f_fours_of
 refine ⟨f,fd,F.ok sc_f_fours_of (fun vs H Q E h=>?_) (fun cdv A outer s H vs Q E hr h=>?_),hm,F.kp,hb⟩
 ·obtain ⟨t,ps,rfl,_⟩:=h
  rfl
 obtain ⟨t,ps,rfl,⟨rs,hS,hP⟩,h144,sh,q⟩:=h
 refine ⟨_,(@pss_cons _ _ _ _ _ (@ps_set _ _ 1 _ _ _ _ sc_f_fours_of.nd rfl (Or.inl rfl) (@pe_lst _ _ _ _ pa_nil) (by rfl) (by first | exact .inl rfl | exact .inr rfl))
 (@pss_cons _ _ _ _ _ (ps_for PassesOwn.never rfl (pi_list (pv 0)) (pg_name (i:=2) sc_f_fours_of.nd rfl (Or.inl rfl))
 (@pss_one _ _ _ (ps_for PassesOwn.never rfl (pi_list (pv 0)) (pg_name (i:=3) sc_f_fours_of.nd rfl (Or.inl rfl))
 (@pss_one _ _ _ (ps_if (pw_and (pt_cmpR op_notIn_seq (@pe_ix _ _ _ _ _ _ _ ix_tup (pv 3) pe_int (fun _ _=>rfl)) (pv 2) (by with_unfolding_all rfl)) (pw_and1 (pt_cmpR op_notIn_seq (@pe_ix _ _ _ _ _ _ _ ix_tup (pv 3) pe_int (fun _ _=>rfl)) (pv 2) (by with_unfolding_all rfl)))).pt
 (@pss_one _ _ _ (ps_expr (pe_bm PySem.F.plainAttrs_list PySem.F.slot_list_append PySem.F.type_list_append mt_append (pv 1) (pa_cons (pe_op op_catT (pv 2) (pv 3)) pa_nil))))
 pss_nil)))))
 (@pss_one _ _ _ (@ps_ret _ _ _ _ (pv 1))))),?_⟩
 have hlen:(rs.map V.ref).length=ps.length:=by rw [List.length_map,Paired.length hP]
 refine ⟨(by show 0≤sizeLine;decide),fun D hD=>?_⟩
 refine ⟨_,rfl,t,rfl,⟨_,SqL.of ((same_new hD _) _ _ hS)⟩,for_list (K:=K) (a:=t) (xs:=rs.map V.ref) (fun i σ H'=>∃ u v,σ=[some (.ref t),some (.ref D),u,v]∧Same H H'∧TL H' D ((ps.take i).flatMap (rowF ps))∧((ps.take i).flatMap (rowF ps)).length≤144 * i)
  ⟨none,none,rfl,same_new hD _,⟨[],upd_same,.nil⟩,Nat.le_refl _⟩ (fun i σ H' _ ⟨_,_,_,s,_⟩=>SqL.of (s _ _ hS)) ?_ ?_⟩
 ·rintro i x σ H' hx ⟨u,v,rfl,s,tl,hl⟩
  obtain ⟨fr,f0,rfl,ha,hfr⟩:=tl_at hP hx
  have hi:i<ps.length:=(List.getElem?_eq_some_iff.mp ha).1
  obtain ⟨x1,x2,rfl⟩:=sh _ (List.mem_of_getElem? ha)
  refine ⟨_,rfl,t,rfl,⟨_,SqL.of (s _ _ hS)⟩,for_list (K:=K) (a:=t) (xs:=rs.map V.ref) (fun j σ H2=>∃ v,σ=[some (.ref t),some (.ref D),some (.ref fr),v]∧Same H H2∧TL H2 D ((ps.take i).flatMap (rowF ps)++((ps.take j).filter (okB [x1,x2])).map fun b=>[x1,x2]++b)∧((ps.take i).flatMap (rowF ps)++((ps.take j).filter (okB [x1,x2])).map fun b=>[x1,x2]++b).length≤144 * i + j)
   ⟨v,rfl,s,by simpa using tl,by simpa using hl⟩ (fun j σ H2 _ ⟨_,_,s2,_⟩=>SqL.of (s2 _ _ hS)) ?_ ?_⟩
  ·rintro j y σ H2 hy ⟨v,rfl,s2,tl2,hl2⟩
   obtain ⟨br,b0,rfl,hb',hbr⟩:=tl_at hP hy
   have hj:j<ps.length:=(List.getElem?_eq_some_iff.mp hb').1
   obtain ⟨y1,y2,rfl⟩:=sh _ (List.mem_of_getElem? hb')
   have F2:=s2 _ _ hfr
   have B2:=s2 _ _ hbr
   have skip:okB [x1,x2] [y1,y2]=false→((ps.take (j + 1)).filter (okB [x1,x2])).map (fun b=>[x1,x2]++b)=((ps.take j).filter (okB [x1,x2])).map (fun b=>[x1,x2]++b):=fun z=>by
    rw [take_more hb',List.filter_append,List.map_append]
    simp [z]
   have more:okB [x1,x2] [y1,y2]=true→((ps.take (j + 1)).filter (okB [x1,x2])).map (fun b=>[x1,x2]++b)=((ps.take j).filter (okB [x1,x2])).map (fun b=>[x1,x2]++b)++[[x1,x2,y1,y2]]:=fun z=>by
    rw [take_more hb',List.filter_append,List.map_append]
    simp [z]
   refine ⟨_,rfl,_,_,_,_,rfl,rfl,SqT.of (B2),rfl,_,rfl,fr,_,rfl,.inr (SqT.of F2),rfl,flat_ints [x1,x2],_,rfl,?_⟩
   dsimp only
   rw [if_pos rfl,in_ints]
   refine iteND (fun n1=>?_) (fun n1=>?_)
   ·refine ⟨_,rfl,_,_,_,_,rfl,rfl,SqT.of (B2),rfl,_,rfl,fr,_,rfl,.inr (SqT.of F2),rfl,flat_ints [x1,x2],_,rfl,?_⟩
    dsimp only
    rw [if_pos rfl,in_ints]
    refine iteND (fun n2=>?_) (fun n2=>?_)
    ·have z:okB [x1,x2] [y1,y2]=true:=by show (decide (y1 ∉ [x1,x2]) && decide (y2 ∉ [x1,x2]))=true;rw [show decide (y1 ∉ [x1,x2])=true from decide_eq_true n1,show decide (y2 ∉ [x1,x2])=true from decide_eq_true n2];rfl
     obtain ⟨qs,h1,h2⟩:=tl2
     have hz:(qs.map V.ref).length<sizeLine:=by rw [List.length_map,Paired.length h2];exact big (by omega)
     refine ⟨_,rfl,.inl ⟨rfl,_,SqL.of h1⟩,_,rfl,_,rfl,fr,br,_,_,rfl,rfl,SqT.of F2,SqT.of B2,by simp,(by show 4≤sizeLine;decide),fun z=>by simp at z,fun _ r hr'=>?_⟩
     refine ⟨D,_,_,rfl,rfl,(by rw [upd_ne (ne_of_none h1 hr')];exact h1),hz,?_⟩
     refine ⟨_,rfl,same_push s2 hD hr',?_,?_⟩
     ·rw [more z,← List.append_assoc]
      exact TL.push (t:=[x1,x2,y1,y2]) h1 h2 hr'
     ·rw [more z,← List.append_assoc,List.length_append,List.length_singleton]
      omega
    ·have z:okB [x1,x2] [y1,y2]=false:=by show (decide (y1 ∉ [x1,x2]) && decide (y2 ∉ [x1,x2]))=false;rw [show decide (y2 ∉ [x1,x2])=false from decide_eq_false (fun w=>w n2),Bool.and_false]
     exact ⟨_,rfl,s2,by rw [skip z];exact tl2,by rw [skip z];omega⟩
   ·have z:okB [x1,x2] [y1,y2]=false:=by show (decide (y1 ∉ [x1,x2]) && decide (y2 ∉ [x1,x2]))=false;rw [show decide (y1 ∉ [x1,x2])=false from decide_eq_false (fun w=>w n1),Bool.false_and]
    exact iteF ⟨_,rfl,s2,by rw [skip z];exact tl2,by rw [skip z];omega⟩
  ·rintro σ H2 ⟨v,rfl,s2,tl2,hl2⟩
   rw [hlen,List.take_length] at tl2 hl2
   refine ⟨_,_,rfl,s2,?_,?_⟩
   ·rw [take_more ha,List.flatMap_append];simpa [rowF] using tl2
   ·rw [take_more ha,List.flatMap_append]
    have:(((ps.take i).flatMap (rowF ps))++[[x1,x2]].flatMap (rowF ps)).length=((ps.take i).flatMap (rowF ps)++(ps.filter (okB [x1,x2])).map fun b=>[x1,x2]++b).length:=by simp [rowF]
    rw [this];omega
 ·rintro σ H' ⟨u,v,rfl,s,tl,hl⟩
  rw [hlen,List.take_length] at tl hl
  exact ⟨_,rfl,q D H' s hD tl (Nat.le_trans hl (by omega))⟩

def spAll (K:PySem.W.Frag):Sp:=fun vs H Q _=>∃ (a:Addr) (ws:List Int),vs=[.ref a]∧SqA K H a (ws.map V.int)∧ws.length≤12∧∀ (sw:List Int) (D:Addr) (H':Hp),sw.Perm ws→sw.Pairwise (·≤·)→Same H H'→H D=none→TL H' D (allT sw)→(allT sw).length≤30000→Q (.ref D) H'
theorem d_f_all_trains (T:Txt K mg):DefOk P w K mg base "all_trains" ["wheels"] 2 (spAll K):=by
 obtain ⟨f,fd,F,hm,hb⟩:=T.h_f_all_trains
 refine ⟨f,fd,F.ok sc_f_all_trains (fun vs H Q E h=>?_) (fun cdv A outer s H vs Q E hr h=>?_),hm,F.kp,hb⟩
 ·obtain ⟨a,ws,rfl,_⟩:=h
  rfl
 obtain ⟨a,ws,rfl,hA,h12,q⟩:=h
 refine ⟨_,(@pss_cons _ _ _ _ _ (@ps_set _ _ 1 _ _ _ _ sc_f_all_trains.nd rfl (Or.inl rfl) (pe_callD (d_f_pairs_of T) hr (pa_cons (pe_callB call_sorted_ints (by rfl) T.z_sorted PyProof.Rows.boot_sorted (pa_cons (pv 0) pa_nil)) pa_nil)) (by rfl) (by first | exact .inl rfl | exact .inr rfl))
 (@pss_one _ _ _ (@ps_ret _ _ _ _ (pe_op op_cat (pv 1) (pe_callD (d_f_fours_of T) hr (pa_cons (pv 1) pa_nil)))))),?_⟩
 refine ⟨_,rfl,a,ws,rfl,hA,by omega,fun l sw hp hs hl=>?_⟩
 have s1:=same_new hl (.lst (sw.map V.int))
 refine ⟨l,sw,rfl,SqL.of upd_same,by rw [hp.length_eq];exact h12,fun D H1 s2 nD tl hn=>?_⟩
 refine ⟨_,rfl,_,rfl,D,pairsM sw,rfl,tl,hn,fun p hp'=>?_,fun G H2 s3 nG tg hg=>?_⟩
 ·obtain ⟨x,y,_,_,_,rfl⟩:=mem_pairsM.mp hp'
  exact ⟨x,y,rfl⟩
 ·obtain ⟨r1,d1,p1⟩:=tl.mono s3
  obtain ⟨r2,d2,p2⟩:=tg
  refine ⟨D,G,_,_,rfl,rfl,d1,d2,?_,fun p hp'=>?_⟩
  ·rw [List.length_map,List.length_map,Paired.length p1,Paired.length p2]
   exact Nat.le_of_lt (big (by omega))
  ·have s4:=same_new hp' (.lst (r1.map V.ref++r2.map V.ref))
   have sAll:=s1.trans (s2.trans s3)
   refine q sw p _ hp hs (sAll.trans s4) (sAll.free hp') ⟨r1++r2,by rw [upd_same,List.map_append],pair_mono s4 (paired_app p1 p2)⟩ ?_
   unfold allT
   rw [List.length_append]
   omega

def spGives (K:PySem.W.Frag):Sp:=fun vs H Q _=>∃ (x r:Addr) (t:List Int) (p q:Int),vs=[.ref x,.ref r]∧SqA K H x (t.map V.int)∧Train t∧Pit H r p q∧∀ H',Same H H'→Q (.bl (decide (ratT t * q=p * ratB t))) H'
theorem d_f_gives (T:Txt K mg):DefOk P w K mg base "gives" ["train","pitch"] 2 (spGives K):=by
 obtain ⟨f,fd,F,hm,hb⟩:=T.h_f_gives
 refine ⟨f,fd,F.ok sc_f_gives (fun vs H Q E h=>?_) (fun cdv A outer s H vs Q E hr h=>?_),hm,F.kp,hb⟩
 ·obtain ⟨x,r,t,p,q,rfl,_⟩:=h
  rfl
 obtain ⟨x,r,t,p,qq,rfl,hx,R,Pi,q⟩:=h
 refine ⟨_,(@pss_cons _ _ _ _ _ (@ps_set _ _ 2 _ _ _ _ sc_f_gives.nd rfl (Or.inl rfl) (pe_callD (d_f_plain_ratio T) hr (pa_cons (pv 0) pa_nil)) (by rfl) (by first | exact .inl rfl | exact .inr rfl))
 (@pss_one _ _ _ (@ps_ret _ _ _ _ (pe_cmp (pc_eqI (pe_op op_mulX (@pe_ix _ _ _ _ _ _ _ ix_tup (pv 2) pe_int (fun _ _=>rfl)) (@pe_ix _ _ _ _ _ _ _ ix_tup (pv 1) pe_int (fun _ _=>rfl))) (pe_op op_mulX (@pe_ix _ _ _ _ _ _ _ ix_tup (pv 1) pe_int (fun _ _=>rfl)) (@pe_ix _ _ _ _ _ _ _ ix_tup (pv 2) pe_int (fun _ _=>rfl)))))))),?_⟩
 refine ⟨_,rfl,x,t,rfl,hx,R,fun n hn=>?_⟩
 have s1:=same_new hn (.tup [.int (ratT t),.int (ratB t)])
 have P1:=Pi.mono s1
 exact ⟨_,rfl,_,_,_,_,rfl,rfl,SqT.of (upd_same),rfl,_,rfl,_,_,_,_,rfl,rfl,SqT.of (P1.at_),rfl,_,_,rfl,rfl,.inr ⟨R.bT.mono (by decide),P1.bq.mono (by decide)⟩,_,rfl,_,_,_,_,rfl,rfl,SqT.of (P1.at_),rfl,_,rfl,_,_,_,_,rfl,rfl,SqT.of (upd_same),rfl,_,_,rfl,rfl,.inr ⟨P1.bp.mono (by decide),R.bB.mono (by decide)⟩,_,_,rfl,rfl,q _ s1⟩

def spTrains (K:PySem.W.Frag):Sp:=fun vs H Q _=>∃ (a r:Addr) (ws:List Int) (p q:Int),vs=[.ref a,.ref r]∧SqA K H a (ws.map V.int)∧Shop ws∧ws.length≤12∧Pit H r p q ∧
 ∀ (sw:List Int) (D:Addr) (H':Hp),sw.Perm ws→sw.Pairwise (·≤·)→Same H H'→H D=none→TL H' D ((allT sw).filter (exB p q))→(allT sw).length≤30000→Q (.ref D) H'
theorem d_f_trains_for (T:Txt K mg):DefOk P w K mg base "trains_for" ["wheels","pitch"] 3 (spTrains K):=by
 obtain ⟨f,fd,F,hm,hb⟩:=T.h_f_trains_for
 refine ⟨f,fd,F.ok sc_f_trains_for (fun vs H Q E h=>?_) (fun cdv A outer s H vs Q E hr h=>?_),hm,F.kp,hb⟩
 ·obtain ⟨a,r,ws,p,q,rfl,_⟩:=h
  rfl
 obtain ⟨a,r,ws,p,qq,rfl,hA,S,l12,Pi,q⟩:=h
 refine ⟨_,(@pss_one _ _ _ (@ps_ret _ _ _ _ (pe_comp1 rfl (sc:=defScope s_f_trains_for) rfl (N:=["wheels","pitch"]) rfl ⟨by decide +kernel,rfl,by decide +kernel,by decide +kernel,rfl,by decide +kernel,by decide +kernel,by decide +kernel⟩ (pi_list (pe_callD (d_f_all_trains T) hr (pa_cons (pv 0) pa_nil))) (fun _ _ _ _ _ _=>(pt_val (pe_callD (d_f_gives T) hr (pa_cons (pv 0) (pa_cons (pv 2) pa_nil))))) (fun _ _ _ _ _ _=>(pv 0))))),?_⟩
 refine ⟨_,rfl,a,ws,rfl,hA,l12,fun sw G H1 hp hs s1 nG tl hn=>?_⟩
 have tr:=allT_train (ts:=sw) (fun v hv=>S.lo v (hp.mem_iff.mp hv)) (fun v hv=>S.hi v (hp.mem_iff.mp hv))
 obtain ⟨rs,hG,hP⟩:=tl
 have hlen:(rs.map V.ref).length=(allT sw).length:=by rw [List.length_map,Paired.length hP]
 refine ⟨G,rfl,⟨_,SqL.of hG⟩,fun D hD=>?_⟩
 have u0:=same_new hD (.lst [])
 refine comp_list (K:=K) (a:=G) (xs:=rs.map V.ref) (fun i H2 ys=>∃ qs,ys=qs.map V.ref∧Same H1 H2∧H2 D=some (.lst ys)∧Paired (fun r t=>H2 r=some (.tup (t.map V.int))) qs (((allT sw).take i).filter (exB p qq))∧qs.length≤i)
  ⟨[],rfl,u0,upd_same,.nil,Nat.le_refl _⟩ (fun i H2 ys ⟨_,_,s2,hd,_⟩=>⟨SqL.of (s2 _ _ hG),hd⟩) ?_ ?_
 ·rintro i x H2 ys kk hk hx ⟨qs,rfl,s2,hd,pq,hql⟩
  obtain ⟨tr',t,rfl,ht,htr⟩:=tl_at hP hx
  have mt:t∈allT sw:=List.mem_of_getElem? ht
  have hi:i<(allT sw).length:=(List.getElem?_eq_some_iff.mp ht).1
  have tk:=take_more ht
  refine ⟨_,rfl,_,rfl,tr',r,t,p,qq,rfl,.inr (SqT.of (s2 _ _ htr)),tr t mt,Pi.mono (s1.trans s2),fun H3 s3=>⟨_,rfl,?_⟩⟩
  have hd3:=s3 _ _ hd
  refine iteD (fun e=>?_) (fun e=>?_)
  ·refine ⟨_,rfl,hd3,(by rw [List.length_map];exact big (by omega)),hk _ _ ⟨qs++[tr'],by rw [List.map_append];rfl,fun b o hb=>?_,upd_same,?_,by rw [List.length_append,List.length_singleton];omega⟩⟩
   ·rw [upd_ne (ne_of_none hb hD)];exact s3 _ _ (s2 _ _ hb)
   ·have ef:((allT sw).take (i + 1)).filter (exB p qq)=((allT sw).take i).filter (exB p qq)++[t]:=by
     rw [tk,List.filter_append]
     simp [exB,e]
    rw [ef]
    exact pair_upd1 hd3 (paired_app (pair_mono s3 pq) (paired_one (s3 _ _ (s2 _ _ htr))))
  ·refine hk _ _ ⟨qs,rfl,s2.trans s3,hd3,?_,by omega⟩
   have ef:((allT sw).take (i + 1)).filter (exB p qq)=((allT sw).take i).filter (exB p qq):=by
    rw [tk,List.filter_append]
    simp [exB,e]
   rw [ef]
   exact pair_mono s3 pq
 ·rintro H2 ys ⟨qs,rfl,s2,hd,pq,hql⟩
  rw [hlen,List.take_length] at pq
  exact q sw D H2 hp hs (s1.trans s2) (s1.free hD) ⟨qs,hd,pq⟩ hn

/-- what a spoilt piece tells: all of it new -/
def SpoiltN (H0 H:Hp) (v:V) (F:Addr→Prop) (n:Int) (r:Q2) (cs:List Q2):Prop:=(v = .non∧∀ c∈cs,c.2=0)∨∃ (k:Nat) (c:Q2) (a D:Addr) (m u:Int),cs[k]? = some c∧c.2≠0∧(∀ j d,j<k→cs[j]? = some d→d.2=0)∧v = .ref a∧H a=some (.tup [.int (1 + (k:Int)),.int c.2,.int m,.ref D]) ∧
 (0≤m∧m<r.1∧m * r.2 % r.1=c.2)∧(0≤u∧u<r.1∧u * r.2 % r.1=c.2)∧H D=some (.lst ((marksL n.toNat (shB r.1 n u n.toNat)).map V.int))∧¬ F D∧H0 D=none
abbrev tellSpoilt:LS→(Addr→Prop)→Hp→Hp→V→Prop:=fun l F' H H' v=>SpoiltN H H' v F' l.teeth l.ps.r l.ps.cuts
theorem d_m_Lathe_spoilt (T:Txt K mg):MethOk P w K mg base (cOf mg "Lathe") "spoilt" ["self"] 9 (spAsk K mg tellSpoilt):=by
 obtain ⟨f,fd,F,hm,hb⟩:=T.hm_Lathe_spoilt
 refine ⟨f,fd,F.ok1 sc_m_Lathe_spoilt (fun vs H Q E h=>?_) (fun cdv A outer s H vs Q E hr h=>?_),hm,T.cl_Lathe,hb⟩
 ·obtain ⟨a,l,F,rfl,_⟩:=h
  rfl
 obtain ⟨a,l,F,rfl,R0,q⟩:=h
 have R1:=R0
 obtain ⟨Fp,dx,s,pa,ra,rdx,ea,es,R⟩:=R1
 obtain ⟨pdx,t,rv,w,c,fv,tc,mc,cu,Rp⟩:=R.pc
 refine ⟨_,(@pss_cons _ _ _ _ _ (@ps_set _ _ 1 _ _ _ _ sc_m_Lathe_spoilt.nd rfl (Or.inl rfl) (pe_fld (pe_fld (pv 0) rfl) rfl) (by rfl) (by first | exact .inl rfl | exact .inr rfl))
 (@pss_cons _ _ _ _ _ (ps_for PassesOwn.leaving rfl (pi_enum (by rfl) T.z_enumerate (pa_cons (pe_fld (pe_fld (pv 0) rfl) rfl) pa_nil) pe_int) (pg_tup rfl (pgs_cons (pg_name (i:=2) sc_m_Lathe_spoilt.nd rfl (Or.inl rfl)) (pgs_cons (pg_name (i:=3) sc_m_Lathe_spoilt.nd rfl (Or.inl rfl)) pgs_nil)))
 (@pss_cons _ _ _ _ _ (@ps_set _ _ 4 _ _ _ _ sc_m_Lathe_spoilt.nd rfl (Or.inl rfl) (@pe_ix _ _ _ _ _ _ _ ix_tup (pv 3) pe_int (fun _ _=>rfl)) (by rfl) (by first | exact .inl rfl | exact .inr rfl))
 (@pss_one _ _ _ (ps_if (pt_cmp (pc_neI (pv 4) pe_int))
 (@pss_one _ _ _ (@ps_ret _ _ _ _ (@pe_tup _ _ _ _ _ (pa_cons (pv 2) (pa_cons (pv 4) (pa_cons (pe_callD (d_f_least_closing T) hr (pa_cons (pv 1) (pa_cons (pv 4) pa_nil))) (pa_cons (pe_callD (d_f_marks_of T) hr (pa_cons (pv 1) (pa_cons (pe_fld (pv 0) rfl) (pa_cons (pv 4) pa_nil)))) pa_nil)))))))
 pss_nil))))
 (@pss_one _ _ _ (@ps_ret _ _ _ _ pe_non)))),?_⟩
 obtain ⟨rs,hrs,prs⟩:=Rp.cu
 have lr:=Paired.length prs
 have lc:(rowsOf l.ps.cuts).length=l.ps.cuts.length:=List.length_map _
 have G:=R.re.good
 have n2:=G.n2
 have n64:=G.n64
 refine ⟨_,rfl,_,_,_,_,_,rfl,R.ob,T.cl_Lathe,T.na_Lathe_piece,rfl,_,_,_,_,_,rfl,Rp.ob,T.cl_Piece,T.na_Piece_ratio,rfl,?_⟩
 refine ⟨_,rfl,_,_,_,_,_,rfl,R.ob,T.cl_Lathe,T.na_Lathe_piece,rfl,_,_,_,_,_,rfl,Rp.ob,T.cl_Piece,T.na_Piece_cuts,rfl,cu,rfl,⟨_,SqL.of hrs⟩,for_enum (K:=K) (a:=cu) (xs:=rs.map V.ref) (fun i σ H'=>∃ (v1 v2 v3:Option V),σ=[some (.ref a),some rv,v1,v2,v3]∧Same H H'∧∀ j d,j<i→l.ps.cuts[j]? = some d→d.2=0)
  ⟨none,none,none,rfl,Same.refl _,fun j d z=>absurd z (Nat.not_lt_zero _)⟩ (fun i σ H' _ ⟨_,_,_,_,s',_⟩=>SqL.of (s' _ _ hrs)) ?_ ?_⟩
 ·rintro i x σ Hc tt hx ⟨v1,v2,v3,rfl,sc,hz⟩ htt
  obtain ⟨r1,t1,rfl,g1,k1⟩:=tl_at prs hx
  obtain ⟨cc,hcc,rfl⟩:∃ cc:Q2,l.ps.cuts[i]? = some cc∧t1=[cc.1,cc.2]:=by
   rw [rowsOf,List.getElem?_map] at g1
   cases e:l.ps.cuts[i]? with
   | none=>rw [e] at g1;cases g1
   | some cc=>rw [e] at g1;cases g1;exact ⟨cc,rfl,rfl⟩
  have sd:=sc.trans (same_new htt (.tup [.int (1 + (i:Int)),.ref r1]))
  have k1':=sd _ _ k1
  refine ⟨tt,_,rfl,SqT.of upd_same,rfl,_,_,rfl,_,_,rfl,rfl,?_⟩
  refine ⟨_,rfl,_,_,_,_,rfl,rfl,SqT.of (k1'),rfl,?_⟩
  refine ⟨_,rfl,_,_,rfl,rfl,_,rfl,iteND (fun ng=>?_) (fun ez=>?_)⟩
  ·obtain ⟨ts,P⟩:∃ ts,Pc l.ps ts:=by
    rcases R.re.pco with e | P
    ·rw [e] at hcc;cases i <;> cases hcc
    ·exact P
   have hra:=Rp.ra
   rw [P.ep] at hra
   obtain ⟨rr,rfl,hra⟩:=hra
   have Rt:Rat2 (ratio ts).1 (ratio ts).2:=⟨P.tr.pl.p1,P.tr.pl.p2,P.tr.pl.q1,P.tr.pl.q2⟩
   have rse:=red_self P.tr.rok
   have eN:ltN (ratio ts).1 (ratio ts).2=(ratio ts).1:=congrArg Prod.fst rse
   have eD:ltD (ratio ts).1 (ratio ts).2=(ratio ts).2:=congrArg Prod.snd rse
   have p1:=P.tr.pl.p1
   have cu':=P.cu cc (List.mem_of_getElem? hcc)
   have g0:0≤cc.2:=by rw [cu'.1];exact Int.emod_nonneg _ (by omega)
   have g1':cc.2<(ratio ts).1:=by rw [cu'.1];exact Int.emod_lt_of_pos _ (by omega)
   have ng':cc.2≠0:=ng
   refine ⟨_,rfl,_,rfl,_,rfl,_,rfl,rr,(ratio ts).1,(ratio ts).2,cc.2,rfl,sd _ _ hra,Rt,g0,by rw [eN];exact g1',fun m H7 s7 m0 m1 hm=>?_⟩
   have s8:=sd.trans s7
   refine ⟨_,rfl,_,rfl,_,_,_,_,_,rfl,(s8 _ _ R.ob),T.cl_Lathe,T.na_Lathe_teeth,rfl,_,rfl,rr,(ratio ts).1,(ratio ts).2,l.teeth,cc.2,rfl,s8 _ _ hra,Rt,n2,n64,g0,by rw [eN];exact g1',fun u D H9 u0 u1 hu s9 nD hD=>?_⟩
   refine ⟨(by show 4≤sizeLine;decide),fun r hr=>?_⟩
   have sA:=same_new hr (.tup [.int (1 + (i:Int)),.int cc.2,.int m,.ref D])
   have sB:=s8.trans (s9.trans sA)
   rw [eN,eD] at hm hu
   rw [eN] at m1 u1 hD
   refine q _ _ F (R0.same sB) (Fit.of_same sB) (.inr ⟨i,cc,r,D,m,u,hcc,ng',hz,rfl,upd_same,?_,?_,?_,fun z=>?_,s8.free nD⟩)
   ·rw [P.rr];exact ⟨m0,m1,hm⟩
   ·rw [P.rr];exact ⟨u0,u1,hu⟩
   ·rw [P.rr];exact sA _ _ hD
   ·obtain ⟨o,h⟩:=R0.at_ z
    rw [s8.free nD] at h;cases h
  ·refine ⟨_,_,_,rfl,sd,fun j d hj hd=>?_⟩
   rcases Nat.lt_or_eq_of_le (Nat.le_of_lt_succ hj) with z | z
   ·exact hz j d z hd
   ·rw [z,hcc] at hd;cases hd;exact ez
 ·rintro σ Hc ⟨v1,v2,v3,rfl,sc,hz⟩
  refine q _ _ F (R0.same sc) (Fit.of_same sc) (.inl ⟨rfl,fun c hc=>?_⟩)
  obtain ⟨j,hj⟩:=List.getElem?_of_mem hc
  refine hz j c ?_ hj
  have:=(List.getElem?_eq_some_iff.mp hj).1
  rw [List.length_map];omega

/-- a list that is told,new since H0: none of the lathe's -/
structure NL (F0 F:Addr→Prop) (H0 H:Hp) (D:Addr):Prop where
 l:∃ xs:List V,H D=some (.lst xs)∧xs.length≤40000
 n:¬ F D
 k:∀ o,H0 D=some o→F0 D
 t:∀ xs,H0 D=some (.tup xs)→False
section
variable {F0 F F':Addr→Prop} {H0 H H':Hp} {D:Addr}
theorem NL.fit (h:NL F0 F H0 H D) (f:Fit F F' H H'):NL F0 F' H0 H' D:=by
 obtain ⟨xs,e,z⟩:=h.l
 exact ⟨⟨xs,f.keep _ _ e h.n,z⟩,f.out e h.n,h.k,h.t⟩
/-- made behind H -/
theorem NL.new {xs:List V} (f:Fit F0 F H0 H) (n:H D=none) (n':¬ F' D) (e:H' D=some (.lst xs)) (z:xs.length≤40000):NL F0 F' H0 H' D :=
 ⟨⟨xs,e,z⟩,n',fun o h=>Classical.byContradiction fun c=>by (rw [f.keep _ _ h c] at n;exact absurd n (by simp)),fun ys h=>by (rw [f.tup _ _ h] at n;exact absurd n (by simp))⟩
theorem NL.put (h:NL F0 F H0 H D) {ys:List V} (f:Fit F0 F H0 H):Fit F0 F H0 (upd H D (.lst ys)) where
 keep b o hb n:=by
  rw [upd_ne (fun z=>by subst z;exact n (h.k o hb))]
  exact f.keep b o hb n
 foot:=f.foot
 tup b xs hb:=by
  rw [upd_ne (fun z=>by subst z;exact h.t xs hb)]
  exact f.tup b xs hb
end
structure Mess (K:PySem.W.Frag) (mg:Str→Option Value) (F0 F:Addr→Prop) (H0 H:Hp) (x:Addr) (l:LS) (T:Addr) (ds:List Addr):Prop where
 R:LRep K mg H x l F
 f:Fit F0 F H0 H
 t:H T=some (.lst (ds.map V.ref))
 tn:NL F0 F H0 H T
 d:∀ d∈ds,NL F0 F H0 H d∧d≠T
section
variable {K:PySem.W.Frag} {mg:Str→Option Value} {F0 F F':Addr→Prop} {H0 H H':Hp} {x T:Addr} {l:LS} {ds:List Addr}
theorem Mess.fit (M:Mess K mg F0 F H0 H x l T ds) (R':LRep K mg H' x l F') (f:Fit F F' H H'):Mess K mg F0 F' H0 H' x l T ds :=
 ⟨R',M.f.trans f,f.keep _ _ M.t M.tn.n,M.tn.fit f,fun d hd=>⟨(M.d d hd).1.fit f,(M.d d hd).2⟩⟩
theorem Mess.same (M:Mess K mg F0 F H0 H x l T ds) (s:Same H H'):Mess K mg F0 F H0 H' x l T ds:=M.fit (M.R.same s) (Fit.of_same s)
theorem NL.beside (h:NL F0 F H0 H D) {E:Addr} {ys:List V} (z:ys.length≤40000):NL F0 F H0 (upd H E (.lst ys)) D:=by
 obtain ⟨xs,e,b⟩:=h.l
 refine ⟨?_,h.n,h.k,h.t⟩
 by_cases c:D=E
 ·exact ⟨ys,by rw [c,upd_same],z⟩
 ·exact ⟨xs,by rw [upd_ne c];exact e,b⟩
/-- one of the lists is written -/
theorem Mess.put (M:Mess K mg F0 F H0 H x l T ds) {d:Addr} (hd:d∈ds) {ys:List V} (z:ys.length≤40000):Mess K mg F0 F H0 (upd H d (.lst ys)) x l T ds:=by
 obtain ⟨N,ne⟩:=M.d d hd
 obtain ⟨xs,e,_⟩:=N.l
 exact ⟨M.R.beside N.n (beside1 _) e,N.put M.f,by rw [upd_ne (Ne.symm ne)];exact M.t,M.tn.beside z,fun c hc=>⟨(M.d c hc).1.beside z,(M.d c hc).2⟩⟩
/-- one more list is told -/
theorem Mess.add (M:Mess K mg F0 F H0 H x l T ds) {d:Addr} (N:NL F0 F H0 H d) (ne:d≠T) (b:ds.length≤1000):Mess K mg F0 F H0 (upd H T (.lst (ds.map V.ref++[.ref d]))) x l T (ds++[d]):=by
 have z:(ds.map V.ref++[V.ref d]).length≤40000:=by rw [List.length_append,List.length_map];show ds.length + 1≤_;omega
 refine ⟨M.R.beside M.tn.n (beside1 _) M.t,M.tn.put M.f,by rw [upd_same,List.map_append];rfl,M.tn.beside z,fun c hc=>?_⟩
 rcases List.mem_append.mp hc with h | h
 ·exact ⟨(M.d c h).1.beside z,(M.d c h).2⟩
 ·rw [List.mem_singleton.mp h]
  exact ⟨N.beside z,ne⟩
end
def spMess (K:PySem.W.Frag) (mg:Str→Option Value):Sp:=fun vs H Q _=>∃ (x W p:Addr) (l:LS) (F:Addr→Prop) (ws:List Int) (t b:Int),vs=[.ref x,.ref W,.int l.teeth,.ref p]∧LRep K mg H x l F∧l.ps.pitch.isSome=true∧ShopO F H W ws∧Shop ws∧ws.length≤12∧H p=some (.tup [.int t,.int b])∧Rat2 t b∧1≤ltN t b ∧
 ∀ H' F',LRep K mg H' x l F'→Fit F F' H H'→Q .non H'
theorem d_l_mess (T:Txt K mg):DefOkX P w K mg base "_law_mess" ["_law_lathe","_law_wheels","_law_teeth_here","_law_pitch"] 10 (spMess K mg):=by
 obtain ⟨f,fd,F,hm,hb⟩:=T.h_l_mess
 refine ⟨f,fd,F.ok1 sc_l_mess (fun vs H Q E h=>?_) (fun cdv A outer s H vs Q E hr h=>?_),hm,F.kp,hb⟩
 ·obtain ⟨x,W,p,l,F,ws,t,b,rfl,_⟩:=h
  rfl
 obtain ⟨x,W,p,l,F,ws,t,b,rfl,R,mt,hW,S,l12,hp,Rt,lt1,q⟩:=h
 refine ⟨_,(@pss_cons _ _ _ _ _ (@ps_set _ _ 4 _ _ _ _ sc_l_mess.nd rfl (Or.inl rfl) (@pe_lst _ _ _ _ (pa_cons (pe_methX0 (d_m_Lathe_passes T) hr (passOut out_cx) (pv 0)) (pa_cons (pe_methX0 (d_m_Lathe_book T) hr (passOut out_cx) (pv 0)) (pa_cons (pe_methX0 (d_m_Lathe_marks T) hr (passOut out_cx) (pv 0)) (pa_cons (pe_callD (d_f_safe_marks T) hr (pa_cons (pv 3) (pa_cons (pv 2) pa_nil))) (pa_cons (pe_callD (d_f_marks_of T) hr (pa_cons (pv 3) (pa_cons (pv 2) (pa_cons pe_int pa_nil)))) pa_nil)))))) (by rfl) (by first | exact .inl rfl | exact .inr rfl))
 (@pss_cons _ _ _ _ _ (ps_expr (pe_bm PySem.F.plainAttrs_list PySem.F.slot_list_append PySem.F.type_list_append mt_append (pv 4) (pa_cons (pe_callD (d_f_trains_for T) hr (pa_cons (pv 1) (pa_cons (pv 3) pa_nil))) pa_nil)))
 (@pss_cons _ _ _ _ _ (ps_if (pt_cmp (pc_notN (pe_methX0 (d_m_Lathe_spoilt T) hr (passOut out_cx) (pv 0))))
 (@pss_one _ _ _ (ps_expr (pe_bm PySem.F.plainAttrs_list PySem.F.slot_list_append PySem.F.type_list_append mt_append (pv 4) (pa_cons (@pe_ix _ _ _ _ _ _ _ ix_tup (pe_methX0 (d_m_Lathe_spoilt T) hr (passOut out_cx) (pv 0)) pe_int (fun _ _=>rfl)) pa_nil))))
 pss_nil)
 (@pss_one _ _ _ (ps_for PassesOwn.leaving rfl (pi_list (pv 4)) (pg_name (i:=5) sc_l_mess.nd rfl (Or.inl rfl))
 (@pss_cons _ _ _ _ _ (ps_expr (pe_bm PySem.F.plainAttrs_list PySem.F.slot_list_append PySem.F.type_list_append mt_append (pv 5) (pa_cons pe_int pa_nil)))
 (@pss_cons _ _ _ _ _ (ps_expr (pe_bm0 PySem.F.plainAttrs_list PySem.F.slot_list_reverse PySem.F.type_list_reverse mt_reverse (pv 5)))
 (@pss_one _ _ _ (ps_expr (pe_bm0 PySem.F.plainAttrs_list PySem.F.slot_list_pop PySem.F.type_list_pop mt_pop (pv 5))))))))))),?_⟩
 have G:=R.reach.good
 have n2:=G.n2
 have n64:=G.n64
 have lc:=cuts_le l
 have lb:=R.reach.len
 obtain ⟨dx,fs,ins,no⟩:=R.ins
 refine ⟨_,rfl,x,dx,fs,rfl,ins,no "passes" (by decide +kernel),x,l,F,rfl,R,fun v1 H1 F1 R1 f1 ⟨D1,e1,n1,g1,rs1,h1,p1⟩=>?_⟩
 subst e1
 have N1:NL F F1 H H1 D1:=.new (Fit.refl _ _) n1 g1 h1 (by have:=Paired.length p1;rw [rowsOf,List.length_map] at this;rw [List.length_map];omega)
 obtain ⟨dx1,fs1,ins1,no1⟩:=R1.ins
 refine ⟨_,rfl,x,dx1,fs1,rfl,ins1,no1 "book" (by decide +kernel),x,l,F1,rfl,R1,fun v2 H2 F2 R2 f2 ⟨D2,e2,n2',g2,rs2,h2,p2⟩=>?_⟩
 subst e2
 have N2:NL F F2 H H2 D2:=.new f1 n2' g2 h2 (by have:=Paired.length p2;rw [List.length_map];omega)
 have f12:=f1.trans f2
 have N1:=N1.fit f2
 obtain ⟨dx2,fs2,ins2,no2⟩:=R2.ins
 refine ⟨_,rfl,x,dx2,fs2,rfl,ins2,no2 "marks" (by decide +kernel),x,l,F2,rfl,R2,fun r hr D3 H3 F3 R3 f3 n3 g3 h3=>?_,fun z=>by rw [z] at mt;cases mt⟩
 have N3:NL F F3 H H3 D3:=.new f12 n3 g3 h3 (by unfold marksV;rw [List.length_map,List.length_range];omega)
 have f13:=f12.trans f3
 have N1:=N1.fit f3
 have N2:=N2.fit f3
 have hp3:=f13.tup _ _ hp
 have hW3:=hW.fit f13
 clear f1 f2 f12 R1 R2 ins ins1 ins2 no no1 no2 p1 p2 h1 h2 h3
 refine ⟨_,rfl,_,rfl,p,t,b,l.teeth,rfl,hp3,Rt,n2,n64,fun D4 H4 s4 n4 h4=>?_⟩
 have N4:NL F F3 H H4 D4:=.new f13 n4 (R3.newOk D4 n4) h4 (by rw [List.length_map];exact Nat.le_trans (marksL_len _ _) (by omega))
 have k4:=Fit.of_same (F:=F3) s4
 have R4:=R3.same s4
 have hp4:=s4 _ _ hp3
 have f14:=f13.trans k4
 refine ⟨_,rfl,_,rfl,p,t,b,l.teeth,0,rfl,hp4,Rt,n2,n64,by decide,by omega,fun c D5 H5 c0 c1 hc s5 n5 h5=>?_⟩
 have N5:NL F F3 H H5 D5:=.new f14 n5 (R4.newOk D5 n5) h5 (by rw [List.length_map];exact Nat.le_trans (marksL_len _ _) (by omega))
 have k5:=Fit.of_same (F:=F3) s5
 have k45:=k4.trans k5
 have R5:=R4.same s5
 have f15:=f14.trans k5
 have hp5:=s5 _ _ hp4
 have hW5:=hW3.same (s4.trans s5)
 refine ⟨(by show 5≤sizeLine;decide),fun Tt hT=>?_⟩
 have s6:=same_new hT (.lst [.ref D1,.ref D2,.ref D3,.ref D4,.ref D5])
 have ne:∀ {d:Addr},NL F F3 H H5 d→d≠Tt:=fun {d} N=>by obtain ⟨xs,e,_⟩:=N.l;exact ne_of_none e hT
 have M6:Mess K mg F F3 H (upd H5 Tt (.lst [.ref D1,.ref D2,.ref D3,.ref D4,.ref D5])) x l Tt [D1,D2,D3,D4,D5]:=by
  refine ⟨R5.same s6,f15.trans (Fit.of_same s6),upd_same,.new f15 hT (R5.newOk Tt hT) upd_same (by show 5≤40000;decide),fun d hd=>?_⟩
  have z:NL F F3 H H5 d:=by
   simp only [List.mem_cons,List.not_mem_nil,or_false] at hd
   rcases hd with rfl | rfl | rfl | rfl | rfl
   ·exact (N1.fit k45)
   ·exact (N2.fit k45)
   ·exact (N3.fit k45)
   ·exact (N4.fit k5)
   ·exact N5
  exact ⟨z.fit (Fit.of_same s6),ne z⟩
 have hp6:=s6 _ _ hp5
 have hW6:=hW5.same s6
 generalize upd H5 Tt (.lst [.ref D1,.ref D2,.ref D3,.ref D4,.ref D5])=H6 at M6 hp6 hW6 ⊢
 generalize hds:[D1,D2,D3,D4,D5]=ds at M6
 have l5:ds.length=5:=by rw [← hds];rfl
 clear hds ne s6 N1 N2 N3 N4 N5 k4 k5 k45 f13 f14 f15 R3 R4 R5 hT hp3 hp4 hp5 hW3 hW5
 have b1:=Rt.b1
 refine ⟨_,rfl,.inl ⟨rfl,_,SqL.of M6.t⟩,_,rfl,_,rfl,W,p,ws,t,b,rfl,hW6.sq,S,l12,⟨hp6,(bd20 (by have:=Rt.t1;omega) Rt.t2).mono (by decide),(bd20 (by omega) Rt.b2).mono (by decide),b1⟩,fun sw D7 H7 _ _ s7 n7 tl len=>?_⟩
 obtain ⟨rs7,h7,p7⟩:=tl
 have M7:=M6.same s7
 have N7:NL F F3 H H7 D7:=.new M6.f n7 (M6.R.newOk D7 n7) h7 (by have:=Paired.length p7;rw [List.length_map,this];exact Nat.le_trans (List.length_filter_le _ _) (by omega))
 refine ⟨Tt,_,_,rfl,rfl,M7.t,(by rw [List.length_map,l5];decide),?_⟩
 have ne7:D7≠Tt:=fun z=>by rw [z,M6.t] at n7;cases n7
 have M8:=M7.add N7 ne7 (by omega)
 generalize upd H7 Tt (.lst (ds.map V.ref++[.ref D7]))=H8 at M8 ⊢
 have l6:(ds++[D7]).length=6:=by rw [List.length_append,l5];rfl
 generalize ds++[D7]=es at M8 l6
 clear M6 M7 N7 ne7 h7 p7 s7 n7 l5
 refine (fun (key:∀ (Hd:Hp),(∃ (F':Addr→Prop) (us:List Addr),Mess K mg F F' H Hd x l Tt us)→(?G:Hp→Prop) Hd)=>?main) ?keyp
 case main =>
  obtain ⟨dx8,fs8,ins8,no8⟩:=M8.R.ins
  refine ⟨_,rfl,x,dx8,fs8,rfl,ins8,no8 "spoilt" (by decide +kernel),x,l,F3,rfl,M8.R,fun v H9 F9 R9 f9 sp=>?_⟩
  have M9:=M8.fit R9 f9
  rcases sp with ⟨rfl,_⟩ | ⟨k,c2,a2,D,m,u,hk,hc2,_,rfl,_⟩
  ·refine ⟨_,rfl,iteF ?_⟩
   exact key H9 ⟨F9,es,M9⟩
  ·refine ⟨_,rfl,iteT ?_⟩
   obtain ⟨dx9,fs9,ins9,no9⟩:=R9.ins
   refine ⟨_,rfl,.inl ⟨rfl,_,SqL.of M9.t⟩,_,rfl,x,dx9,fs9,rfl,ins9,no9 "spoilt" (by decide +kernel),x,l,F9,rfl,R9,fun v Ha Fa Ra fa sp2=>?_⟩
   have Ma:=M9.fit Ra fa
   rcases sp2 with ⟨_,z⟩ | ⟨k',c',a',D',m',u',_,_,_,rfl,ha,_,_,hD,nD,nn⟩
   ·exact absurd (z c2 (List.mem_of_getElem? hk)) hc2
   ·refine ⟨_,_,_,_,rfl,rfl,SqT.of ha,rfl,?_⟩
    have Na:NL F Fa H Ha D':=.new M9.f nn nD hD (by rw [List.length_map];exact Nat.le_trans (marksL_len _ _) (by omega))
    refine ⟨Tt,_,_,rfl,rfl,Ma.t,(by rw [List.length_map,l6];decide),?_⟩
    have nea:D'≠Tt:=fun z=>by rw [z,M9.t] at nn;cases nn
    have Mb:=Ma.add Na nea (by omega)
    generalize upd Ha Tt (.lst (es.map V.ref++[.ref D']))=Hb at Mb ⊢
    exact key Hb ⟨Fa,_,Mb⟩
 case keyp =>
  clear M8
  rintro Hd ⟨F',us,M⟩
  refine ⟨_,rfl,Tt,rfl,⟨_,SqL.of M.t⟩,for_list (K:=K) (a:=Tt) (xs:=us.map V.ref) (fun i σ G=>∃ v,σ=[some (.ref x),some (.ref W),some (.int l.teeth),some (.ref p),some (.ref Tt),v]∧Mess K mg F F' H G x l Tt us)
   ⟨none,rfl,M⟩ (fun i σ G _ ⟨_,_,m⟩=>SqL.of m.t) ?_ ?_⟩
  ·clear M
   rintro i v σ G hx ⟨v5,rfl,M⟩
   rw [List.getElem?_map] at hx
   obtain ⟨d,hd,rfl⟩:=Option.map_eq_some_iff.mp hx
   have hd:=List.mem_of_getElem? hd
   obtain ⟨xs,e,z⟩:=(M.d d hd).1.l
   refine ⟨_,rfl,.inl ⟨rfl,_,SqL.of e⟩,d,_,_,rfl,rfl,e,big (by omega),?_⟩
   refine ⟨_,rfl,.inl ⟨rfl,_,SqL.of upd_same⟩,d,_,rfl,rfl,upd_same,?_⟩
   rw [upd_upd]
   obtain ⟨y,hy⟩:∃ y,((xs++[V.int 5]).reverse)[((xs++[V.int 5]).reverse).length - 1]? = some y:=⟨_,List.getElem?_eq_getElem (by rw [List.length_reverse,List.length_append];show xs.length + 1 - 1<xs.length + 1;omega)⟩
   refine ⟨_,rfl,.inl ⟨rfl,_,SqL.of upd_same⟩,d,_,_,rfl,rfl,upd_same,hy,?_⟩
   rw [upd_upd]
   exact ⟨_,rfl,M.put hd (by rw [List.length_dropLast,List.length_reverse,List.length_append];show xs.length + 1 - 1≤_;omega)⟩
  ·rintro σ G ⟨v5,rfl,m⟩
   exact q G F' m.R m.f

def spWhole:Sp:=fun vs H Q _=>∃ (i:Int),vs=[.int i]∧Q (.bl true) H
theorem d_l_whole (T:Txt K mg):DefOk P w K mg base "_law_whole" ["_law_found"] 1 spWhole:=by
 obtain ⟨f,fd,F,hm,hb⟩:=T.h_l_whole
 refine ⟨f,fd,F.ok sc_l_whole (fun vs H Q E h=>?_) (fun cdv A outer s H vs Q E hr h=>?_),hm,F.kp,hb⟩
 ·obtain ⟨i,rfl,_⟩:=h
  rfl
 obtain ⟨i,rfl,q⟩:=h
 refine ⟨_,(@pss_one _ _ _ (@ps_ret _ _ _ _ (pe_and (pe_callB call_isinst (by rfl) T.z_isinstance PyProof.Rows.boot_isinstance (pa_cons (pv 0) (pa_cons (pe_bltn (by rfl) T.z_int PyProof.Rows.boot_int (v:=.ty "int") rfl) pa_nil))) (pe_one (pe_not (pe_callB call_isinst (by rfl) T.z_isinstance PyProof.Rows.boot_isinstance (pa_cons (pv 0) (pa_cons (pe_bltn (by rfl) T.z_bool PyProof.Rows.boot_bool (v:=.ty "bool") rfl) pa_nil)))))))),?_⟩
 refine ⟨_,rfl,_,"int",_,_,rfl,.int i,kit_same _,_,rfl,?_⟩
 refine iteT ?_
 exact ⟨_,rfl,_,"bool",_,false,rfl,.int i,(by with_unfolding_all rfl),_,rfl,q⟩

def spRow (K:PySem.W.Frag):Sp:=fun vs H Q _=>∃ (a b:Addr) (ws:List Int),vs=[.ref a,.ref b]∧H a=some (.lst (ws.map V.int))∧H b=some (.lst (ws.map V.int))∧ws.length≤1000∧Q (.bl true) H
theorem d_l_row (T:Txt K mg):DefOk P w K mg base "_law_row" ["_law_found","_law_due"] 2 (spRow K):=by
 obtain ⟨f,fd,F,hm,hb⟩:=T.h_l_row
 refine ⟨f,fd,F.ok sc_l_row (fun vs H Q E h=>?_) (fun cdv A outer s H vs Q E hr h=>?_),hm,F.kp,hb⟩
 ·obtain ⟨a,b,ws,rfl,_⟩:=h
  rfl
 obtain ⟨a,b,ws,rfl,hA,hB,hl,q⟩:=h
 refine ⟨_,(@pss_cons _ _ _ _ _ (ps_if (pw_or (pt_not (pt_val (pe_callB call_isinst (by rfl) T.z_isinstance PyProof.Rows.boot_isinstance (pa_cons (pv 0) (pa_cons (pe_bltn (by rfl) T.z_list PyProof.Rows.boot_list (v:=.ty "list") rfl) pa_nil))))) (pw_or1 (pt_cmp (pc_neI (pe_callB call_len_seq (by rfl) T.z_len PySem.boot_len (pa_cons (pv 0) pa_nil)) (pe_callB call_len_seq (by rfl) T.z_len PySem.boot_len (pa_cons (pv 1) pa_nil)))))).pt
 (@pss_one _ _ _ (@ps_ret _ _ _ _ pe_bl))
 pss_nil)
 (@pss_cons _ _ _ _ _ (ps_for PassesOwn.never rfl (pi_range1 (by rfl) T.z_range (pa_cons (pe_callB call_len_seq (by rfl) T.z_len PySem.boot_len (pa_cons (pv 1) pa_nil)) pa_nil)) (pg_name (i:=2) sc_l_row.nd rfl (Or.inl rfl))
 (@pss_one _ _ _ (ps_if (pw_or (pt_not (pt_val (pe_callD (d_l_whole T) hr (pa_cons (@pe_ix _ _ _ _ _ _ _ ix_list (pv 0) (pv 2) (fun _ _=>rfl)) pa_nil)))) (pw_or1 (pt_cmp (pc_neI (@pe_ix _ _ _ _ _ _ _ ix_list (pv 0) (pv 2) (fun _ _=>rfl)) (@pe_ix _ _ _ _ _ _ _ ix_list (pv 1) (pv 2) (fun _ _=>rfl)))))).pt
 (@pss_one _ _ _ (@ps_ret _ _ _ _ pe_bl))
 pss_nil)))
 (@pss_one _ _ _ (@ps_ret _ _ _ _ pe_bl)))),?_⟩
 refine ⟨_,rfl,_,"list",_,_,rfl,.lst hA,kit_same _,_,rfl,?_⟩
 refine iteF ?_
 refine ⟨_,rfl,a,_,rfl,.inl (SqL.of hA),_,rfl,b,_,rfl,.inl (SqL.of hB),_,_,rfl,rfl,_,rfl,?_⟩
 refine iteNS rfl ?_
 have hlen:(ws.map V.int).length=ws.length:=List.length_map _
 refine ⟨_,rfl,b,_,rfl,.inl (SqL.of hB),_,rfl,by omega,by rw [hlen];omega,?_⟩
 rw [Int.toNat_natCast,hlen]
 refine for_range (lo:=0) (n:=ws.length) (fun i σ H'=>∃ (k:Option V),σ=[some (.ref a),some (.ref b),k]∧H'=H) ⟨none,rfl,rfl⟩ ?_ ?_
 ·rintro i σ H' hi ⟨k,rfl,rfl⟩
  have ea:atI (ws.map V.int) (0 + (i:Int))=some (.int ws[i]):=by
   rw [Int.zero_add]
   exact atI_nat (by rw [List.getElem?_map,List.getElem?_eq_getElem hi] <;> rfl)
  refine ⟨_,rfl,_,rfl,a,_,_,_,rfl,rfl,SqL.of hA,ea,_,rfl,_,rfl,?_⟩
  refine iteF ?_
  refine ⟨_,rfl,_,rfl,a,_,_,_,rfl,rfl,SqL.of hA,ea,_,rfl,_,rfl,b,_,_,_,rfl,rfl,SqL.of hB,ea,_,_,rfl,rfl,_,rfl,?_⟩
  exact iteNS rfl ⟨_,rfl,rfl⟩
 ·rintro σ H' ⟨k,rfl,rfl⟩
  exact q

def spKept (K:PySem.W.Frag):Sp:=fun vs H Q _=>∃ (a b:Addr) (ws:List Int),vs=[.ref a,.ref b]∧SqA K H a (ws.map V.int)∧SqA K H b (ws.map V.int)∧ws.length≤1000∧Q (.bl true) H
theorem d_l_kept (T:Txt K mg):DefOk P w K mg base "_law_kept" ["_law_handed","_law_copy_of"] 2 (spKept K):=by
 obtain ⟨f,fd,F,hm,hb⟩:=T.h_l_kept
 refine ⟨f,fd,F.ok sc_l_kept (fun vs H Q E h=>?_) (fun cdv A outer s H vs Q E hr h=>?_),hm,F.kp,hb⟩
 ·obtain ⟨a,b,ws,rfl,_⟩:=h
  rfl
 obtain ⟨a,b,ws,rfl,hA,hB,hl,q⟩:=h
 refine ⟨_,(@pss_cons _ _ _ _ _ (ps_if (pt_cmp (pc_neI (pe_callB call_len_seq (by rfl) T.z_len PySem.boot_len (pa_cons (pv 0) pa_nil)) (pe_callB call_len_seq (by rfl) T.z_len PySem.boot_len (pa_cons (pv 1) pa_nil))))
 (@pss_one _ _ _ (@ps_ret _ _ _ _ pe_bl))
 pss_nil)
 (@pss_cons _ _ _ _ _ (ps_for PassesOwn.never rfl (pi_range1 (by rfl) T.z_range (pa_cons (pe_callB call_len_seq (by rfl) T.z_len PySem.boot_len (pa_cons (pv 1) pa_nil)) pa_nil)) (pg_name (i:=2) sc_l_kept.nd rfl (Or.inl rfl))
 (@pss_one _ _ _ (ps_if (pw_or (pt_not (pt_val (pe_callD (d_l_whole T) hr (pa_cons (@pe_ix _ _ _ _ _ _ _ ix_any (pv 0) (pv 2) (fun _ _=>rfl)) pa_nil)))) (pw_or1 (pt_cmp (pc_neI (@pe_ix _ _ _ _ _ _ _ ix_any (pv 0) (pv 2) (fun _ _=>rfl)) (@pe_ix _ _ _ _ _ _ _ ix_any (pv 1) (pv 2) (fun _ _=>rfl)))))).pt
 (@pss_one _ _ _ (@ps_ret _ _ _ _ pe_bl))
 pss_nil)))
 (@pss_one _ _ _ (@ps_ret _ _ _ _ pe_bl)))),?_⟩
 refine ⟨_,rfl,a,_,rfl,hA,_,rfl,b,_,rfl,hB,_,_,rfl,rfl,_,rfl,?_⟩
 refine iteNS rfl ?_
 have hlen:(ws.map V.int).length=ws.length:=List.length_map _
 refine ⟨_,rfl,b,_,rfl,hB,_,rfl,by omega,by rw [hlen];omega,?_⟩
 rw [Int.toNat_natCast,hlen]
 refine for_range (lo:=0) (n:=ws.length) (fun i σ H'=>∃ (k:Option V),σ=[some (.ref a),some (.ref b),k]∧H'=H) ⟨none,rfl,rfl⟩ ?_ ?_
 ·rintro i σ H' hi ⟨k,rfl,rfl⟩
  have ea:atI (ws.map V.int) (0 + (i:Int))=some (.int ws[i]):=by
   rw [Int.zero_add]
   exact atI_nat (by rw [List.getElem?_map,List.getElem?_eq_getElem hi] <;> rfl)
  refine ⟨_,rfl,_,rfl,a,_,_,_,rfl,rfl,hA,ea,_,rfl,_,rfl,?_⟩
  refine iteF ?_
  refine ⟨_,rfl,_,rfl,a,_,_,_,rfl,rfl,hA,ea,_,rfl,_,rfl,b,_,_,_,rfl,rfl,hB,ea,_,_,rfl,rfl,_,rfl,?_⟩
  exact iteNS rfl ⟨_,rfl,rfl⟩
 ·rintro σ H' ⟨k,rfl,rfl⟩
  exact q

def spShown:Sp:=fun vs H Q _=>∃ (c p n:Int),vs=[.int c,.int p,.int n]∧0≤c∧c≤20000∧1≤p∧p≤20000∧2≤n∧n≤64 ∧
 ∀ (D:Addr) (H':Hp),Same H H'→H D=none→H' D=some (.lst ((marksL n.toNat (shB p n c n.toNat)).map V.int))→Q (.ref D) H'
theorem d_l_shown (T:Txt K mg):DefOk P w K mg base "_law_shown" ["_law_closing","_law_top","_law_teeth_here"] 1 spShown:=by
 obtain ⟨f,fd,F,hm,hb⟩:=T.h_l_shown
 refine ⟨f,fd,F.ok sc_l_shown (fun vs H Q E h=>?_) (fun cdv A outer s H vs Q E hr h=>?_),hm,F.kp,hb⟩
 ·obtain ⟨c,p,n,rfl,_⟩:=h
  rfl
 obtain ⟨x,pp,n,rfl,x0,x1,p1,p2,n0,n1,q⟩:=h
 refine ⟨_,(@pss_cons _ _ _ _ _ (@ps_set _ _ 3 _ _ _ _ sc_l_shown.nd rfl (Or.inr rfl) (pe_op op_rep (@pe_lst _ _ _ _ (pa_cons pe_bl pa_nil)) (pv 2)) (by rfl) (by first | exact .inl rfl | exact .inr rfl))
 (@pss_cons _ _ _ _ _ (ps_for PassesOwn.never rfl (pi_range1 (by rfl) T.z_range (pa_cons (pv 2) pa_nil)) (pg_name (i:=4) sc_l_shown.nd rfl (Or.inl rfl))
 (@pss_one _ _ _ (@ps_asg _ _ _ _ _ _ pe_bl (pg_sub (pv 3) (pe_op op_mod (pe_op op_add (pv 0) (pe_op op_mulX (pv 4) (pv 1))) (pv 2)) set_list) (by rfl) (by rfl) (by rfl))))
 (@pss_one _ _ _ (@ps_ret _ _ _ _ (pe_comp1 rfl (sc:=defScope s_l_shown) rfl (N:=["_law_closing","_law_top","_law_teeth_here","_law_shown_here","_law_many"]) rfl ⟨by decide +kernel,rfl,by decide +kernel,by decide +kernel,rfl,by decide +kernel,by decide +kernel,by decide +kernel⟩ (pi_range1 (by rfl) T.z_range (pa_cons (pv 2) pa_nil)) (fun _ _ _ _ _ _=>(pt_val (@pe_ix _ _ _ _ _ _ _ (ix_listK (K:=K) rfl) (pv 4) (pv 0) (fun _ _=>rfl)))) (fun _ _ _ _ _ _=>(pv 0))))))),?_⟩
 refine ⟨(by show 1≤sizeLine;decide),fun l0 hl0=>?_⟩
 have s3:=same_new hl0 (.lst [V.bl false])
 refine ⟨_,rfl,l0,_,_,rfl,rfl,upd_same,by omega,by omega,(by show 1 * n.toNat≤sizeLine;exact Nat.le_of_lt (small1000 (by omega))),fun sh hsh=>?_⟩
 rw [shL_zero _ pp n x]
 have s4:=same_new hsh (.lst (shL n.toNat (shB pp n x 0)))
 have nsh:H sh=none:=by
  cases e:H sh with
  | none=>rfl
  | some o=>cases (s3 sh o e).symm.trans hsh
 refine ⟨_,rfl,_,rfl,by omega,by omega,?_⟩
 refine for_range (lo:=0) (n:=n.toNat) (fun i σ H4=>∃ k:Option V,σ=[some (.int x),some (.int pp),some (.int n),some (.ref sh),k]∧Same H H4∧H4 sh=some (.lst (shL n.toNat (shB pp n x i)))) ⟨none,rfl,s3.trans s4,upd_same⟩ ?_ ?_
 ·rintro i σ H4 hi ⟨k,rfl,sH,hs⟩
  have bi:Bd 64 (0 + (i:Int)):=bd20 (by omega) (by omega)
  have bp:Bd 64 pp:=bd20 (by omega) (by omega)
  have z0:=Int.emod_nonneg (x + (i:Int) * pp) (show n≠0 by omega)
  have z1:=Int.emod_lt_of_pos (x + (i:Int) * pp) (show 0<n by omega)
  have ix:ixN (shL n.toNat (shB pp n x i)).length ((x + (0 + (i:Int)) * pp) % n)=some ((x + (i:Int) * pp) % n).toNat:=by
   rw [Int.zero_add,shL_len]
   unfold ixN
   rw [if_pos z0,if_pos (by omega)]
  refine ⟨_,rfl,_,rfl,_,rfl,_,rfl,_,_,rfl,rfl,.inr ⟨bi.mono (by decide),bp.mono (by decide)⟩,_,_,rfl,rfl,_,rfl,_,_,rfl,rfl,(by omega),sh,_,_,_,rfl,rfl,hs,ix,?_⟩
  rw [shL_step (by omega) (by omega)]
  refine ⟨_,rfl,fun b o hb=>?_,upd_same⟩
  rw [upd_ne (ne_of_none hb nsh)];exact sH _ _ hb
 ·rintro σ H4 ⟨k,rfl,sH,hs⟩
  refine ⟨_,rfl,_,rfl,by omega,by omega,?_⟩
  intro D hD
  have u0:=same_new hD (.lst [])
  refine comp_range (tt:=tB (tOp (rIxL K) (tVar 4) (tVar 0))) (te:=tVar 0) (σ:=[some (.int x),some (.int pp),some (.int n),some (.ref sh),k]) (lo:=0) (n:=n.toNat) (fun i H5 ys=>ys=(marksL i (shB pp n x n.toNat)).map V.int∧Same H4 H5∧H5 D=some (.lst ys)) ⟨rfl,u0,upd_same⟩ ?_ ?_
  ·rintro i H5 ys kk hk hi ⟨rfl,s5,hd5⟩
   refine ⟨hd5,?_⟩
   have at_:atI (shL n.toNat (shB pp n x n.toNat)) (0 + (i:Int))=some (.bl (shB pp n x n.toNat (i:Int))):=by
    rw [Int.zero_add];exact atI_nat (shL_at _ hi)
   refine ⟨_,rfl,_,rfl,sh,_,_,_,rfl,rfl,SqL.of (s5 _ _ hs),at_,_,rfl,?_⟩
   refine iteBool (fun e=>?_) (fun e=>?_)
   ·rw [Int.zero_add]
    refine ⟨_,rfl,hd5,(by rw [List.length_map];exact small1000 (Nat.le_trans (marksL_len _ _) (by omega))),hk _ _ ⟨?_,fun b o hb=>?_,upd_same⟩⟩
    ·rw [marksL_succ,if_pos e,List.map_append];rfl
    ·rw [upd_ne (ne_of_none hb hD)];exact s5 _ _ hb
   ·refine hk _ _ ⟨?_,s5,hd5⟩
    rw [marksL_succ,if_neg (by rw [e];exact Bool.false_ne_true),List.append_nil]
  ·rintro H5 ys ⟨rfl,s5,hd5⟩
   refine ⟨hd5,?_⟩
   exact q D H5 (sH.trans s5) (sH.free hD) hd5

def spIs (K:PySem.W.Frag):Sp:=fun vs H Q _=>∃ (a b:Addr) (ws:List Int),vs=[.ref a,.ref b]∧TupK K H a (ws.map V.int)∧TupK K H b (ws.map V.int)∧ws.length≤1000∧Q (.bl true) H
theorem d_l_is (T:Txt K mg):DefOk P w K mg base "_law_is" ["_law_found","_law_due"] 2 (spIs K):=by
 obtain ⟨f,fd,F,hm,hb⟩:=T.h_l_is
 refine ⟨f,fd,F.ok sc_l_is (fun vs H Q E h=>?_) (fun cdv A outer s H vs Q E hr h=>?_),hm,F.kp,hb⟩
 ·obtain ⟨a,b,ws,rfl,_⟩:=h
  rfl
 obtain ⟨a,b,ws,rfl,hA,hB,hl,q⟩:=h
 refine ⟨_,(@pss_cons _ _ _ _ _ (ps_if (pw_or (pt_not (pt_val (pe_callB call_isinstT (by rfl) T.z_isinstance PyProof.Rows.boot_isinstance (pa_cons (pv 0) (pa_cons (pe_bltn (by rfl) T.z_tuple PyProof.Rows.boot_tuple (v:=.ty "tuple") rfl) pa_nil))))) (pw_or1 (pt_cmp (pc_neI (pe_callB call_len_seq (by rfl) T.z_len PySem.boot_len (pa_cons (pv 0) pa_nil)) (pe_callB call_len_seq (by rfl) T.z_len PySem.boot_len (pa_cons (pv 1) pa_nil)))))).pt
 (@pss_one _ _ _ (@ps_ret _ _ _ _ pe_bl))
 pss_nil)
 (@pss_cons _ _ _ _ _ (ps_for PassesOwn.never rfl (pi_range1 (by rfl) T.z_range (pa_cons (pe_callB call_len_seq (by rfl) T.z_len PySem.boot_len (pa_cons (pv 1) pa_nil)) pa_nil)) (pg_name (i:=2) sc_l_is.nd rfl (Or.inl rfl))
 (@pss_one _ _ _ (ps_if (pw_or (pt_not (pt_val (pe_callD (d_l_whole T) hr (pa_cons (@pe_ix _ _ _ _ _ _ _ ix_tup (pv 0) (pv 2) (fun _ _=>rfl)) pa_nil)))) (pw_or1 (pt_cmp (pc_neI (@pe_ix _ _ _ _ _ _ _ ix_tup (pv 0) (pv 2) (fun _ _=>rfl)) (@pe_ix _ _ _ _ _ _ _ ix_tup (pv 1) (pv 2) (fun _ _=>rfl)))))).pt
 (@pss_one _ _ _ (@ps_ret _ _ _ _ pe_bl))
 pss_nil)))
 (@pss_one _ _ _ (@ps_ret _ _ _ _ pe_bl)))),?_⟩
 refine ⟨_,rfl,_,"tuple",_,_,rfl,.inr ⟨a,_,rfl,rfl,hA.sq⟩,kit_same _,_,rfl,?_⟩
 refine iteF ?_
 refine ⟨_,rfl,a,_,rfl,.inr (hA.sq),_,rfl,b,_,rfl,.inr (hB.sq),_,_,rfl,rfl,_,rfl,?_⟩
 refine iteNS rfl ?_
 have hlen:(ws.map V.int).length=ws.length:=List.length_map _
 refine ⟨_,rfl,b,_,rfl,.inr (hB.sq),_,rfl,by omega,by rw [hlen];omega,?_⟩
 rw [Int.toNat_natCast,hlen]
 refine for_range (lo:=0) (n:=ws.length) (fun i σ H'=>∃ (k:Option V),σ=[some (.ref a),some (.ref b),k]∧H'=H) ⟨none,rfl,rfl⟩ ?_ ?_
 ·rintro i σ H' hi ⟨k,rfl,rfl⟩
  have ea:atI (ws.map V.int) (0 + (i:Int))=some (.int ws[i]):=by
   rw [Int.zero_add]
   exact atI_nat (by rw [List.getElem?_map,List.getElem?_eq_getElem hi] <;> rfl)
  refine ⟨_,rfl,_,rfl,a,_,_,_,rfl,rfl,hA.sq,ea,_,rfl,_,rfl,?_⟩
  refine iteF ?_
  refine ⟨_,rfl,_,rfl,a,_,_,_,rfl,rfl,hA.sq,ea,_,rfl,_,rfl,b,_,_,_,rfl,rfl,hB.sq,ea,_,_,rfl,rfl,_,rfl,?_⟩
  exact iteNS rfl ⟨_,rfl,rfl⟩
 ·rintro σ H' ⟨k,rfl,rfl⟩
  exact q

def spMay (K:PySem.W.Frag):Sp:=fun vs H Q _=>∃ (v d:V),vs=[v,d]∧((v = .non∧d = .non)∨∃ (a b:Addr) (ws:List Int),v = .ref a∧d = .ref b∧TupK K H a (ws.map V.int)∧TupK K H b (ws.map V.int)∧ws.length≤1000)∧Q (.bl true) H
theorem d_l_may (T:Txt K mg):DefOk P w K mg base "_law_may" ["_law_found","_law_due"] 3 (spMay K):=by
 obtain ⟨f,fd,F,hm,hb⟩:=T.h_l_may
 refine ⟨f,fd,F.ok sc_l_may (fun vs H Q E h=>?_) (fun cdv A outer s H vs Q E hr h=>?_),hm,F.kp,hb⟩
 ·obtain ⟨v,d,rfl,_⟩:=h
  rfl
 obtain ⟨v,d,rfl,h,q⟩:=h
 refine ⟨_,(@pss_cons _ _ _ _ _ (ps_if (pt_cmp (pc_isN (pv 1)))
 (@pss_one _ _ _ (@ps_ret _ _ _ _ (pe_cmp (pc_isN (pv 0)))))
 pss_nil)
 (@pss_one _ _ _ (@ps_ret _ _ _ _ (pe_callD (d_l_is T) hr (pa_cons (pv 0) (pa_cons (pv 1) pa_nil)))))),?_⟩
 rcases h with ⟨rfl,rfl⟩ | ⟨a,b,ws,rfl,rfl,h1,h2,h3⟩
 ·exact ⟨_,rfl,_,rfl,iteDT rfl ⟨_,rfl,q⟩⟩
 ·exact ⟨_,rfl,_,rfl,iteDF (fun z=>by cases z) ⟨_,rfl,_,rfl,a,b,ws,rfl,h1,h2,h3,q⟩⟩

def spRows (K:PySem.W.Frag):Sp:=fun vs H Q _=>∃ (D E:Addr),vs=[.ref D,.ref E]∧RowsOk K H D E∧Q (.bl true) H
theorem d_l_rows (T:Txt K mg):DefOk P w K mg base "_law_rows" ["_law_found","_law_due"] 4 (spRows K):=by
 obtain ⟨f,fd,F,hm,hb⟩:=T.h_l_rows
 refine ⟨f,fd,F.ok sc_l_rows (fun vs H Q E h=>?_) (fun cdv A outer s H vs Q E hr h=>?_),hm,F.kp,hb⟩
 ·obtain ⟨D,E,rfl,_⟩:=h
  rfl
 obtain ⟨D,E',rfl,⟨xs,ys,h1,h2,hxy,hl,hm'⟩,q⟩:=h
 refine ⟨_,(@pss_cons _ _ _ _ _ (ps_if (pw_or (pt_not (pt_val (pe_callB call_isinst (by rfl) T.z_isinstance PyProof.Rows.boot_isinstance (pa_cons (pv 0) (pa_cons (pe_bltn (by rfl) T.z_list PyProof.Rows.boot_list (v:=.ty "list") rfl) pa_nil))))) (pw_or1 (pt_cmp (pc_neI (pe_callB call_len_seq (by rfl) T.z_len PySem.boot_len (pa_cons (pv 0) pa_nil)) (pe_callB call_len_seq (by rfl) T.z_len PySem.boot_len (pa_cons (pv 1) pa_nil)))))).pt
 (@pss_one _ _ _ (@ps_ret _ _ _ _ pe_bl))
 pss_nil)
 (@pss_cons _ _ _ _ _ (ps_for PassesOwn.never rfl (pi_range1 (by rfl) T.z_range (pa_cons (pe_callB call_len_seq (by rfl) T.z_len PySem.boot_len (pa_cons (pv 1) pa_nil)) pa_nil)) (pg_name (i:=2) sc_l_rows.nd rfl (Or.inl rfl))
 (@pss_one _ _ _ (ps_if (pt_not (pt_val (pe_callD (d_l_may T) hr (pa_cons (@pe_ix _ _ _ _ _ _ _ ix_list (pv 0) (pv 2) (fun _ _=>rfl)) (pa_cons (@pe_ix _ _ _ _ _ _ _ ix_list (pv 1) (pv 2) (fun _ _=>rfl)) pa_nil)))))
 (@pss_one _ _ _ (@ps_ret _ _ _ _ pe_bl))
 pss_nil)))
 (@pss_one _ _ _ (@ps_ret _ _ _ _ pe_bl)))),?_⟩
 refine ⟨_,rfl,_,"list",_,_,rfl,.lst h1,kit_same _,_,rfl,?_⟩
 refine iteF ?_
 refine ⟨_,rfl,D,_,rfl,.inl (SqL.of h1),_,rfl,E',_,rfl,.inl (SqL.of h2),_,_,rfl,rfl,_,rfl,?_⟩
 refine iteNS (by rw [hxy]) ?_
 refine ⟨_,rfl,E',_,rfl,.inl (SqL.of h2),_,rfl,by omega,by omega,?_⟩
 rw [Int.toNat_natCast]
 refine for_range (lo:=0) (n:=ys.length) (fun i σ H'=>∃ (k:Option V),σ=[some (.ref D),some (.ref E'),k]∧H'=H) ⟨none,rfl,rfl⟩ ?_ ?_
 ·rintro i σ H' hi ⟨k,rfl,rfl⟩
  have g1:xs[i]? = some (xs[i]'(by omega)):=List.getElem?_eq_getElem _
  have g2:ys[i]? = some ys[i]:=List.getElem?_eq_getElem _
  have a1:atI xs (0 + (i:Int))=some (xs[i]'(by omega)):=by rw [Int.zero_add];exact atI_nat g1
  have a2:atI ys (0 + (i:Int))=some ys[i]:=by rw [Int.zero_add];exact atI_nat g2
  refine ⟨_,rfl,_,rfl,D,_,_,_,rfl,rfl,SqL.of h1,a1,_,rfl,_,rfl,E',_,_,_,rfl,rfl,SqL.of h2,a2,?_⟩
  refine ⟨_,_,rfl,hm' i _ _ g1 g2,_,rfl,iteF ?_⟩
  exact ⟨_,rfl,rfl⟩
 ·rintro σ H' ⟨k,rfl,rfl⟩
  exact q

def spRowN (K:PySem.W.Frag):Sp:=fun vs H Q _=>∃ (a b:Addr) (xs:List V),vs=[.ref a,.ref b]∧H a=some (.lst xs)∧H b=some (.lst xs)∧xs.length≤1000∧(∀ x∈xs,x = .non∨∃ i,x = .int i)∧Q (.bl true) H
theorem d_l_row_or_none (T:Txt K mg):DefOk P w K mg base "_law_row_or_none" ["_law_found","_law_due"] 2 (spRowN K):=by
 obtain ⟨f,fd,F,hm,hb⟩:=T.h_l_row_or_none
 refine ⟨f,fd,F.ok sc_l_row_or_none (fun vs H Q E h=>?_) (fun cdv A outer s H vs Q E hr h=>?_),hm,F.kp,hb⟩
 ·obtain ⟨a,b,xs,rfl,_⟩:=h
  rfl
 obtain ⟨a,b,xs,rfl,hA,hB,hl,hx,q⟩:=h
 refine ⟨_,(@pss_cons _ _ _ _ _ (ps_if (pw_or (pt_not (pt_val (pe_callB call_isinst (by rfl) T.z_isinstance PyProof.Rows.boot_isinstance (pa_cons (pv 0) (pa_cons (pe_bltn (by rfl) T.z_list PyProof.Rows.boot_list (v:=.ty "list") rfl) pa_nil))))) (pw_or1 (pt_cmp (pc_neI (pe_callB call_len_seq (by rfl) T.z_len PySem.boot_len (pa_cons (pv 0) pa_nil)) (pe_callB call_len_seq (by rfl) T.z_len PySem.boot_len (pa_cons (pv 1) pa_nil)))))).pt
 (@pss_one _ _ _ (@ps_ret _ _ _ _ pe_bl))
 pss_nil)
 (@pss_cons _ _ _ _ _ (ps_for PassesOwn.never rfl (pi_range1 (by rfl) T.z_range (pa_cons (pe_callB call_len_seq (by rfl) T.z_len PySem.boot_len (pa_cons (pv 1) pa_nil)) pa_nil)) (pg_name (i:=2) sc_l_row_or_none.nd rfl (Or.inl rfl))
 (@pss_cons _ _ _ _ _ (ps_if (pw_and (pt_cmp (pc_isN (@pe_ix _ _ _ _ _ _ _ ix_list (pv 1) (pv 2) (fun _ _=>rfl)))) (pw_and1 (pt_cmp (pc_notN (@pe_ix _ _ _ _ _ _ _ ix_list (pv 0) (pv 2) (fun _ _=>rfl)))))).pt
 (@pss_one _ _ _ (@ps_ret _ _ _ _ pe_bl))
 pss_nil)
 (@pss_one _ _ _ (ps_if (pw_and (pt_cmp (pc_notN (@pe_ix _ _ _ _ _ _ _ ix_list (pv 1) (pv 2) (fun _ _=>rfl)))) (pw_and1 (pw_or (pt_not (pt_val (pe_callD (d_l_whole T) hr (pa_cons (@pe_ix _ _ _ _ _ _ _ ix_list (pv 0) (pv 2) (fun _ _=>rfl)) pa_nil)))) (pw_or1 (pt_cmp (pc_neI (@pe_ix _ _ _ _ _ _ _ ix_list (pv 0) (pv 2) (fun _ _=>rfl)) (@pe_ix _ _ _ _ _ _ _ ix_list (pv 1) (pv 2) (fun _ _=>rfl)))))).pt)).pt
 (@pss_one _ _ _ (@ps_ret _ _ _ _ pe_bl))
 pss_nil))))
 (@pss_one _ _ _ (@ps_ret _ _ _ _ pe_bl)))),?_⟩
 refine ⟨_,rfl,_,"list",_,_,rfl,.lst hA,kit_same _,_,rfl,?_⟩
 refine iteF ?_
 refine ⟨_,rfl,a,_,rfl,.inl (SqL.of hA),_,rfl,b,_,rfl,.inl (SqL.of hB),_,_,rfl,rfl,_,rfl,?_⟩
 refine iteNS rfl ?_
 refine ⟨_,rfl,b,_,rfl,.inl (SqL.of hB),_,rfl,by omega,by omega,?_⟩
 rw [Int.toNat_natCast]
 refine for_range (lo:=0) (n:=xs.length) (fun i σ H'=>∃ (k:Option V),σ=[some (.ref a),some (.ref b),k]∧H'=H) ⟨none,rfl,rfl⟩ ?_ ?_
 ·rintro i σ H' hi ⟨k,rfl,rfl⟩
  have ea:atI xs (0 + (i:Int))=some xs[i]:=by
   rw [Int.zero_add]
   exact atI_nat (List.getElem?_eq_getElem hi)
  rcases hx xs[i] (List.getElem_mem hi) with e | ⟨z,e⟩
  ·rw [e] at ea
   refine ⟨_,rfl,_,rfl,b,_,_,_,rfl,rfl,SqL.of hB,ea,_,rfl,?_⟩
   refine iteDT rfl ?_
   refine ⟨_,rfl,_,rfl,a,_,_,_,rfl,rfl,SqL.of hA,ea,_,rfl,?_⟩
   refine iteNS rfl ?_
   refine ⟨_,rfl,_,rfl,b,_,_,_,rfl,rfl,SqL.of hB,ea,_,rfl,?_⟩
   refine iteNS rfl ?_
   exact ⟨_,rfl,rfl⟩
  ·rw [e] at ea
   refine ⟨_,rfl,_,rfl,b,_,_,_,rfl,rfl,SqL.of hB,ea,_,rfl,?_⟩
   refine iteDF (fun z=>nomatch z) ?_
   refine iteF ?_
   refine ⟨_,rfl,_,rfl,b,_,_,_,rfl,rfl,SqL.of hB,ea,_,rfl,?_⟩
   refine iteND (fun _=>?_) (fun z=>nomatch z)
   refine ⟨_,rfl,_,rfl,a,_,_,_,rfl,rfl,SqL.of hA,ea,_,rfl,_,rfl,?_⟩
   refine iteF ?_
   refine ⟨_,rfl,_,rfl,a,_,_,_,rfl,rfl,SqL.of hA,ea,_,rfl,_,rfl,b,_,_,_,rfl,rfl,SqL.of hB,ea,_,_,rfl,rfl,_,rfl,?_⟩
   exact iteNS rfl ⟨_,rfl,rfl⟩
 ·rintro σ H' ⟨k,rfl,rfl⟩
  exact q

theorem d_m_Lathe_mounted (T:Txt K mg):MethOk P w K mg base (cOf mg "Lathe") "mounted" ["self"] 9 (spAsk K mg (tellTrain K)):=by
 obtain ⟨f,fd,F,hm,hb⟩:=T.hm_Lathe_mounted
 refine ⟨f,fd,F.ok1 sc_m_Lathe_mounted (fun vs H Q E h=>?_) (fun cdv A outer s H vs Q E hr h=>?_),hm,T.cl_Lathe,hb⟩
 ·obtain ⟨a,l,F,rfl,_⟩:=h
  rfl
 obtain ⟨a,l,F,rfl,R0,q⟩:=h
 have R1:=R0
 obtain ⟨Fp,dx,s,pa,ra,rdx,ea,es,R⟩:=R1
 refine ⟨_,(@pss_one _ _ _ (@ps_ret _ _ _ _ (pe_fld (pe_fld (pv 0) rfl) rfl))),?_⟩
 obtain ⟨pdx,t,rv,w,c,fv,tc,mc,cu,Rp⟩:=R.pc
 exact ⟨_,rfl,_,_,_,_,_,rfl,R.ob,T.cl_Lathe,T.na_Lathe_piece,rfl,_,_,_,_,_,rfl,Rp.ob,T.cl_Piece,T.na_Piece_train,rfl,q _ _ F R0 (Fit.refl _ _) ⟨t,rfl,Rp.tr⟩⟩

theorem d_m_Lathe_off (T:Txt K mg):MethOk P w K mg base (cOf mg "Lathe") "off" ["self"] 9 (spAsk K mg (tellOpt K PS.off)):=by
 obtain ⟨f,fd,F,hm,hb⟩:=T.hm_Lathe_off
 refine ⟨f,fd,F.ok1 sc_m_Lathe_off (fun vs H Q E h=>?_) (fun cdv A outer s H vs Q E hr h=>?_),hm,T.cl_Lathe,hb⟩
 ·obtain ⟨a,l,F,rfl,_⟩:=h
  rfl
 obtain ⟨a,l,F,rfl,R0,q⟩:=h
 have R1:=R0
 obtain ⟨Fp,dx,s,pa,ra,rdx,ea,es,R⟩:=R1
 refine ⟨_,(@pss_one _ _ _ (@ps_ret _ _ _ _ (pe_methX0 (d_m_Piece_off T) hr (passOut out_cx) (pe_fld (pv 0) rfl)))),?_⟩
 obtain ⟨pdx,t,rv,w,c,fv,tc,mc,cu,Rp⟩:=R.pc
 exact ⟨_,rfl,_,_,_,_,_,rfl,R.ob,T.cl_Lathe,T.na_Lathe_piece,rfl,pa,pdx,_,rfl,Rp.ob,rfl,pa,l.ps,Fp,rfl,R.pc,R.re.pco,fun v H' s' hv=>q v H' F (R0.same s') (Fit.of_same s') hv.fr⟩

structure Told31 (l:LS) (ts:List Int) (way n:Int):Prop where
 bk:l.book=[.mount ts,.close,.cut (1,2),.opn,.move (way,1),.close,.cut (1,3)]
 cu:l.ps.cuts=[(0,0),(way,way * (ratio ts).2 % (ratio ts).1)]
 of:l.ps.off=some (way,1)
 tr:l.ps.train=ts
 pi:l.ps.pitch=some (ratio ts)
 te:l.teeth=n
theorem booked_vals {K:PySem.W.Frag} {H:Hp}:∀ {ds:List Deed} {rs:List Addr},Booked K H ds rs→∃ ws:List V,Paired (fun (r:Addr) (v:V)=>∃ d:Str,H r=some (.tup [.str d,v])) rs ws∧Paired (fun v d=>WhatA K H v d) ws ds
 | _,_,.nil=>⟨[],.nil,.nil⟩
 | _,_,.cons ⟨wv,h1,h2⟩ t=>by
  obtain ⟨ws,a,b⟩:=booked_vals t
  exact ⟨wv::ws,.cons ⟨_,h1⟩ a,.cons h2 b⟩
theorem pair_nth {R:Addr→V→Prop}:∀ {rs:List Addr} {ws:List V} {i:Nat} {x:V},Paired R rs ws→(rs.map V.ref)[i]? = some x→∃ r v,x = .ref r∧ws[i]? = some v∧R r v
 | _,_,i,x,.nil,h=>by simp at h
 | _,_,0,x,.cons h t,e=>⟨_,_,by simpa using e.symm,rfl,h⟩
 | _,_,i + 1,x,.cons h t,e=>by
  obtain ⟨r,u,e1,e2,e3⟩:=pair_nth (i:=i) (x:=x) t (by simpa using e)
  exact ⟨r,u,e1,by simpa using e2,e3⟩
theorem pair_two {α β:Type} {R:α→β→Prop}:∀ {rs:List α} {ws:List β} {i:Nat} {x:α} {y:β},Paired R rs ws→rs[i]? = some x→ws[i]? = some y→R x y
 | _,_,i,x,y,.nil,h,_=>by simp at h
 | _,_,0,x,y,.cons h t,e,f=>by cases e;cases f;exact h
 | _,_,i + 1,x,y,.cons h t,e,f=>pair_two (i:=i) t (by simpa using e) (by simpa using f)
theorem shB_mod {p n c:Int} (n0:0<n) (p1:1≤p):marksL n.toNat (shB p n (c % p) n.toNat)=marksL n.toNat (shB p n c n.toNat):=by
 unfold marksL
 refine List.filter_congr fun m hm=>?_
 obtain ⟨i,hi,rfl⟩:=List.mem_map.mp hm
 have hi:=List.mem_range.mp hi
 rw [shown_iff n0 p1 (by omega) (by omega),shown_iff n0 p1 (by omega) (by omega)]
 congr 2
 exact Int.emod_emod_of_dvd c (Int.gcd_dvd_left _ _)
def spTells (K:PySem.W.Frag) (mg:Str→Option Value):Sp:=fun vs H Q _=>∃ (x t M:Addr) (way n:Int) (l:LS) (F:Addr→Prop) (ts:List Int),vs=[.ref x,.ref t,.int way,.int n,.ref M]∧LRep K mg H x l F∧TupK K H t (ts.map V.int)∧Train ts∧Told31 l ts way n∧1≤way∧way≤40∧2≤n∧n≤64∧Ob F H M (.lst (marksV (ratio ts) n)) ∧
 ∀ H' F',LRep K mg H' x l F'→Fit F F' H H'→Q (.bl true) H'
theorem d_l_tells (T:Txt K mg):DefOkX P w K mg base "_law_tells" ["_law_lathe","_law_train","_law_way","_law_teeth_here","_law_marks"] 10 (spTells K mg):=by
 obtain ⟨f,fd,F,hm,hb⟩:=T.h_l_tells
 refine ⟨f,fd,F.ok1 sc_l_tells (fun vs H Q E h=>?_) (fun cdv A outer s H vs Q E hr h=>?_),hm,F.kp,hb⟩
 ·obtain ⟨x,t,M,way,n,l,F,ts,rfl,_⟩:=h
  rfl
 obtain ⟨x,t,M,way,n,l,F,ts,rfl,R,ht,Tr,C,w0,w1,n2,n64,hM,q⟩:=h
 refine ⟨_,(@pss_cons _ _ _ _ _ (@ps_set _ _ 5 _ _ _ _ sc_l_tells.nd rfl (Or.inl rfl) (pe_callD (d_l_ratio T) hr (pa_cons (pv 1) pa_nil)) (by rfl) (by first | exact .inl rfl | exact .inr rfl))
 (@pss_cons _ _ _ _ _ (@ps_set _ _ 6 _ _ _ _ sc_l_tells.nd rfl (Or.inl rfl) (pe_op op_mod (pe_op op_mulX (pv 2) (@pe_ix _ _ _ _ _ _ _ ix_tup (pv 5) pe_int (fun _ _=>rfl))) (@pe_ix _ _ _ _ _ _ _ ix_tup (pv 5) pe_int (fun _ _=>rfl))) (by rfl) (by first | exact .inl rfl | exact .inr rfl))
 (@pss_cons _ _ _ _ _ (ps_if (pw_or (pt_not (pt_val (pe_callD (d_l_rows T) hr (pa_cons (pe_methX0 (d_m_Lathe_passes T) hr (passOut out_cx) (pv 0)) (pa_cons (@pe_lst _ _ _ _ (@pa_consT _ _ _ _ _ _ _ (@pe_tup _ _ _ _ _ (@pa_consK _ _ _ _ _ _ _ pe_int (@pa_consK _ _ _ _ _ _ _ pe_int pa_nil))) (@pa_consT _ _ _ _ _ _ _ (@pe_tup _ _ _ _ _ (pa_cons (pv 2) (pa_cons (pv 6) pa_nil))) pa_nil))) pa_nil))))) (pw_or1 (pt_cmp (pc_neI (pe_callB call_len_seq (by rfl) T.z_len PySem.boot_len (pa_cons (pe_methX0 (d_m_Lathe_book T) hr (passOut out_cx) (pv 0)) pa_nil)) pe_int)))).pt
 (@pss_one _ _ _ (@ps_ret _ _ _ _ pe_bl))
 pss_nil)
 (@pss_cons _ _ _ _ _ (@ps_set _ _ 7 _ _ _ _ sc_l_tells.nd rfl (Or.inl rfl) (@pe_lst _ _ _ _ (pa_cons (pv 1) (@pa_consK _ _ _ _ _ _ _ pe_non (@pa_consT _ _ _ _ _ _ _ (@pe_tup _ _ _ _ _ (@pa_consK _ _ _ _ _ _ _ pe_int (@pa_consK _ _ _ _ _ _ _ pe_int pa_nil))) (@pa_consK _ _ _ _ _ _ _ pe_non (@pa_consT _ _ _ _ _ _ _ (@pe_tup _ _ _ _ _ (pa_cons (pv 2) (@pa_consK _ _ _ _ _ _ _ pe_int pa_nil))) (@pa_consK _ _ _ _ _ _ _ pe_non (@pa_consT _ _ _ _ _ _ _ (@pe_tup _ _ _ _ _ (@pa_consK _ _ _ _ _ _ _ pe_int (@pa_consK _ _ _ _ _ _ _ pe_int pa_nil))) pa_nil)))))))) (by rfl) (by first | exact .inl rfl | exact .inr rfl))
 (@pss_cons _ _ _ _ _ (ps_if (pw_or (pt_not (pt_val (pe_callD (d_l_rows T) hr (pa_cons (pe_comp0 rfl (sc:=defScope s_l_tells) rfl (N:=["_law_lathe","_law_train","_law_way","_law_teeth_here","_law_marks","_law_pitch","_law_groove","_law_whats","_law_found"]) rfl ⟨by decide +kernel,rfl,by decide +kernel,by decide +kernel,rfl,by decide +kernel,by decide +kernel,by decide +kernel⟩ (pi_list (pe_methX0 (d_m_Lathe_book T) hr (passOut out_cx) (pv 0))) (fun _ _ _ _ _ _=>(@pe_ix _ _ _ _ _ _ _ (ix_tupK (K:=K) rfl) (pv 0) pe_int (fun _ _=>rfl)))) (pa_cons (pv 7) pa_nil))))) (pw_or1 (pt_not (pt_val (pe_callD (d_l_is T) hr (pa_cons (pe_methX0 (d_m_Lathe_mounted T) hr (passOut out_cx) (pv 0)) (pa_cons (pv 1) pa_nil))))))).pt
 (@pss_one _ _ _ (@ps_ret _ _ _ _ pe_bl))
 pss_nil)
 (@pss_cons _ _ _ _ _ (ps_if (pw_or (pt_not (pt_val (pe_callD (d_l_row_or_none T) hr (pa_cons (pe_methX0 (d_m_Lathe_marks T) hr (passOut out_cx) (pv 0)) (pa_cons (pv 4) pa_nil))))) (pw_or1 (pt_not (pt_val (pe_callD (d_l_is T) hr (pa_cons (pe_methX0 (d_m_Lathe_off T) hr (passOut out_cx) (pv 0)) (@pa_consT _ _ _ _ _ _ _ (@pe_tup _ _ _ _ _ (pa_cons (pv 2) (@pa_consK _ _ _ _ _ _ _ pe_int pa_nil))) pa_nil))))))).pt
 (@pss_one _ _ _ (@ps_ret _ _ _ _ pe_bl))
 pss_nil)
 (@pss_cons _ _ _ _ _ (ps_if (pt_cmp (pc_eqI (pv 6) pe_int))
 (@pss_one _ _ _ (@ps_ret _ _ _ _ (pe_cmp (pc_isN (pe_methX0 (d_m_Lathe_spoilt T) hr (passOut out_cx) (pv 0))))))
 pss_nil)
 (@pss_cons _ _ _ _ _ (@ps_set _ _ 8 _ _ _ _ sc_l_tells.nd rfl (Or.inl rfl) (pe_methX0 (d_m_Lathe_spoilt T) hr (passOut out_cx) (pv 0)) (by rfl) (by first | exact .inl rfl | exact .inr rfl))
 (@pss_cons _ _ _ _ _ (ps_if (pw_or (pt_not (pt_val (pe_callB call_isinst (by rfl) T.z_isinstance PyProof.Rows.boot_isinstance (pa_cons (pv 8) (pa_cons (pe_bltn (by rfl) T.z_tuple PyProof.Rows.boot_tuple (v:=.ty "tuple") rfl) pa_nil))))) (pw_or1 (pt_not (pt_val (pe_callD (d_l_is T) hr (pa_cons (pe_slice sl_tup (pv 8) po_none (po_some pe_int)) (@pa_consT _ _ _ _ _ _ _ (@pe_tup _ _ _ _ _ (@pa_consK _ _ _ _ _ _ _ pe_int (pa_cons (pv 6) (pa_cons (pe_op op_mod (pv 2) (@pe_ix _ _ _ _ _ _ _ ix_tup (pv 5) pe_int (fun _ _=>rfl))) pa_nil)))) pa_nil))))))).pt
 (@pss_one _ _ _ (@ps_ret _ _ _ _ pe_bl))
 pss_nil)
 (@pss_one _ _ _ (@ps_ret _ _ _ _ (pe_callD (d_l_row T) hr (pa_cons (@pe_ix _ _ _ _ _ _ _ ix_tup (pv 8) pe_int (fun _ _=>rfl)) (pa_cons (pe_callD (d_l_shown T) hr (pa_cons (pv 2) (pa_cons (@pe_ix _ _ _ _ _ _ _ ix_tup (pv 5) pe_int (fun _ _=>rfl)) (pa_cons (pv 3) pa_nil)))) pa_nil)))))))))))))),?_⟩
 have Lp:=Tr.pl
 have lp1:=Lp.p1
 have lq1:=Lp.q1
 have lp2:=Lp.p2
 have bw:Bd 64 way:=bd20 (by omega) (by omega)
 have tl1:(ts.map V.int).length≤1000:=by rw [List.length_map];have:=Tr.len;omega
 refine ⟨_,rfl,t,ts,rfl,.inr ht.sq,Tr,fun p hp=>?_⟩
 generalize hG:upd H p _=H1
 have s1:Same H H1:=by rw [← hG];exact same_new hp _
 have e1:H1 p=some (.tup [.int (ratio ts).1,.int (ratio ts).2]):=by rw [← hG];exact upd_same
 clear hG hp
 refine ⟨_,rfl,_,rfl,_,_,_,_,rfl,rfl,SqT.of (e1),rfl,_,_,rfl,rfl,.inr ⟨bw.mono (by decide),Lp.bq.mono (by decide)⟩,_,rfl,_,_,_,_,rfl,rfl,SqT.of (e1),rfl,_,_,rfl,rfl,(by omega),?_⟩
 dsimp only
 obtain ⟨g,hg⟩:∃ g,g=way * (ratio ts).2 % (ratio ts).1:=⟨_,rfl⟩
 rw [← hg]
 have cu:l.ps.cuts=[(0,0),(way,g)]:=by rw [hg];exact C.cu
 have R1:=R.same s1
 have f1:=Fit.of_same (F:=F) s1
 obtain ⟨dx1,fs1,ins1,no1⟩:=R1.ins
 refine ⟨_,rfl,x,dx1,fs1,rfl,ins1,no1 "passes" (by decide +kernel),x,l,F,rfl,R1,fun v H2 F2 R2 g2 ⟨D,e,_,_,tlD⟩=>?_⟩
 subst e
 have f2:=f1.trans g2
 have e1:=g2.tup _ _ e1
 refine ⟨(by show 2≤sizeLine;decide),fun a1 h1=>?_⟩
 have u1:=same_new h1 (.tup [.int 0,.int 0])
 refine ⟨_,rfl,_,rfl,(by show 2≤sizeLine;decide),fun a2 h2=>?_⟩
 have u2:=same_new h2 (.tup [.int way,.int g])
 refine ⟨(by show 2≤sizeLine;decide),fun E hE=>?_⟩
 have u3:=same_new hE (.lst [.ref a1,.ref a2])
 have u:=u1.trans (u2.trans u3)
 have tlE:TL (upd (upd (upd H2 a1 (.tup [.int 0,.int 0])) a2 (.tup [.int way,.int g])) E (.lst [.ref a1,.ref a2])) E [[0,0],[way,g]]:=⟨[a1,a2],upd_same,.cons (u3 _ _ (u2 _ _ upd_same)) (.cons (u3 _ _ upd_same) .nil)⟩
 have tlD:TL (upd (upd (upd H2 a1 (.tup [.int 0,.int 0])) a2 (.tup [.int way,.int g])) E (.lst [.ref a1,.ref a2])) D [[0,0],[way,g]]:=by
  obtain ⟨rs,z1,z2⟩:=tlD
  rw [cu] at z2
  exact ⟨rs,u _ _ z1,pair_mono u z2⟩
 generalize upd (upd (upd H2 a1 (.tup [.int 0,.int 0])) a2 (.tup [.int way,.int g])) E (.lst [.ref a1,.ref a2])=H3 at tlE tlD u ⊢
 refine ⟨D,E,rfl,tl_may tlD tlE (by show 2≤1000;decide) (fun t ht=>by simp only [List.mem_cons,List.not_mem_nil,or_false] at ht;rcases ht with rfl | rfl <;> simp),_,rfl,iteF ?_⟩
 have R3:=R2.same u
 have e1:=u _ _ e1
 have f3:=f2.trans (Fit.of_same (F:=F2) u)
 clear tlD tlE u u1 u2 u3 h1 h2 hE R1 R2 f1 f2 g2 ins1 no1
 obtain ⟨dx3,fs3,ins3,no3⟩:=R3.ins
 refine ⟨_,rfl,x,dx3,fs3,rfl,ins3,no3 "book" (by decide +kernel),x,l,F2,rfl,R3,fun v H4 F4 R4 g4 ⟨D4,e,_,_,rs4,hD4,b4⟩=>?_⟩
 subst e
 have l4:=Paired.length b4
 rw [C.bk] at l4
 refine ⟨D4,_,rfl,.inl (SqL.of hD4),_,_,rfl,rfl,_,rfl,iteNS (by rw [List.length_map,l4];rfl) ?_⟩
 have f4:=f3.trans g4
 have e1:=g4.tup _ _ e1
 clear l4 b4 hD4 R3 f3 g4 ins3 no3
 refine ⟨_,rfl,(by show 2≤sizeLine;decide),fun a3 h3=>?_⟩
 have u3:=same_new h3 (.tup [.int 1,.int 2])
 refine ⟨_,rfl,(by show 2≤sizeLine;decide),fun a4 h4=>?_⟩
 have u4:=same_new h4 (.tup [.int way,.int 1])
 refine ⟨(by show 2≤sizeLine;decide),fun a5 h5=>?_⟩
 have u5:=same_new h5 (.tup [.int 1,.int 3])
 refine ⟨(by show 7≤sizeLine;decide),fun L hL=>?_⟩
 have u6:=same_new hL (.lst [.ref t,.non,.ref a3,.non,.ref a4,.non,.ref a5])
 generalize hG:upd (upd (upd (upd H4 a3 _) a4 _) a5 _) L _=H5
 have u:Same H4 H5:=by rw [← hG];exact u3.trans (u4.trans (u5.trans u6))
 have e3:H5 a3=some (.tup [.int 1,.int 2]):=by rw [← hG];exact u6 _ _ (u5 _ _ (u4 _ _ upd_same))
 have e4:H5 a4=some (.tup [.int way,.int 1]):=by rw [← hG];exact u6 _ _ (u5 _ _ upd_same)
 have e5:H5 a5=some (.tup [.int 1,.int 3]):=by rw [← hG];exact u6 _ _ upd_same
 have eL:H5 L=some (.lst [.ref t,.non,.ref a3,.non,.ref a4,.non,.ref a5]):=by rw [← hG];exact upd_same
 have R5:=R4.same u
 have e1:=u _ _ e1
 have f5:=f4.trans (Fit.of_same (F:=F4) u)
 have oL:Ob F4 H5 L (.lst [.ref t,.non,.ref a3,.non,.ref a4,.non,.ref a5]):=by
  refine ⟨eL,R4.newOk L ?_⟩
  exact u3.free (u4.free (u5.free hL))
 clear hG u3 u4 u5 u6 h3 h4 h5 hL R4 f4 u eL
 obtain ⟨dx5,fs5,ins5,no5⟩:=R5.ins
 refine ⟨_,rfl,x,dx5,fs5,rfl,ins5,no5 "book" (by decide +kernel),x,l,F4,rfl,R5,fun v H6 F6 R6 g6 ⟨D6,e,_,_,rs6,hD6,b6⟩=>?_⟩
 subst e
 have f6:=f5.trans g6
 have oL6:=oL.fit g6
 have e36:=g6.tup _ _ e3
 have e46:=g6.tup _ _ e4
 have e56:=g6.tup _ _ e5
 have ht6:=(ht.tups f6.tup)
 have e16:=g6.tup _ _ e1
 obtain ⟨ws,pw,pd⟩:=booked_vals b6
 rw [C.bk] at pd
 have lw:ws.length=7:=Paired.length pd
 have lr:=Paired.length pw
 have oM6:=hM.fit f6
 clear oL e3 e4 e5 R5 f5 g6 ins5 no5 b6 hM e1
 refine ⟨D6,rfl,⟨_,SqL.of hD6⟩,fun E6 hE6=>?_⟩
 refine comp_listD (K:=K) (a:=D6) (xs:=rs6.map V.ref) (tt:=fun _ H Q=>Q true H) (σ:=[some (.ref x),some (.ref t),some (.int way),some (.int n),some (.ref M),some (.ref p),some (.int g),some (.ref L),none]) (fun i G ys=>ys=ws.take i∧Same H6 G∧G E6=some (.lst ys)) ⟨by simp,same_new hE6 _,upd_same⟩ (fun i G ys ⟨_,s,hd⟩=>⟨SqL.of (s _ _ hD6),hd⟩) ?_ ?_
 ·rintro i v G ys kk hk hx ⟨rfl,s,hd⟩
  obtain ⟨r,wv,rfl,hw,dd,hr'⟩:=pair_nth pw hx
  refine iteT ⟨_,rfl,_,_,_,_,rfl,rfl,SqT.of ((s _ _ hr')),rfl,hd,(by rw [List.length_take];exact small1000 (by omega)),hk _ _ ⟨by rw [take_more hw],fun b o hb=>?_,upd_same⟩⟩
  rw [upd_ne (ne_of_none hb hE6)];exact s _ _ hb
 rintro G ys ⟨rfl,s,hd⟩
 rw [List.length_map,lr,List.take_length] at hd
 have htG:=ht6.mono s
 have R7:=R6.same s
 have f7:=f6.trans (Fit.of_same (F:=F6) s)
 have oM7:=oM6.same s
 have e17:=s _ _ e16
 have rows:RowsOk K G E6 L:=by
  refine ⟨ws,_,hd,s _ _ oL6.1,lw,by show 7≤1000;decide,fun i x y hx hy=>?_⟩
  have wa:∀ d,([.mount ts,.close,.cut (1,2),.opn,.move (way,1),.close,.cut (1,3)]:List Deed)[i]? = some d→WhatA K G x d:=fun d hd'=>(pair_two pd hx hd').tups (Same.tups s)
  rcases i with _ | _ | _ | _ | _ | _ | _ | i
  ·cases hy
   obtain ⟨a,rfl,h⟩:=wa _ rfl
   exact .inr ⟨a,t,ts,rfl,rfl,h,htG,by rw [← List.length_map (f:=V.int)];exact tl1⟩
  ·cases hy;exact .inl ⟨wa _ rfl,rfl⟩
  ·cases hy
   obtain ⟨a,rfl,h⟩:=wa _ rfl
   exact .inr ⟨a,a3,[1,2],rfl,rfl,h,.inl (s _ _ e36),by simp⟩
  ·cases hy;exact .inl ⟨wa _ rfl,rfl⟩
  ·cases hy
   obtain ⟨a,rfl,h⟩:=wa _ rfl
   exact .inr ⟨a,a4,[way,1],rfl,rfl,h,.inl (s _ _ e46),by simp⟩
  ·cases hy;exact .inl ⟨wa _ rfl,rfl⟩
  ·cases hy
   obtain ⟨a,rfl,h⟩:=wa _ rfl
   exact .inr ⟨a,a5,[1,3],rfl,rfl,h,.inl (s _ _ e56),by simp⟩
  ·simp at hy
 refine ⟨_,rfl,E6,L,rfl,rows,_,rfl,iteF ?_⟩
 clear rows hd s hD6 hE6 e16 e36 e46 e56 oL6 ht6 R6 f6 oM6 pw pd lw lr
 obtain ⟨dx7,fs7,ins7,no7⟩:=R7.ins
 refine ⟨_,rfl,x,dx7,fs7,rfl,ins7,no7 "mounted" (by decide +kernel),x,l,F6,rfl,R7,fun v H8 F8 R8 g8 ⟨pm,e,hm'⟩=>?_⟩
 subst e
 rw [C.tr] at hm'
 have ht8:=htG.tups g8.tup
 have e18:=g8.tup _ _ e17
 have f8:=f7.trans g8
 have oM8:=oM7.fit g8
 refine ⟨_,rfl,pm,t,ts,rfl,hm',ht8,(by rw [← List.length_map (f:=V.int)];exact tl1),_,rfl,iteF ?_⟩
 clear hm' htG e17 R7 f7 oM7 g8 ins7 no7
 obtain ⟨dx8,fs8,ins8,no8⟩:=R8.ins
 refine ⟨_,rfl,x,dx8,fs8,rfl,ins8,no8 "marks" (by decide +kernel),x,l,F8,rfl,R8,fun r hr' D9 H9 F9 R9 g9 _ _ h9=>?_,fun z=>by rw [C.pi] at z;cases z⟩
 rw [C.pi] at hr'
 cases hr'
 rw [C.te] at h9
 have oM9:=oM8.fit g9
 have e19:=g9.tup _ _ e18
 have f9:=f8.trans g9
 refine ⟨_,rfl,D9,M,marksV (ratio ts) n,rfl,h9,oM9.1,(by unfold marksV;rw [List.length_map,List.length_range];omega),(fun v hv=>?_),_,rfl,iteF ?_⟩
 ·obtain ⟨i,_,rfl⟩:=List.mem_map.mp hv
  rcases spoil_cases (ratio ts).1 n (i:Int) with ⟨_,_,e⟩ | ⟨_,c,e⟩
  ·exact .inl e
  ·exact .inr ⟨c,e⟩
 clear h9 e18 f8 oM8 R8 g9 ins8 no8
 obtain ⟨dx9,fs9,ins9,no9⟩:=R9.ins
 refine ⟨_,rfl,x,dx9,fs9,rfl,ins9,no9 "off" (by decide +kernel),x,l,F9,rfl,R9,fun v Ha Fa Ra ga ko=>?_⟩
 have ko:FrO K Ha v l.ps.off:=ko
 rw [C.of] at ko
 obtain ⟨oa,rfl,hoa⟩:=ko
 refine ⟨_,rfl,(by show 2≤sizeLine;decide),fun a9 h9=>?_⟩
 have u9:=same_new h9 (.tup [.int way,.int 1])
 refine ⟨oa,a9,[way,1],rfl,hoa.mono u9,.inl upd_same,by simp,_,rfl,iteF ?_⟩
 have Rb:=Ra.same u9
 have e1b:=u9 _ _ (ga.tup _ _ e19)
 have fb:=(f9.trans ga).trans (Fit.of_same (F:=Fa) u9)
 generalize upd Ha a9 (.tup [.int way,.int 1])=Hb at Rb e1b fb ⊢
 clear hoa u9 h9 Ra ga e19 f9 oM9 R9 ins9 no9
 obtain ⟨dxb,fsb,insb,nob⟩:=Rb.ins
 refine ⟨_,rfl,_,_,rfl,rfl,_,rfl,iteD (fun z=>?_) (fun z=>?_)⟩
 ·refine ⟨_,rfl,x,dxb,fsb,rfl,insb,nob "spoilt" (by decide +kernel),x,l,Fa,rfl,Rb,fun v Hc Fc Rc gc sp=>?_⟩
  rcases sp with ⟨rfl,_⟩ | ⟨k,c,_,_,_,_,hk,hc,_⟩
  ·rw [decide_eq_true (rfl:V.non=V.non)]
   exact q Hc Fc Rc (fb.trans gc)
  ·rw [cu] at hk
   have hk:=List.mem_of_getElem? hk
   simp only [List.mem_cons,List.not_mem_nil,or_false] at hk
   rcases hk with rfl | rfl
   ·exact absurd rfl hc
   ·exact absurd z hc
 ·refine ⟨_,rfl,x,dxb,fsb,rfl,insb,nob "spoilt" (by decide +kernel),x,l,Fa,rfl,Rb,fun v Hc Fc Rc gc sp=>?_⟩
  rcases sp with ⟨_,al⟩ | ⟨k,c,a,D,m,u,hk,hc,bf,rfl,ha,hm',hu,hD,_,_⟩
  ·exact absurd (al (way,g) (by rw [cu];simp)) z
  rw [cu] at hk bf
  have r0:l.ps.r=ratio ts:=by unfold PS.r;rw [C.pi];rfl
  rw [r0] at hm' hu hD
  rw [C.te] at hD
  have k1:k=1∧c=(way,g):=by
   rcases k with _ | _ | k
   ·cases hk;exact absurd rfl hc
   ·cases hk;exact ⟨rfl,rfl⟩
   ·simp at hk
  obtain ⟨rfl,rfl⟩:=k1
  have wm:way % (ratio ts).1 * (ratio ts).2 % (ratio ts).1=g:=by rw [hg,Int.mul_emod,Int.emod_emod_of_dvd _ (Int.dvd_refl _),← Int.mul_emod]
  have m0:=Int.emod_nonneg way (show (ratio ts).1≠0 by omega)
  have m1:=Int.emod_lt_of_pos way (show 0<(ratio ts).1 by omega)
  have one:∀ y,(0≤y∧y<(ratio ts).1∧y * (ratio ts).2 % (ratio ts).1=g)→y=way % (ratio ts).1:=fun y hy=>by
   rcases Int.le_total y (way % (ratio ts).1) with l | l
   ·exact groove_one Lp.co hy.2.2 wm l (by omega)
   ·exact (groove_one Lp.co wm hy.2.2 l (by omega)).symm
  have em:=one m hm'
  have eu:=one u hu
  subst em eu
  have e1c:=gc.tup _ _ e1b
  have fc:=fb.trans gc
  refine ⟨_,rfl,_,"tuple",_,_,rfl,.tup ha,kit_same _,_,rfl,iteF ?_⟩
  refine ⟨_,rfl,_,rfl,a,_,rfl,SqT.of ha,(by show ¬(HT.sIx 4 0 none=0∧HT.sIx 4 4 (some 3)=4);decide),fun p1 hp1=>?_⟩
  have u1:=same_new hp1 (.tup (cutV [.int (1 + ((1:Nat):Int)),.int g,.int (way % (ratio ts).1),.ref D] none (some 3)))
  refine ⟨_,rfl,_,rfl,_,rfl,_,_,_,_,rfl,rfl,SqT.of ((u1 _ _ e1c)),rfl,_,_,rfl,rfl,(by omega),(by show 3≤sizeLine;decide),fun p2 hp2=>?_⟩
  have u2:=same_new hp2 (.tup [.int 2,.int g,.int (way % (ratio ts).1)])
  refine ⟨p1,p2,[2,g,way % (ratio ts).1],rfl,.inl (u2 _ _ upd_same),.inl upd_same,by simp,_,rfl,iteF ?_⟩
  have u12:=u1.trans u2
  have Rd:=Rc.same u12
  have fd:=fc.trans (Fit.of_same (F:=Fc) u12)
  have had:=u12 _ _ ha
  have e1d:=u12 _ _ e1c
  have hDd:=u12 _ _ hD
  generalize hG:upd (upd Hc p1 _) p2 _=Hd at Rd fd had e1d hDd ⊢
  clear hG
  refine ⟨_,rfl,_,_,_,_,rfl,rfl,SqT.of (had),rfl,_,rfl,_,rfl,_,_,_,_,rfl,rfl,SqT.of (e1d),rfl,_,rfl,way,(ratio ts).1,n,rfl,by omega,by omega,lp1,lp2,n2,n64,fun Ds Hs ss _ hs=>?_⟩
  refine ⟨D,Ds,_,rfl,ss _ _ hDd,(by rw [shB_mod (by omega) lp1];exact hs),(Nat.le_trans (marksL_len _ _) (by omega)),?_⟩
  exact q Hs Fc (Rd.same ss) (fd.trans (Fit.of_same (F:=Fc) ss))

def spUnknown (K:PySem.W.Frag) (mg:Str→Option Value):Sp:=fun vs H Q _=>∃ (a t:Addr) (ts:List Int) (l:LS) (F:Addr→Prop),vs=[.ref a,.ref t]∧LRep K mg H a l F∧(H t=some (.lst (ts.map V.int))∨TupK K H t (ts.map V.int))∧ts.length≤1000∧(∀ v∈ts,Bd 200 v)∧due l (.mount ts)=some "UnknownWheel" ∧
 ∀ H' F',LRep K mg H' a l F'→Fit F F' H H'→Q (.bl true) H'
theorem d_l_unknown (T:Txt K mg):DefOk P w K mg base "_law_unknown" ["_law_lathe","_law_train"] 10 (spUnknown K mg):=by
 obtain ⟨f,fd,F,hm,hb⟩:=T.h_l_unknown
 refine ⟨f,fd,F.ok sc_l_unknown (fun vs H Q E h=>?_) (fun cdv A outer s H vs Q E hr h=>?_),hm,F.kp,hb⟩
 ·obtain ⟨a,t,ts,l,F,rfl,_⟩:=h
  rfl
 obtain ⟨a,t,ts,l,F,rfl,R,ht,hl,hb,hd,q⟩:=h
 refine ⟨_,(@pss_cons _ _ _ _ _ (ps_try (fun _ _=>(@pss_one _ _ _ (ps_expr (pe_methX (d_m_Lathe_mount T) hr (passTry body_nox (.cons (by rfl) T.g_UnknownWheel T.x_UnknownWheel (by decide) (fun _=>(@pss_one _ _ _ (@ps_ret _ _ _ _ pe_bl))) .nil)) (pv 0) (pa_cons (pv 1) pa_nil))))))
 (@pss_one _ _ _ (@ps_ret _ _ _ _ pe_bl))),?_⟩
 obtain ⟨dx,fs,ins,no⟩:=R.ins
 refine ⟨_,rfl,a,dx,fs,rfl,ins,no "mount" (by decide +kernel),_,rfl,a,t,ts,l,F,rfl,R,ht,hl,hb,⟨(fun d r H' F' R' f' st=>by rw [hd] at d;cases d),fun x hx H' F' R' f'=>?_⟩⟩
 rw [hd] at hx
 cases hx
 exact ⟨_,rfl,T.x_UnknownWheel,true,T.mro_UnknownWheel_UnknownWheel,iteT (q H' F' R' f')⟩

structure O31 (U:Addr→Prop) (H:Hp) (W HL h0 h1 h2 h3 DL T1:Addr) (ws:List Int) (a0 a1 a2 dl t1:List V):Prop where
 eW:H W=some (.lst (ws.map V.int))
 eHL:H HL=some (.lst [.ref h0,.ref h1,.ref h2,.ref h3])
 e0:H h0=some (.lst a0)
 e1:H h1=some (.lst a1)
 e2:H h2=some (.lst a2)
 e3:H h3=some (.lst (ws.map V.int))
 eD:H DL=some (.lst dl)
 eT:H T1=some (.lst t1)
 u:∀ D∈[W,HL,h0,h1,h2,h3,DL,T1],¬ U D
 nd:[W,HL,h0,h1,h2,h3,DL,T1].Nodup
section
variable {U U':Addr→Prop} {H H':Hp} {W HL h0 h1 h2 h3 DL T1:Addr} {ws:List Int} {a0 a1 a2 dl t1:List V}
theorem O31.fit (h:O31 U H W HL h0 h1 h2 h3 DL T1 ws a0 a1 a2 dl t1) (f:Fit U U' H H'):O31 U' H' W HL h0 h1 h2 h3 DL T1 ws a0 a1 a2 dl t1:=by
 have k:∀ D o,D∈[W,HL,h0,h1,h2,h3,DL,T1]→H D=some o→H' D=some o:=fun D o m e=>f.keep D o e (h.u D m)
 have z:∀ D∈[W,HL,h0,h1,h2,h3,DL,T1],∃ o,H D=some o:=fun D m=>by
  simp only [List.mem_cons,List.not_mem_nil,or_false] at m
  rcases m with rfl | rfl | rfl | rfl | rfl | rfl | rfl | rfl
  ·exact ⟨_,h.eW⟩
  ·exact ⟨_,h.eHL⟩
  ·exact ⟨_,h.e0⟩
  ·exact ⟨_,h.e1⟩
  ·exact ⟨_,h.e2⟩
  ·exact ⟨_,h.e3⟩
  ·exact ⟨_,h.eD⟩
  ·exact ⟨_,h.eT⟩
 exact ⟨k _ _ (by simp) h.eW,k _ _ (by simp) h.eHL,k _ _ (by simp) h.e0,k _ _ (by simp) h.e1,k _ _ (by simp) h.e2,k _ _ (by simp) h.e3,k _ _ (by simp) h.eD,k _ _ (by simp) h.eT,fun D m=>by obtain ⟨o,e⟩:=z D m;exact f.out e (h.u D m),h.nd⟩
theorem O31.putT (h:O31 U H W HL h0 h1 h2 h3 DL T1 ws a0 a1 a2 dl t1) (ys:List V):O31 U (upd H T1 (.lst ys)) W HL h0 h1 h2 h3 DL T1 ws a0 a1 a2 dl ys:=by
 have nd:=h.nd
 simp only [List.nodup_cons,List.mem_cons,List.not_mem_nil,or_false,not_or] at nd
 obtain ⟨⟨_,_,_,_,_,_,n0⟩,⟨_,_,_,_,_,n1⟩,⟨_,_,_,_,n2⟩,⟨_,_,_,n3⟩,⟨_,_,n4⟩,⟨_,n5⟩,n6,_⟩:=nd
 exact ⟨by rw [upd_ne n0];exact h.eW,by rw [upd_ne n1];exact h.eHL,by rw [upd_ne n2];exact h.e0,by rw [upd_ne n3];exact h.e1,by rw [upd_ne n4];exact h.e2,by rw [upd_ne n5];exact h.e3,by rw [upd_ne n6];exact h.eD,upd_same,h.u,h.nd⟩
theorem O31.putD (h:O31 U H W HL h0 h1 h2 h3 DL T1 ws a0 a1 a2 dl t1) (ys:List V):O31 U (upd H DL (.lst ys)) W HL h0 h1 h2 h3 DL T1 ws a0 a1 a2 ys t1:=by
 have nd:=h.nd
 simp only [List.nodup_cons,List.mem_cons,List.not_mem_nil,or_false,not_or] at nd
 obtain ⟨⟨_,_,_,_,_,n0,_⟩,⟨_,_,_,_,n1,_⟩,⟨_,_,_,n2,_⟩,⟨_,_,n3,_⟩,⟨_,n4,_⟩,⟨n5,_⟩,n6,_⟩:=nd
 exact ⟨by rw [upd_ne n0];exact h.eW,by rw [upd_ne n1];exact h.eHL,by rw [upd_ne n2];exact h.e0,by rw [upd_ne n3];exact h.e1,by rw [upd_ne n4];exact h.e2,by rw [upd_ne n5];exact h.e3,upd_same,by rw [upd_ne (Ne.symm n6)];exact h.eT,h.u,h.nd⟩
theorem O31.put0 (h:O31 U H W HL h0 h1 h2 h3 DL T1 ws a0 a1 a2 dl t1) (ys:List V):O31 U (upd H h0 (.lst ys)) W HL h0 h1 h2 h3 DL T1 ws ys a1 a2 dl t1:=by
 have nd:=h.nd
 simp only [List.nodup_cons,List.mem_cons,List.not_mem_nil,or_false,not_or] at nd
 obtain ⟨⟨_,n0,_⟩,⟨n1,_⟩,⟨n2,n3,n4,n5,n6⟩,_⟩:=nd
 exact ⟨by rw [upd_ne n0];exact h.eW,by rw [upd_ne n1];exact h.eHL,upd_same,by rw [upd_ne (Ne.symm n2)];exact h.e1,by rw [upd_ne (Ne.symm n3)];exact h.e2,by rw [upd_ne (Ne.symm n4)];exact h.e3,by rw [upd_ne (Ne.symm n5)];exact h.eD,by rw [upd_ne (Ne.symm n6)];exact h.eT,h.u,h.nd⟩
theorem O31.put1 (h:O31 U H W HL h0 h1 h2 h3 DL T1 ws a0 a1 a2 dl t1) (ys:List V):O31 U (upd H h1 (.lst ys)) W HL h0 h1 h2 h3 DL T1 ws a0 ys a2 dl t1:=by
 have nd:=h.nd
 simp only [List.nodup_cons,List.mem_cons,List.not_mem_nil,or_false,not_or] at nd
 obtain ⟨⟨_,_,n0,_⟩,⟨_,n1,_⟩,⟨n2,_⟩,⟨n3,n4,n5,n6⟩,_⟩:=nd
 exact ⟨by rw [upd_ne n0];exact h.eW,by rw [upd_ne n1];exact h.eHL,by rw [upd_ne n2];exact h.e0,upd_same,by rw [upd_ne (Ne.symm n3)];exact h.e2,by rw [upd_ne (Ne.symm n4)];exact h.e3,by rw [upd_ne (Ne.symm n5)];exact h.eD,by rw [upd_ne (Ne.symm n6)];exact h.eT,h.u,h.nd⟩
theorem O31.put2 (h:O31 U H W HL h0 h1 h2 h3 DL T1 ws a0 a1 a2 dl t1) (ys:List V):O31 U (upd H h2 (.lst ys)) W HL h0 h1 h2 h3 DL T1 ws a0 a1 ys dl t1:=by
 have nd:=h.nd
 simp only [List.nodup_cons,List.mem_cons,List.not_mem_nil,or_false,not_or] at nd
 obtain ⟨⟨_,_,_,n0,_⟩,⟨_,_,n1,_⟩,⟨_,n2,_⟩,⟨n3,_⟩,⟨n4,n5,n6⟩,_⟩:=nd
 exact ⟨by rw [upd_ne n0];exact h.eW,by rw [upd_ne n1];exact h.eHL,by rw [upd_ne n2];exact h.e0,by rw [upd_ne n3];exact h.e1,upd_same,by rw [upd_ne (Ne.symm n4)];exact h.e3,by rw [upd_ne (Ne.symm n5)];exact h.eD,by rw [upd_ne (Ne.symm n6)];exact h.eT,h.u,h.nd⟩
end
/-- the seven deeds -/
structure Run31 (ws ts:List Int) (n way:Int) (l1 l2 l3 l4 l5 l6 l7:LS):Prop where
 e1:l1=(⟨ws,n,[]⟩:LS).push (Req.mount ts).deed
 e2:l2=l1.push Req.close.deed
 e3:l3=l2.push (Req.cut 1 2).deed
 e4:l4=l3.push Req.opn.deed
 e5:l5=l4.push (Req.move way 1).deed
 e6:l6=l5.push Req.close.deed
 e7:l7=l6.push (Req.cut 1 3).deed
 d1:due ⟨ws,n,[]⟩ (.mount ts)=none
 d2:due l1 .close=none
 d3:due l2 (.cut 1 2)=none
 d4:due l3 .opn=none
 d5:due l4 (.move way 1)=none
 d6:due l5 .close=none
 d7:due l6 (.cut 1 3)=none
 C:Told31 l7 ts way n
 P:Pc l7.ps ts
 cl:l7.ps.closed=true
 bl:l7.book.length=7
 sh:l7.shop=ws
theorem run31 {ws ts:List Int} {n way:Int} (G:GoodShop ws n) (T:Train ts) (nd:ts.Nodup) (sub:∀ v∈ts,v∈ws) (w0:1≤way) (w1:way≤40):∃ l1 l2 l3 l4 l5 l6 l7,Run31 ws ts n way l1 l2 l3 l4 l5 l6 l7:=by
 have r12:red 1 2=(1,2):=by decide +kernel
 have r13:red 1 3=(1,3):=by decide +kernel
 have rw1:red way 1=(way,1):=red_self (a:=(way,1)) ⟨show (1:Int)≤1 by decide,show Int.gcd way 1=1 from Int.gcd_one_right way⟩
 have d1:due ⟨ws,n,[]⟩ (.mount ts)=none:=good_mount sub rfl T.len nd (by show 0<100;decide)
 obtain ⟨l1,e1⟩:∃ l1,l1=(⟨ws,n,[]⟩:LS).push (Req.mount ts).deed:=⟨_,rfl⟩
 have R1:Reach l1:=by rw [e1];exact Reach.step (.new G) d1
 have p1:l1.ps = { ps0 with train:=ts,pitch:=some (ratio ts) }:=by rw [e1,LS.ps_push];rfl
 have P1:Pc l1.ps ts:=by rw [p1];exact Pc.new T nd
 have b1:l1.book=[.mount ts]:=by rw [e1];rfl
 have s1:l1.shop=ws∧l1.teeth=n:=by rw [e1];exact ⟨rfl,rfl⟩
 have c1:l1.ps.closed=false:=by rw [p1];rfl
 have o1:l1.ps.off=none:=by rw [p1];rfl
 have k1:l1.ps.cuts=[]:=by rw [p1];rfl
 have t1:qv l1.ps.turned≤((0:Int):Rat):=by rw [p1];show qv (0,1)≤_;rw [qv_zero];decide +kernel
 have m1:qv l1.ps.moved≤((0:Int):Rat):=by rw [p1];show qv (0,1)≤_;rw [qv_zero];decide +kernel
 have d2:due l1 .close=none:=good_close P1.some c1 (by rw [o1];rfl) (by rw [b1];show 1<100;decide)
 obtain ⟨l2,e2⟩:∃ l2,l2=l1.push Req.close.deed:=⟨_,rfl⟩
 have R2:Reach l2:=by rw [e2];exact Reach.step R1 d2
 have P2:Pc l2.ps ts:=by rw [e2];exact (R1.keep P1 d2 (fun _ z=>nomatch z)).2
 have b2:l2.book=[.mount ts,.close]:=by rw [e2];show l1.book++[_]=_;rw [b1];rfl
 have s2:l2.shop=ws∧l2.teeth=n:=by rw [e2];exact s1
 have c2:l2.ps.closed=true:=by rw [e2];exact close_shut
 have o2:l2.ps.off=some (0,1):=by rw [e2];show (l1.push .close).ps.off=_;rw [close_off,o1];rfl
 have k2:l2.ps.cuts=[]:=by rw [e2];show (l1.push .close).ps.cuts=_;rw [close_cuts,k1]
 have t2:qv l2.ps.turned≤((0:Int):Rat):=by rw [e2];show qv (l1.push .close).ps.turned≤_;rw [close_turned];exact t1
 have m2:qv l2.ps.moved≤((0:Int):Rat):=by rw [e2];show qv (l1.push .close).ps.moved≤_;rw [close_moved];exact m1
 have u3:=le_step t2 (rabs_red (m:=1) (t:=1) (b:=2) (by decide) (by decide) (by decide)) (c:=1) (by decide)
 have d3:due l2 (.cut 1 2)=none:=good_cut P2 (by decide) (by decide) (by decide) c2 (by rw [b2];show 2<100;decide) (le_most u3 (by decide))
 obtain ⟨l3,e3⟩:∃ l3,l3=l2.push (Req.cut 1 2).deed:=⟨_,rfl⟩
 have R3:Reach l3:=by rw [e3];exact Reach.step R2 d3
 have P3:Pc l3.ps ts:=by rw [e3];exact (R2.keep P2 d3 (fun _ z=>nomatch z)).2
 have b3:l3.book=[.mount ts,.close,.cut (1,2)]:=by rw [e3];show l2.book++[Deed.cut (red 1 2)]=_;rw [b2,r12];rfl
 have s3:l3.shop=ws∧l3.teeth=n:=by rw [e3];exact s2
 have c3:l3.ps.closed=true:=by rw [e3];show (l2.push (.cut (red 1 2))).ps.closed=_;rw [cut_shut];exact c2
 have o3:l3.ps.off=some (0,1):=by rw [e3];show (l2.push (.cut (red 1 2))).ps.off=_;rw [cut_off c2];exact o2
 have k3:l3.ps.cuts=[(0,0)]:=by rw [e3];show (l2.push (.cut (red 1 2))).ps.cuts=_;rw [cut_cuts,cut_groove P2 o2,Int.zero_mul,Int.zero_emod,k2];rfl
 have t3:qv l3.ps.turned≤((1:Int):Rat):=by rw [e3];show qv (l2.push (.cut (red 1 2))).ps.turned≤_;rw [turned_cut P2 (by decide)];exact u3
 have m3:qv l3.ps.moved≤((0:Int):Rat):=by rw [e3];show qv (l2.push (.cut (red 1 2))).ps.moved≤_;rw [cut_moved];exact m2
 have d4:due l3 .opn=none:=good_open P3.some c3 (by rw [b3];show 3<100;decide)
 obtain ⟨l4,e4⟩:∃ l4,l4=l3.push Req.opn.deed:=⟨_,rfl⟩
 have R4:Reach l4:=by rw [e4];exact Reach.step R3 d4
 have P4:Pc l4.ps ts:=by rw [e4];exact (R3.keep P3 d4 (fun _ z=>nomatch z)).2
 have b4:l4.book=[.mount ts,.close,.cut (1,2),.opn]:=by rw [e4];show l3.book++[_]=_;rw [b3];rfl
 have s4:l4.shop=ws∧l4.teeth=n:=by rw [e4];exact s3
 have c4:l4.ps.closed=false:=by rw [e4];exact opn_shut
 have o4:l4.ps.off=some (0,1):=by rw [e4];show (l3.push .opn).ps.off=_;rw [opn_off];exact o3
 have k4:l4.ps.cuts=[(0,0)]:=by rw [e4];show (l3.push .opn).ps.cuts=_;rw [opn_cuts];exact k3
 have t4:qv l4.ps.turned≤((1:Int):Rat):=by rw [e4];show qv (l3.push .opn).ps.turned≤_;rw [opn_turned];exact t3
 have m4:qv l4.ps.moved≤((0:Int):Rat):=by rw [e4];show qv (l3.push .opn).ps.moved≤_;rw [opn_moved];exact m3
 have d5:due l4 (.move way 1)=none:=good_move P4 (by decide) (by decide) c4 (by rw [b4];show 4<100;decide) (le_most (le_step m4 (rabs_red (m:=40) (t:=way) (b:=1) (by decide) (by omega) (by omega)) (c:=40) (by decide)) (by decide))
 obtain ⟨l5,e5⟩:∃ l5,l5=l4.push (Req.move way 1).deed:=⟨_,rfl⟩
 have R5:Reach l5:=by rw [e5];exact Reach.step R4 d5
 have P5:Pc l5.ps ts:=by rw [e5];exact (R4.keep P4 d5 (fun _ z=>nomatch z)).2
 have b5:l5.book=[.mount ts,.close,.cut (1,2),.opn,.move (way,1)]:=by rw [e5];show l4.book++[Deed.move (red way 1)]=_;rw [b4,rw1];rfl
 have s5:l5.shop=ws∧l5.teeth=n:=by rw [e5];exact s4
 have c5:l5.ps.closed=false:=by rw [e5];show (l4.push (.move (red way 1))).ps.closed=_;rw [move_shut];exact c4
 have o5:l5.ps.off=some (way,1):=by
  rw [e5];show (l4.push (.move (red way 1))).ps.off=_
  rw [move_off,o4,rw1]
  show some (qadd (0,1) (way,1))=_
  rw [qadd_zero ⟨show (1:Int)≤1 by decide,show Int.gcd way 1=1 from Int.gcd_one_right way⟩]
 have k5:l5.ps.cuts=[(0,0)]:=by rw [e5];show (l4.push (.move (red way 1))).ps.cuts=_;rw [move_cuts];exact k4
 have t5:qv l5.ps.turned≤((1:Int):Rat):=by rw [e5];show qv (l4.push (.move (red way 1))).ps.turned≤_;rw [move_turned];exact t4
 have d6:due l5 .close=none:=good_close P5.some c5 (by rw [o5];rfl) (by rw [b5];show 5<100;decide)
 obtain ⟨l6,e6⟩:∃ l6,l6=l5.push Req.close.deed:=⟨_,rfl⟩
 have R6:Reach l6:=by rw [e6];exact Reach.step R5 d6
 have P6:Pc l6.ps ts:=by rw [e6];exact (R5.keep P5 d6 (fun _ z=>nomatch z)).2
 have b6:l6.book=[.mount ts,.close,.cut (1,2),.opn,.move (way,1),.close]:=by rw [e6];show l5.book++[_]=_;rw [b5];rfl
 have s6:l6.shop=ws∧l6.teeth=n:=by rw [e6];exact s5
 have c6:l6.ps.closed=true:=by rw [e6];exact close_shut
 have o6:l6.ps.off=some (way,1):=by rw [e6];show (l5.push .close).ps.off=_;rw [close_off,o5];rfl
 have k6:l6.ps.cuts=[(0,0)]:=by rw [e6];show (l5.push .close).ps.cuts=_;rw [close_cuts,k5]
 have t6:qv l6.ps.turned≤((1:Int):Rat):=by rw [e6];show qv (l5.push .close).ps.turned≤_;rw [close_turned];exact t5
 have u7:=le_step t6 (rabs_red (m:=1) (t:=1) (b:=3) (by decide) (by decide) (by decide)) (c:=2) (by decide)
 have d7:due l6 (.cut 1 3)=none:=good_cut P6 (by decide) (by decide) (by decide) c6 (by rw [b6];show 6<100;decide) (le_most u7 (by decide))
 obtain ⟨l7,e7⟩:∃ l7,l7=l6.push (Req.cut 1 3).deed:=⟨_,rfl⟩
 have P7:Pc l7.ps ts:=by rw [e7];exact (R6.keep P6 d7 (fun _ z=>nomatch z)).2
 have b7:l7.book=[.mount ts,.close,.cut (1,2),.opn,.move (way,1),.close,.cut (1,3)]:=by rw [e7];show l6.book++[Deed.cut (red 1 3)]=_;rw [b6,r13];rfl
 have s7:l7.shop=ws∧l7.teeth=n:=by rw [e7];exact s6
 have c7:l7.ps.closed=true:=by rw [e7];show (l6.push (.cut (red 1 3))).ps.closed=_;rw [cut_shut];exact c6
 have o7:l7.ps.off=some (way,1):=by rw [e7];show (l6.push (.cut (red 1 3))).ps.off=_;rw [cut_off c6];exact o6
 have k7:l7.ps.cuts=[(0,0),(way,way * (ratio ts).2 % (ratio ts).1)]:=by rw [e7];show (l6.push (.cut (red 1 3))).ps.cuts=_;rw [cut_cuts,cut_groove P6 o6,k6];rfl
 exact ⟨l1,l2,l3,l4,l5,l6,l7,e1,e2,e3,e4,e5,e6,e7,d1,d2,d3,d4,d5,d6,d7,⟨b7,k7,o7,P7.et,P7.ep,s7.2⟩,P7,c7,by rw [b7];rfl,s7.1⟩
structure Al (G:Hp) (E:List (Addr × HO)):Prop where
 m:∀ x∈E,G x.1=some x.2
 nd:(E.map (·.1)).Nodup
theorem Al.add {G G':Hp} {E:List (Addr × HO)} {p:Addr} {o:HO} (h:Al G E) (n:G p=none) (e:upd G p o=G'):Al G' ((p,o)::E):=by
 subst e
 have ne:∀ x∈E,x.1≠p:=fun x hx z=>by rw [← z,h.m x hx] at n;cases n
 refine ⟨fun x hx=>?_,?_⟩
 ·rcases List.mem_cons.mp hx with z | z
  ·rw [z];exact upd_same
  ·rw [upd_ne (ne x z)];exact h.m x z
 ·rw [List.map_cons,List.nodup_cons]
  refine ⟨fun z=>?_,h.nd⟩
  obtain ⟨x,hx,e⟩:=List.mem_map.mp z
  exact ne x hx e
def Mm (G:Hp) (E:List (Addr × List V)):Prop:=∀ x∈E,G x.1=some (.tup x.2)
theorem Mm.tups {G G':Hp} {E:List (Addr × List V)} (h:Mm G E) (t:Tups G G'):Mm G' E:=fun x hx=>t _ _ (h x hx)
theorem Mm.add {G G':Hp} {E:List (Addr × List V)} {p:Addr} {xs:List V} (h:Mm G E) (n:G p=none) (e:upd G p (.tup xs)=G'):Mm G' ((p,xs)::E):=by
 subst e
 intro x hx
 rcases List.mem_cons.mp hx with z | z
 ·rw [z];exact upd_same
 ·exact same_new n _ _ _ (h x z)
theorem Mm.lst {G G':Hp} {E:List (Addr × List V)} {p:Addr} {o:HO} (h:Mm G E) (n:G p=none) (e:upd G p o=G'):Mm G' E:=by
 subst e
 exact fun x hx=>same_new n _ _ _ (h x hx)
theorem Al.tup {G G':Hp} {E:List (Addr × HO)} {p:Addr} {o:HO} (h:Al G E) (n:G p=none) (e:upd G p o=G'):Al G' E:=by
 subst e
 exact ⟨fun x hx=>same_new n _ _ _ (h.m x hx),h.nd⟩
theorem train_in {sw ws ts:List Int} (hp:sw.Perm ws) (T:Train ts) (nd:ts.Nodup) (sub:∀ v∈ts,v∈ws):ts∈allT sw:=by
 unfold allT
 rw [List.mem_append,mem_pairsM,mem_foursM]
 rcases T.cases with ⟨a,b,rfl⟩ | ⟨a,b,c,d,rfl⟩
 ·simp at nd
  exact .inl ⟨a,b,hp.mem_iff.mpr (sub a (by simp)),hp.mem_iff.mpr (sub b (by simp)),nd,rfl⟩
 ·simp at nd
  obtain ⟨⟨n1,n2,n3⟩,⟨n4,n5⟩,n6⟩:=nd
  exact .inr ⟨a,b,c,d,⟨hp.mem_iff.mpr (sub a (by simp)),hp.mem_iff.mpr (sub b (by simp)),hp.mem_iff.mpr (sub c (by simp)),hp.mem_iff.mpr (sub d (by simp))⟩,n1,n6,n2,n3,n4,n5,rfl⟩
theorem Run31.ro {ws ts:List Int} {n way:Int} {l1 l2 l3 l4 l5 l6 l7:LS} (C:Run31 ws ts n way l1 l2 l3 l4 l5 l6 l7):runO ⟨ws,n,[]⟩ [.mount ts,.close,.cut 1 2,.opn,.move way 1,.close,.cut 1 3] = .inl l7:=by
 simp only [runO,C.d1,← C.e1,C.d2,← C.e2,C.d3,← C.e3,C.d4,← C.e4,C.d5,← C.e5,C.d6,← C.e6,C.d7,← C.e7]
theorem last_two {ws:List Int} (nd:ws.Nodup) (h:2≤ws.length):∃ u:List Int,cutV (ws.map V.int) (some (-2)) none=u.map V.int∧u.length=2∧u.Nodup∧∀ v∈u,v∈ws:=by
 have e1:HT.sIx (ws.map V.int).length 0 (some (-2))=ws.length - 2:=by rw [List.length_map];unfold HT.sIx;simp;omega
 have e2:HT.sIx (ws.map V.int).length (ws.map V.int).length none=ws.length:=by rw [List.length_map];rfl
 refine ⟨ws.drop (ws.length - 2),?_,by rw [List.length_drop];omega,List.Nodup.sublist (List.drop_sublist _ _) nd,fun v hv=>List.mem_of_mem_drop hv⟩
 unfold cutV
 rw [e1,e2,← List.map_drop,← List.map_take]
 congr 1
 exact List.take_of_length_le (by rw [List.length_drop];omega)
def spLaw (K:PySem.W.Frag):Sp:=fun vs H Q _=>∃ (a:Addr) (ns:List Int),vs=[.ref a]∧SqL K H a (ns.map V.int)∧ns.length≤63∧∀ H',Q (.bl true) H'
abbrev depth:Nat:=13
theorem ok_law {f:Addr} {fd:FuncData} (F:Fun K "law" "law" s_law f fd) (T:Txt K mg):FnOk P w K mg base CX0 depth f fd ["_law_script"] (spLaw K):=by
 refine F.ok sc_law (fun vs H Q E h=>?_) (fun cdv A outer s H vs Q E hr h=>?_)
 ·obtain ⟨a,ns,rfl,_⟩:=h
  rfl
 obtain ⟨a,ns,rfl,hS,h63,q⟩:=h
 refine ⟨_,(@pss_cons _ _ _ _ _ (@ps_set _ _ 1 _ _ _ _ sc_law.nd rfl (Or.inl rfl) (pe_callD (d_l_any_shop T) hr (pa_cons (pv 0) (@pa_consK _ _ _ _ _ _ _ pe_int pa_nil))) (by rfl) (by first | exact .inl rfl | exact .inr rfl))
 (@pss_cons _ _ _ _ _ (@ps_set _ _ 2 _ _ _ _ sc_law.nd rfl (Or.inl rfl) (pe_callD (d_l_teeth T) hr (pa_cons (pv 0) pa_nil)) (by rfl) (by first | exact .inl rfl | exact .inr rfl))
 (@pss_cons _ _ _ _ _ (@ps_set _ _ 3 _ _ _ _ sc_law.nd rfl (Or.inl rfl) (pe_callD (d_l_good_train T) hr (pa_cons (pe_callD (d_l_draw T) hr (pa_cons (pv 0) (@pa_consK _ _ _ _ _ _ _ pe_int pa_nil))) (pa_cons (pv 1) pa_nil))) (by rfl) (by first | exact .inl rfl | exact .inr rfl))
 (@pss_cons _ _ _ _ _ (@ps_set _ _ 4 _ _ _ _ sc_law.nd rfl (Or.inl rfl) (pe_callD (d_l_ratio T) hr (pa_cons (pv 3) pa_nil)) (by rfl) (by first | exact .inl rfl | exact .inr rfl))
 (@pss_cons _ _ _ _ _ (@ps_set _ _ 5 _ _ _ _ sc_law.nd rfl (Or.inl rfl) (pe_op op_add pe_int (pe_op op_mod (pe_callD (d_l_draw T) hr (pa_cons (pv 0) (@pa_consK _ _ _ _ _ _ _ pe_int pa_nil))) pe_int)) (by rfl) (by first | exact .inl rfl | exact .inr rfl))
 (@pss_cons _ _ _ _ _ (@ps_set _ _ 6 _ _ _ _ sc_law.nd rfl (Or.inl rfl) (@pe_lst _ _ _ _ (@pa_consT _ _ _ _ _ _ _ (@pe_tup _ _ _ _ _ (@pa_consK _ _ _ _ _ _ _ pe_str (pa_cons (pe_callTy call_list_of (by rfl) T.z_list PyProof.Rows.boot_list (pa_cons (pv 3) pa_nil)) pa_nil))) (@pa_consT _ _ _ _ _ _ _ (@pe_tup _ _ _ _ _ (@pa_consK _ _ _ _ _ _ _ pe_str (@pa_consK _ _ _ _ _ _ _ pe_non pa_nil))) (@pa_consT _ _ _ _ _ _ _ (@pe_tup _ _ _ _ _ (@pa_consK _ _ _ _ _ _ _ pe_str (@pa_consT _ _ _ _ _ _ _ (@pe_tup _ _ _ _ _ (@pa_consK _ _ _ _ _ _ _ pe_int (@pa_consK _ _ _ _ _ _ _ pe_int pa_nil))) pa_nil))) (@pa_consT _ _ _ _ _ _ _ (@pe_tup _ _ _ _ _ (@pa_consK _ _ _ _ _ _ _ pe_str (@pa_consK _ _ _ _ _ _ _ pe_non pa_nil))) pa_nil))))) (by rfl) (by first | exact .inl rfl | exact .inr rfl))
 (@pss_cons _ _ _ _ _ (@ps_set _ _ 6 _ _ _ _ sc_law.nd rfl (Or.inl rfl) (pe_op op_cat (pv 6) (@pe_lst _ _ _ _ (@pa_consT _ _ _ _ _ _ _ (@pe_tup _ _ _ _ _ (@pa_consK _ _ _ _ _ _ _ pe_str (@pa_consT _ _ _ _ _ _ _ (@pe_tup _ _ _ _ _ (pa_cons (pv 5) (@pa_consK _ _ _ _ _ _ _ pe_int pa_nil))) pa_nil))) (@pa_consT _ _ _ _ _ _ _ (@pe_tup _ _ _ _ _ (@pa_consK _ _ _ _ _ _ _ pe_str (@pa_consK _ _ _ _ _ _ _ pe_non pa_nil))) (@pa_consT _ _ _ _ _ _ _ (@pe_tup _ _ _ _ _ (@pa_consK _ _ _ _ _ _ _ pe_str (@pa_consT _ _ _ _ _ _ _ (@pe_tup _ _ _ _ _ (@pa_consK _ _ _ _ _ _ _ pe_int (@pa_consK _ _ _ _ _ _ _ pe_int pa_nil))) pa_nil))) pa_nil))))) (by rfl) (by first | exact .inl rfl | exact .inr rfl))
 (@pss_cons _ _ _ _ _ (@ps_set _ _ 7 _ _ _ _ sc_law.nd rfl (Or.inl rfl) (@pe_lst _ _ _ _ (pa_cons (pe_callTy call_list_of (by rfl) T.z_list PyProof.Rows.boot_list (pa_cons (pv 1) pa_nil)) (pa_cons (pe_callTy call_list_of (by rfl) T.z_list PyProof.Rows.boot_list (pa_cons (pv 1) pa_nil)) (pa_cons (pe_callTy call_list_of (by rfl) T.z_list PyProof.Rows.boot_list (pa_cons (pv 3) pa_nil)) (pa_cons (pe_callTy call_list_of (by rfl) T.z_list PyProof.Rows.boot_list (pa_cons (pv 1) pa_nil)) pa_nil))))) (by rfl) (by first | exact .inl rfl | exact .inr rfl))
 pss_hole)))))))),?_⟩
 have b200:∀ {i:Int},-1000000≤i→i≤1000000→Bd 200 i:=fun h1 h2=>Bd.of60 (by omega) (by omega)
 refine ⟨_,rfl,a,ns,1,rfl,hS,by decide,by decide,fun ws W H1 S l2 l12 s1 nW hW=>?_⟩
 refine ⟨_,rfl,a,ns,rfl,s1.seq hS,?_⟩
 obtain ⟨n,hn⟩:∃ n,n=2 + drawF ns 3 % 63:=⟨_,rfl⟩
 rw [← hn]
 have n0:2≤n:=by omega
 have n1:n≤64:=by omega
 have G:GoodShop ws n:=⟨l2,l12,S,n0,n1⟩
 clear hn
 refine ⟨_,rfl,a,ns,4,rfl,s1.seq hS,by decide,by decide,_,rfl,_,W,ws,rfl,.inl (SqL.of hW),S,l2,l12,fun ts M1 H2 Tr nd sub s2 nM1 hM1=>?_⟩
 have A:Al H2 [(W,.lst (ws.map V.int))]:=⟨fun x hx=>by rw [List.mem_singleton.mp hx];exact s2 _ _ hW,by simp⟩
 have M:Mm H2 [(M1,ts.map V.int)]:=fun x hx=>by rw [List.mem_singleton.mp hx];exact hM1
 have hS:=(s1.trans s2).seq hS
 clear hW hM1 nM1 nW s1 s2
 refine ⟨_,rfl,M1,ts,rfl,.inr (SqT.of (M (M1,ts.map V.int) (by simp))),Tr,fun P4 hP4=>?_⟩
 have s:=same_new hP4 (.tup [.int (ratio ts).1,.int (ratio ts).2])
 generalize hG:upd H2 P4 _=H3
 have hS:SqL K H3 a (ns.map V.int):=by rw [← hG];exact s.seq hS
 have A:=A.tup hP4 hG
 have M:=M.add (xs:=[.int (ratio ts).1,.int (ratio ts).2]) hP4 hG
 clear hG hP4 s
 refine ⟨_,rfl,a,ns,5,rfl,hS,by decide,by decide,_,_,rfl,rfl,(by show (0:Int)<40;decide),_,_,rfl,rfl,?_⟩
 dsimp only
 obtain ⟨way,hw⟩:∃ way,way=1 + drawF ns 5 % 40:=⟨_,rfl⟩
 rw [← hw]
 have w0:1≤way:=by omega
 have w1:way≤40:=by omega
 clear hw hS
 refine ⟨_,rfl,M1,_,rfl,.inr (SqT.of (M (M1,ts.map V.int) (by simp))),fun T1 hp=>?_⟩
 generalize hG:upd H3 T1 _=H4
 have A:=A.add (o:=.lst (ts.map V.int)) hp hG
 have M:=M.lst hp hG
 clear hG hp
 refine ⟨(by show 2≤sizeLine;decide),fun d1 hp=>?_⟩
 generalize hG:upd H4 d1 _=H5
 have A:=A.tup hp hG
 have M:=M.add (xs:=[.str "mount",.ref T1]) hp hG
 clear hG hp
 refine ⟨(by show 2≤sizeLine;decide),fun d2 hp=>?_⟩
 generalize hG:upd H5 d2 _=H6
 have A:=A.tup hp hG
 have M:=M.add (xs:=[.str "close",.non]) hp hG
 clear hG hp
 refine ⟨(by show 2≤sizeLine;decide),fun c3 hp=>?_⟩
 generalize hG:upd H6 c3 _=H7
 have A:=A.tup hp hG
 have M:=M.add (xs:=[.int 1,.int 2]) hp hG
 clear hG hp
 refine ⟨(by show 2≤sizeLine;decide),fun d3 hp=>?_⟩
 generalize hG:upd H7 d3 _=H8
 have A:=A.tup hp hG
 have M:=M.add (xs:=[.str "cut",.ref c3]) hp hG
 clear hG hp
 refine ⟨(by show 2≤sizeLine;decide),fun d4 hp=>?_⟩
 generalize hG:upd H8 d4 _=H9
 have A:=A.tup hp hG
 have M:=M.add (xs:=[.str "open",.non]) hp hG
 clear hG hp
 refine ⟨(by show 4≤sizeLine;decide),fun L1 hp=>?_⟩
 generalize hG:upd H9 L1 _=H10
 have A:=A.add (o:=.lst [.ref d1,.ref d2,.ref d3,.ref d4]) hp hG
 have M:=M.lst hp hG
 clear hG hp
 refine ⟨_,rfl,?_⟩
 refine ⟨_,rfl,(by show 2≤sizeLine;decide),fun c5 hp=>?_⟩
 generalize hG:upd H10 c5 _=H11
 have A:=A.tup hp hG
 have M:=M.add (xs:=[.int way,.int 1]) hp hG
 clear hG hp
 refine ⟨(by show 2≤sizeLine;decide),fun d5 hp=>?_⟩
 generalize hG:upd H11 d5 _=H12
 have A:=A.tup hp hG
 have M:=M.add (xs:=[.str "move",.ref c5]) hp hG
 clear hG hp
 refine ⟨(by show 2≤sizeLine;decide),fun d6 hp=>?_⟩
 generalize hG:upd H12 d6 _=H13
 have A:=A.tup hp hG
 have M:=M.add (xs:=[.str "close",.non]) hp hG
 clear hG hp
 refine ⟨(by show 2≤sizeLine;decide),fun c7 hp=>?_⟩
 generalize hG:upd H13 c7 _=H14
 have A:=A.tup hp hG
 have M:=M.add (xs:=[.int 1,.int 3]) hp hG
 clear hG hp
 refine ⟨(by show 2≤sizeLine;decide),fun d7 hp=>?_⟩
 generalize hG:upd H14 d7 _=H15
 have A:=A.tup hp hG
 have M:=M.add (xs:=[.str "cut",.ref c7]) hp hG
 clear hG hp
 refine ⟨(by show 3≤sizeLine;decide),fun L2 hp=>?_⟩
 generalize hG:upd H15 L2 _=H16
 have A:=A.add (o:=.lst [.ref d5,.ref d6,.ref d7]) hp hG
 have M:=M.lst hp hG
 clear hG hp
 refine ⟨L1,L2,_,_,rfl,rfl,A.m (L1,.lst [.ref d1,.ref d2,.ref d3,.ref d4]) (by simp),A.m (L2,.lst [.ref d5,.ref d6,.ref d7]) (by simp),(by show 7≤sizeLine;decide),fun DL hp=>?_⟩
 generalize hG:upd H16 DL _=H17
 have A:=A.add (o:=.lst [.ref d1,.ref d2,.ref d3,.ref d4,.ref d5,.ref d6,.ref d7]) hp hG
 have M:=M.lst hp hG
 clear hG hp
 refine ⟨_,rfl,W,_,rfl,.inl (SqL.of (A.m (W,.lst (ws.map V.int)) (by simp))),fun h0 hp=>?_⟩
 generalize hG:upd H17 h0 _=H18
 have A:=A.add (o:=.lst (ws.map V.int)) hp hG
 have M:=M.lst hp hG
 clear hG hp
 refine ⟨_,rfl,W,_,rfl,.inl (SqL.of (A.m (W,.lst (ws.map V.int)) (by simp))),fun h1 hp=>?_⟩
 generalize hG:upd H18 h1 _=H19
 have A:=A.add (o:=.lst (ws.map V.int)) hp hG
 have M:=M.lst hp hG
 clear hG hp
 refine ⟨_,rfl,M1,_,rfl,.inr (SqT.of (M (M1,ts.map V.int) (by simp))),fun h2 hp=>?_⟩
 generalize hG:upd H19 h2 _=H20
 have A:=A.add (o:=.lst (ts.map V.int)) hp hG
 have M:=M.lst hp hG
 clear hG hp
 refine ⟨_,rfl,W,_,rfl,.inl (SqL.of (A.m (W,.lst (ws.map V.int)) (by simp))),fun h3 hp=>?_⟩
 generalize hG:upd H20 h3 _=H21
 have A:=A.add (o:=.lst (ws.map V.int)) hp hG
 have M:=M.lst hp hG
 clear hG hp
 refine ⟨(by show 4≤sizeLine;decide),fun HL hp=>?_⟩
 generalize hG:upd H21 HL _=H22
 have A:=A.add (o:=.lst [.ref h0,.ref h1,.ref h2,.ref h3]) hp hG
 have M:=M.lst hp hG
 clear hG hp
 have O:O31 (fun _=>False) H22 W HL h0 h1 h2 h3 DL T1 ws (ws.map V.int) (ws.map V.int) (ts.map V.int) [.ref d1,.ref d2,.ref d3,.ref d4,.ref d5,.ref d6,.ref d7] (ts.map V.int):=by
  refine ⟨A.m (W,.lst _) (by simp),A.m (HL,.lst _) (by simp),A.m (h0,.lst _) (by simp),A.m (h1,.lst _) (by simp),A.m (h2,.lst _) (by simp),A.m (h3,.lst _) (by simp),A.m (DL,.lst _) (by simp),A.m (T1,.lst _) (by simp),fun _ _=>id,?_⟩
  have z:=A.nd
  simp only [List.map_cons,List.map_nil,List.nodup_cons,List.mem_cons,List.not_mem_nil,or_false,not_or,List.nodup_nil,and_true,not_false_eq_true] at z ⊢
  grind
 have eM:=M (M1,ts.map V.int) (by simp)
 have eP:=M (P4,[.int (ratio ts).1,.int (ratio ts).2]) (by simp)
 clear A
 refine ⟨_,(@pss_cons _ _ _ _ _ (@ps_set _ _ 8 _ _ _ _ sc_law.nd rfl (Or.inl rfl) (pe_makeX (d_m_Lathe___init__ T) hr passNo (pa_cons (@pe_ix _ _ _ _ _ _ _ ix_list (pv 7) pe_int (fun _ _=>rfl)) (pa_cons (pv 2) pa_nil))) (by rfl) (by first | exact .inl rfl | exact .inr rfl))
 (@pss_cons _ _ _ _ _ (ps_expr (pe_methX (d_m_Lathe_mount T) hr passNo (pv 8) (pa_cons (@pe_ix _ _ _ _ _ _ _ ix_any (pv 7) pe_int (fun _ _=>rfl)) pa_nil)))
 (@pss_cons _ _ _ _ _ (ps_expr (pe_methX0 (d_m_Lathe_close_nut T) hr passNo (pv 8)))
 (@pss_cons _ _ _ _ _ (ps_expr (pe_methX (d_m_Lathe_cut T) hr passNo (pv 8) (@pa_consT _ _ _ _ _ _ _ (@pe_tup _ _ _ _ _ (@pa_consK _ _ _ _ _ _ _ pe_int (@pa_consK _ _ _ _ _ _ _ pe_int pa_nil))) pa_nil)))
 (@pss_cons _ _ _ _ _ (ps_expr (pe_methX0 (d_m_Lathe_open_nut T) hr passNo (pv 8)))
 (@pss_cons _ _ _ _ _ (ps_expr (pe_methX (d_m_Lathe_move T) hr passNo (pv 8) (@pa_consT _ _ _ _ _ _ _ (@pe_tup _ _ _ _ _ (pa_cons (pv 5) (@pa_consK _ _ _ _ _ _ _ pe_int pa_nil))) pa_nil)))
 (@pss_cons _ _ _ _ _ (ps_expr (pe_methX0 (d_m_Lathe_close_nut T) hr passNo (pv 8)))
 (@pss_cons _ _ _ _ _ (ps_expr (pe_methX (d_m_Lathe_cut T) hr passNo (pv 8) (@pa_consT _ _ _ _ _ _ _ (@pe_tup _ _ _ _ _ (@pa_consK _ _ _ _ _ _ _ pe_int (@pa_consK _ _ _ _ _ _ _ pe_int pa_nil))) pa_nil)))
 pss_hole)))))))),?_⟩
 refine ⟨_,rfl,HL,_,_,_,rfl,rfl,SqL.of O.eHL,rfl,_,rfl,fun x dx nx ndx ne=>?_⟩
 have sx:Same H22 (upd (upd H22 dx (.own x)) x (.ins (cOf mg "Lathe") dx [])):=fun b o e=>by rw [upd_ne (ne_of_none e nx),upd_ne (ne_of_none e ndx)];exact e
 obtain ⟨l1,l2',l3,l4,l5,l6,l7,C⟩:=run31 (way:=way) G Tr nd sub w0 w1
 refine ⟨x,dx,h0,ws,n,rfl,upd_same,(by rw [upd_ne ne,upd_same]),.inl (sx _ _ O.e0),by omega,S.bd,(bd20 (by omega) (by omega)).mono (by decide),fun _ K0 F0 R0 k2 f2=>⟨rfl,?_⟩,fun z=>absurd G z⟩
 have f:=Fit.made nx ndx k2 f2
 have O:=O.fit f
 have M:=M.tups f.tup
 clear f k2 f2 sx nx ndx ne
 obtain ⟨dx0,fs0,ins0,no0⟩:=R0.ins
 have g:=C.d1
 refine ⟨_,rfl,x,dx0,fs0,rfl,ins0,no0 "mount" (by decide +kernel),_,rfl,HL,_,_,_,rfl,rfl,.inl (SqL.of O.eHL),rfl,x,h2,ts,_,F0,rfl,R0,.inl O.e2,Nat.le_trans Tr.len2 (by decide),Tr.bd,⟨fun _ r K1 F1 R1 f _=>?_,fun e he=>by rw [g] at he;cases he⟩⟩
 rw [← C.e1] at R1
 have O:=O.fit f
 have M:=M.tups f.tup
 clear f g R0 ins0 no0
 obtain ⟨dx1,fs1,ins1,no1⟩:=R1.ins
 have g:=C.d2
 refine ⟨_,rfl,x,dx1,fs1,rfl,ins1,no1 "close_nut" (by decide +kernel),x,l1,F1,rfl,R1,⟨fun _ r K2 F2 R2 f _=>?_,fun e he=>by rw [g] at he;cases he⟩⟩
 rw [← C.e2] at R2
 have O:=O.fit f
 have M:=M.tups f.tup
 clear f g R1 ins1 no1
 obtain ⟨dx2,fs2,ins2,no2⟩:=R2.ins
 have g:=C.d3
 refine ⟨_,rfl,x,dx2,fs2,rfl,ins2,no2 "cut" (by decide +kernel),(by show 2≤sizeLine;decide),fun tp htp=>?_⟩
 have s:=same_new htp (.tup [.int 1,.int 2])
 refine ⟨x,tp,1,2,l2',F2,rfl,R2.same s,.inl upd_same,b200 (by omega) (by omega),b200 (by omega) (by omega),⟨fun _ r K3 F3 R3 f _=>?_,fun e he=>by rw [g] at he;cases he⟩⟩
 have f:=(Fit.of_same (F:=F2) s).trans f
 rw [← C.e3] at R3
 have O:=O.fit f
 have M:=M.tups f.tup
 clear f g R2 ins2 no2 s htp
 obtain ⟨dx3,fs3,ins3,no3⟩:=R3.ins
 have g:=C.d4
 refine ⟨_,rfl,x,dx3,fs3,rfl,ins3,no3 "open_nut" (by decide +kernel),x,l3,F3,rfl,R3,⟨fun _ r K4 F4 R4 f _=>?_,fun e he=>by rw [g] at he;cases he⟩⟩
 rw [← C.e4] at R4
 have O:=O.fit f
 have M:=M.tups f.tup
 clear f g R3 ins3 no3
 obtain ⟨dx4,fs4,ins4,no4⟩:=R4.ins
 have g:=C.d5
 refine ⟨_,rfl,x,dx4,fs4,rfl,ins4,no4 "move" (by decide +kernel),_,rfl,(by show 2≤sizeLine;decide),fun tp htp=>?_⟩
 have s:=same_new htp (.tup [.int way,.int 1])
 refine ⟨x,tp,way,1,l4,F4,rfl,R4.same s,.inl upd_same,b200 (by omega) (by omega),b200 (by omega) (by omega),⟨fun _ r K5 F5 R5 f _=>?_,fun e he=>by rw [g] at he;cases he⟩⟩
 have f:=(Fit.of_same (F:=F4) s).trans f
 rw [← C.e5] at R5
 have O:=O.fit f
 have M:=M.tups f.tup
 clear f g R4 ins4 no4 s htp
 obtain ⟨dx5,fs5,ins5,no5⟩:=R5.ins
 have g:=C.d6
 refine ⟨_,rfl,x,dx5,fs5,rfl,ins5,no5 "close_nut" (by decide +kernel),x,l5,F5,rfl,R5,⟨fun _ r K6 F6 R6 f _=>?_,fun e he=>by rw [g] at he;cases he⟩⟩
 rw [← C.e6] at R6
 have O:=O.fit f
 have M:=M.tups f.tup
 clear f g R5 ins5 no5
 obtain ⟨dx6,fs6,ins6,no6⟩:=R6.ins
 have g:=C.d7
 refine ⟨_,rfl,x,dx6,fs6,rfl,ins6,no6 "cut" (by decide +kernel),(by show 2≤sizeLine;decide),fun tp htp=>?_⟩
 have s:=same_new htp (.tup [.int 1,.int 3])
 refine ⟨x,tp,1,3,l6,F6,rfl,R6.same s,.inl upd_same,b200 (by omega) (by omega),b200 (by omega) (by omega),⟨fun _ r K7 F7 R7 f _=>?_,fun e he=>by rw [g] at he;cases he⟩⟩
 have f:=(Fit.of_same (F:=F6) s).trans f
 rw [← C.e7] at R7
 have O:=O.fit f
 have M:=M.tups f.tup
 clear f g R6 ins6 no6 s htp
 -- the same deeds again
 have DV:DeedV K K7 [d1,d2,d3,d4,d5,d6,d7] [.mount ts,.close,.cut 1 2,.opn,.move way 1,.close,.cut 1 3]:=by
  refine ⟨rfl,fun i r e=>?_⟩
  rcases i with _ | _ | _ | _ | _ | _ | _ | i
  ·cases e;exact ⟨.mount ts,.ref T1,rfl,M (d1,[.str "mount",.ref T1]) (by simp),T1,rfl,.inl O.eT,Nat.le_trans Tr.len2 (by decide),Tr.bd⟩
  ·cases e;exact ⟨.close,.non,rfl,M (d2,[.str "close",.non]) (by simp),rfl⟩
  ·cases e;exact ⟨.cut 1 2,.ref c3,rfl,M (d3,[.str "cut",.ref c3]) (by simp),c3,rfl,.inl (M (c3,[.int 1,.int 2]) (by simp)),b200 (by omega) (by omega),b200 (by omega) (by omega)⟩
  ·cases e;exact ⟨.opn,.non,rfl,M (d4,[.str "open",.non]) (by simp),rfl⟩
  ·cases e;exact ⟨.move way 1,.ref c5,rfl,M (d5,[.str "move",.ref c5]) (by simp),c5,rfl,.inl (M (c5,[.int way,.int 1]) (by simp)),b200 (by omega) (by omega),b200 (by omega) (by omega)⟩
  ·cases e;exact ⟨.close,.non,rfl,M (d6,[.str "close",.non]) (by simp),rfl⟩
  ·cases e;exact ⟨.cut 1 3,.ref c7,rfl,M (d7,[.str "cut",.ref c7]) (by simp),c7,rfl,.inl (M (c7,[.int 1,.int 3]) (by simp)),b200 (by omega) (by omega),b200 (by omega) (by omega)⟩
  ·simp at e
 refine ⟨_,(@pss_cons _ _ _ _ _ (@ps_set _ _ 9 _ _ _ _ sc_law.nd rfl (Or.inl rfl) (pe_callX (d_f_replay T) hr passNo (pa_cons (@pe_ix _ _ _ _ _ _ _ ix_list (pv 7) pe_int (fun _ _=>rfl)) (pa_cons (pv 2) (pa_cons (pv 6) pa_nil)))) (by rfl) (by first | exact .inl rfl | exact .inr rfl))
 pss_hole),?_⟩
 refine ⟨_,rfl,HL,_,_,_,rfl,rfl,SqL.of O.eHL,rfl,_,rfl,_,rfl,h1,DL,ws,n,[d1,d2,d3,d4,d5,d6,d7],[.mount ts,.close,.cut 1 2,.opn,.move way 1,.close,.cut 1 3],rfl,.inl O.e1,by omega,S.bd,(bd20 (by omega) (by omega)).mono (by decide),.inl (SqL.of O.eD),DV,fun _=>⟨_,C.ro,fun y K8 G8 S8 f8=>?_⟩,fun z=>absurd G z⟩
 have s8:=f8.all
 have R8:=R7.same s8
 have dj:∀ b,F7 b→¬ G8 b:=fun b fb gb=>(f8.foot b gb).elim id fun e=>by obtain ⟨o,e'⟩:=R7.at_ fb;rw [e] at e';cases e'
 have O:O31 (Sup F7 G8) K8 W HL h0 h1 h2 h3 DL T1 ws (ws.map V.int) (ws.map V.int) (ts.map V.int) [.ref d1,.ref d2,.ref d3,.ref d4,.ref d5,.ref d6,.ref d7] (ts.map V.int) :=
  O.fit ⟨fun b o e _=>s8 b o e,fun b z=>z.elim .inl fun g=>.inr ((f8.foot b g).elim False.elim id),fun b xs e=>s8 _ _ e⟩
 have M:=M.tups f8.tup
 clear DV R7 s8 f8
 have eM:K8 M1=some (.tup (ts.map V.int)):=M (M1,ts.map V.int) (by simp)
 have eP:K8 P4=some (.tup [.int (ratio ts).1,.int (ratio ts).2]):=M (P4,[.int (ratio ts).1,.int (ratio ts).2]) (by simp)
 have ed:K8 d1=some (.tup [.str "mount",.ref T1]):=M (d1,[.str "mount",.ref T1]) (by simp)
 clear M
 have tl:ts.length≤1000:=Nat.le_trans Tr.len2 (by decide)
 refine ⟨_,(@pss_cons _ _ _ _ _ (ps_if (pw_or (pt_cmp (pc_neI (pe_callB call_len_seq (by rfl) T.z_len PySem.boot_len (pa_cons (pv 6) pa_nil)) pe_int)) (pw_or (pt_not (pt_val (pe_callD (d_l_kept T) hr (pa_cons (@pe_ix _ _ _ _ _ _ _ ix_tup (@pe_ix _ _ _ _ _ _ _ ix_list (pv 6) pe_int (fun _ _=>rfl)) pe_int (fun _ _=>rfl)) (pa_cons (pv 3) pa_nil))))) (pw_or1 (pt_not (pt_val (pe_callD (d_l_kept T) hr (pa_cons (@pe_ix _ _ _ _ _ _ _ ix_list (pv 7) pe_int (fun _ _=>rfl)) (pa_cons (pv 1) pa_nil)))))))).pt
 (@pss_one _ _ _ (@ps_ret _ _ _ _ pe_bl))
 pss_nil)
 (@pss_cons _ _ _ _ _ (ps_expr (pe_bm PySem.F.plainAttrs_list PySem.F.slot_list_append PySem.F.type_list_append mt_append (@pe_ix _ _ _ _ _ _ _ ix_tup (@pe_ix _ _ _ _ _ _ _ ix_list (pv 6) pe_int (fun _ _=>rfl)) pe_int (fun _ _=>rfl)) (@pa_consK _ _ _ _ _ _ _ pe_int pa_nil)))
 (@pss_cons _ _ _ _ _ (ps_expr (pe_bm0 PySem.F.plainAttrs_list PySem.F.slot_list_pop PySem.F.type_list_pop mt_pop (pv 6)))
 pss_hole))),?_⟩
 refine ⟨_,rfl,DL,_,rfl,.inl (SqL.of O.eD),_,_,rfl,rfl,_,rfl,iteNS rfl ?_⟩
 refine ⟨_,rfl,DL,_,_,_,rfl,rfl,SqL.of O.eD,rfl,_,_,_,_,rfl,rfl,SqT.of ed,rfl,_,rfl,T1,M1,ts,rfl,.inl (SqL.of O.eT),.inr (SqT.of eM),tl,_,rfl,iteF ?_⟩
 refine ⟨_,rfl,HL,_,_,_,rfl,rfl,SqL.of O.eHL,rfl,_,rfl,h1,W,ws,rfl,.inl (SqL.of O.e1),.inl (SqL.of O.eW),by omega,_,rfl,iteF ?_⟩
 -- the deeds' own lists are written
 have t1n:¬ Sup F7 G8 T1:=O.u T1 (by simp)
 have dln:¬ Sup F7 G8 DL:=O.u DL (by simp)
 refine ⟨_,rfl,DL,_,_,_,rfl,rfl,SqL.of O.eD,rfl,_,_,_,_,rfl,rfl,SqT.of ed,rfl,.inl ⟨rfl,_,SqL.of O.eT⟩,T1,_,_,rfl,rfl,O.eT,small1000 (by rw [List.length_map];exact tl),?_⟩
 have b1:=beside1 (H:=K8) (D:=T1) (.lst (ts.map V.int++[.int 11]))
 have R9:=R8.beside (fun z=>t1n (.inl z)) b1 O.eT
 have S9:=S8.beside (fun z=>t1n (.inr z)) b1 O.eT
 have u1:=b1.tups O.eT
 have O:=O.putT (ts.map V.int++[.int 11])
 generalize upd K8 T1 (.lst (ts.map V.int++[.int 11]))=K9 at R9 S9 u1 O ⊢
 refine ⟨_,rfl,.inl ⟨rfl,_,SqL.of O.eD⟩,DL,_,_,rfl,rfl,O.eD,rfl,?_⟩
 have b2:=beside1 (H:=K9) (D:=DL) (.lst [.ref d1,.ref d2,.ref d3,.ref d4,.ref d5,.ref d6])
 have R10:=R9.beside (fun z=>dln (.inl z)) b2 O.eD
 have S10:=S9.beside (fun z=>dln (.inr z)) b2 O.eD
 have u2:=b2.tups O.eD
 have O:=O.putD [.ref d1,.ref d2,.ref d3,.ref d4,.ref d5,.ref d6]
 have eM:=u2 _ _ (u1 _ _ eM)
 have eP:=u2 _ _ (u1 _ _ eP)
 generalize hG:upd K9 DL _=K10
 have R10:LRep K mg K10 x l7 F7:=by rw [← hG];exact R10
 have S10:LRep K mg K10 y l7 G8:=by rw [← hG];exact S10
 have O:O31 (Sup F7 G8) K10 W HL h0 h1 h2 h3 DL T1 ws (ws.map V.int) (ws.map V.int) (ts.map V.int) [.ref d1,.ref d2,.ref d3,.ref d4,.ref d5,.ref d6] (ts.map V.int++[.int 11]):=by rw [← hG];exact O
 have eM:K10 M1=some (.tup (ts.map V.int)):=by rw [← hG];exact eM
 have eP:K10 P4=some (.tup [.int (ratio ts).1,.int (ratio ts).2]):=by rw [← hG];exact eP
 clear hG b1 b2 u1 u2 R8 S8 R9 S9 ed t1n dln
 refine ⟨_,(@pss_cons _ _ _ _ _ (@ps_set _ _ 10 _ _ _ _ sc_law.nd rfl (Or.inl rfl) (pe_methX0 (d_m_Lathe_marks T) hr passNo (pv 8)) (by rfl) (by first | exact .inl rfl | exact .inr rfl))
 (@pss_cons _ _ _ _ _ (ps_expr (pe_callX (d_l_mess T) hr passNo (pa_cons (pv 8) (pa_cons (@pe_ix _ _ _ _ _ _ _ ix_any (pv 7) pe_int (fun _ _=>rfl)) (pa_cons (pv 2) (pa_cons (pv 4) pa_nil))))))
 pss_hole)),?_⟩
 obtain ⟨dx10,fs10,ins10,no10⟩:=R10.ins
 have pi:=C.C.pi
 have te:=C.C.te
 refine ⟨_,rfl,x,dx10,fs10,rfl,ins10,no10 "marks" (by decide +kernel),x,l7,F7,rfl,R10,fun r hr' MK K11 F11 R11 f nMK gMK hMK=>?_,fun z=>by rw [pi] at z;cases z⟩
 rw [pi] at hr'
 cases hr'
 rw [te] at hMK
 have S11:=S10.aside (fun b g z=>dj b z g) f
 have dj11:∀ b,F11 b→¬ G8 b:=fun b z g=>Fit.apart S10 (fun b g z=>dj b z g) f b g z
 have q0:=ne_of_none O.e0 nMK
 have q1:=ne_of_none O.e1 nMK
 have q2:=ne_of_none O.e2 nMK
 have oMK:Ob (Sup F11 G8) K11 MK (.lst (marksV (ratio ts) n)):=⟨hMK,fun z=>z.elim gMK fun z=>by obtain ⟨o,e⟩:=S10.at_ z;rw [nMK] at e;cases e⟩
 have O:=O.fit f.supL
 have eM:=f.tup _ _ eM
 have eP:=f.tup _ _ eP
 clear f nMK gMK hMK R10 S10 dj ins10 no10
 have Lp:=Tr.pl
 have lp1:=Lp.p1
 have lp2:=Lp.p2
 have lq1:=Lp.q1
 have lq2:=Lp.q2
 have Rt:Rat2 (ratio ts).1 (ratio ts).2:=⟨lp1,lp2,lq1,lq2⟩
 have rse:=red_self Tr.rok
 have eN:ltN (ratio ts).1 (ratio ts).2=(ratio ts).1:=congrArg Prod.fst rse
 have eD':ltD (ratio ts).1 (ratio ts).2=(ratio ts).2:=congrArg Prod.snd rse
 refine ⟨_,rfl,_,rfl,HL,_,_,_,rfl,rfl,.inl (SqL.of O.eHL),rfl,_,rfl,_,rfl,x,h3,P4,l7,F11,ws,(ratio ts).1,(ratio ts).2,(by rw [te]),R11,(by rw [pi];rfl),⟨.inl O.e3,fun z=>O.u h3 (by simp) (.inl z)⟩,S,l12,eP,Rt,(by rw [eN];exact lp1),fun K12 F12 R12 f=>?_⟩
 have S12:=S11.aside (fun b g z=>dj11 b z g) f
 have dj12:∀ b,F12 b→¬ G8 b:=fun b z g=>Fit.apart S11 (fun b g z=>dj11 b z g) f b g z
 have O:=O.fit f.supL
 have oMK:=oMK.fit f.supL
 have eM:=f.tup _ _ eM
 have eP:=f.tup _ _ eP
 clear f R11 S11 dj11
 refine ⟨_,(@pss_cons _ _ _ _ _ (ps_for PassesOwn.never rfl (pi_list (pe_slice sl_list (pv 7) po_none (po_some pe_int))) (pg_name (i:=11) sc_law.nd rfl (Or.inl rfl))
 (@pss_cons _ _ _ _ _ (ps_expr (pe_bm PySem.F.plainAttrs_list PySem.F.slot_list_insert PySem.F.type_list_insert mt_insert (pv 11) (@pa_consK _ _ _ _ _ _ _ pe_int (@pa_consK _ _ _ _ _ _ _ pe_int pa_nil))))
 (@pss_one _ _ _ (ps_expr (pe_bm0 PySem.F.plainAttrs_list PySem.F.slot_list_pop PySem.F.type_list_pop mt_pop (pv 11))))))
 pss_hole),?_⟩
 refine ⟨_,rfl,_,rfl,HL,_,rfl,SqL.of O.eHL,fun SL hSL=>?_⟩
 have p0:=ne_of_none O.e0 hSL
 have p1:=ne_of_none O.e1 hSL
 have p2:=ne_of_none O.e2 hSL
 generalize hG:upd K12 SL _=K13
 have s:Same K12 K13:=by rw [← hG];exact same_new hSL _
 have eS:K13 SL=some (.lst [.ref h0,.ref h1,.ref h2]):=by rw [← hG];exact upd_same
 have R13:=R12.same s
 have S13:=S12.same s
 have O:=O.fit (Fit.of_same s)
 have oMK:=oMK.same s
 have eM:=s _ _ eM
 have eP:=s _ _ eP
 have nK:=oMK.2
 have eK:=oMK.1
 have lw:(ws.map V.int).length≤1000:=by rw [List.length_map];omega
 have lt':(ts.map V.int).length≤1000:=by rw [List.length_map];exact tl
 clear hG hSL s R12 S12 oMK
 refine ⟨SL,rfl,⟨_,SqL.of eS⟩,for_list (K:=K) (a:=SL) (xs:=[.ref h0,.ref h1,.ref h2]) (fun i σ Hc=>∃ (v:Option V) (a0 a1 a2:List V),σ=[some (.ref a),some (.ref W),some (.int n),some (.ref M1),some (.ref P4),some (.int way),some (.ref DL),some (.ref HL),some (.ref x),some (.ref y),some (.ref MK),v]∧LRep K mg Hc x l7 F12∧LRep K mg Hc y l7 G8 ∧
   O31 (Sup F12 G8) Hc W HL h0 h1 h2 h3 DL T1 ws a0 a1 a2 [.ref d1,.ref d2,.ref d3,.ref d4,.ref d5,.ref d6] (ts.map V.int++[.int 11])∧(a0.length≤1000∧a1.length≤1000∧a2.length≤1000)∧Hc SL=some (.lst [.ref h0,.ref h1,.ref h2])∧Hc MK=some (.lst (marksV (ratio ts) n))∧Hc M1=some (.tup (ts.map V.int))∧Hc P4=some (.tup [.int (ratio ts).1,.int (ratio ts).2]))
  ⟨none,_,_,_,rfl,R13,S13,O,⟨lw,lw,lt'⟩,eS,eK,eM,eP⟩ (fun i σ G _ ⟨_,_,_,_,_,_,_,_,_,e,_⟩=>SqL.of e) ?_ ?_⟩
 ·clear R13 S13 O eS eK eM eP lw lt'
  rintro i v σ Hc hx ⟨v0,a0,a1,a2,rfl,R,Sy,O,⟨z0,z1,z2⟩,eS,eK,eM,eP⟩
  have lst:∀ xs:List V,∃ y,(xs.take (0:Int).toNat++V.int 9::xs.drop (0:Int).toNat)[(xs.take (0:Int).toNat++V.int 9::xs.drop (0:Int).toNat).length - 1]? = some y:=fun xs=>⟨_,List.getElem?_eq_getElem (by simp)⟩
  have len:∀ xs:List V,xs.length≤1000→((xs.take (0:Int).toNat++V.int 9::xs.drop (0:Int).toNat).dropLast).length≤1000:=fun xs h=>by simpa using h
  rcases i with _ | _ | _ | i
  ·cases hx
   obtain ⟨yv,hy⟩:=lst a0
   refine ⟨_,rfl,.inl ⟨rfl,_,SqL.of O.e0⟩,h0,_,0,_,rfl,rfl,O.e0,by decide,by omega,by omega,?_⟩
   refine ⟨_,rfl,.inl ⟨rfl,_,SqL.of upd_same⟩,h0,_,_,rfl,rfl,upd_same,hy,?_⟩
   rw [upd_upd]
   have b1:=beside1 (H:=Hc) (D:=h0) (.lst ((a0.take (0:Int).toNat++V.int 9::a0.drop (0:Int).toNat).dropLast))
   have nu:=O.u h0 (by simp)
   have ut:=b1.tups O.e0
   exact ⟨_,_,_,_,rfl,R.beside (fun z=>nu (.inl z)) b1 O.e0,Sy.beside (fun z=>nu (.inr z)) b1 O.e0,O.put0 _,⟨len _ z0,z1,z2⟩,by rw [upd_ne (Ne.symm p0)];exact eS,by rw [upd_ne (Ne.symm q0)];exact eK,ut _ _ eM,ut _ _ eP⟩
  ·cases hx
   obtain ⟨yv,hy⟩:=lst a1
   refine ⟨_,rfl,.inl ⟨rfl,_,SqL.of O.e1⟩,h1,_,0,_,rfl,rfl,O.e1,by decide,by omega,by omega,?_⟩
   refine ⟨_,rfl,.inl ⟨rfl,_,SqL.of upd_same⟩,h1,_,_,rfl,rfl,upd_same,hy,?_⟩
   rw [upd_upd]
   have b1:=beside1 (H:=Hc) (D:=h1) (.lst ((a1.take (0:Int).toNat++V.int 9::a1.drop (0:Int).toNat).dropLast))
   have nu:=O.u h1 (by simp)
   have ut:=b1.tups O.e1
   exact ⟨_,_,_,_,rfl,R.beside (fun z=>nu (.inl z)) b1 O.e1,Sy.beside (fun z=>nu (.inr z)) b1 O.e1,O.put1 _,⟨z0,len _ z1,z2⟩,by rw [upd_ne (Ne.symm p1)];exact eS,by rw [upd_ne (Ne.symm q1)];exact eK,ut _ _ eM,ut _ _ eP⟩
  ·cases hx
   obtain ⟨yv,hy⟩:=lst a2
   refine ⟨_,rfl,.inl ⟨rfl,_,SqL.of O.e2⟩,h2,_,0,_,rfl,rfl,O.e2,by decide,by omega,by omega,?_⟩
   refine ⟨_,rfl,.inl ⟨rfl,_,SqL.of upd_same⟩,h2,_,_,rfl,rfl,upd_same,hy,?_⟩
   rw [upd_upd]
   have b1:=beside1 (H:=Hc) (D:=h2) (.lst ((a2.take (0:Int).toNat++V.int 9::a2.drop (0:Int).toNat).dropLast))
   have nu:=O.u h2 (by simp)
   have ut:=b1.tups O.e2
   exact ⟨_,_,_,_,rfl,R.beside (fun z=>nu (.inl z)) b1 O.e2,Sy.beside (fun z=>nu (.inr z)) b1 O.e2,O.put2 _,⟨z0,z1,len _ z2⟩,by rw [upd_ne (Ne.symm p2)];exact eS,by rw [upd_ne (Ne.symm q2)];exact eK,ut _ _ eM,ut _ _ eP⟩
  ·simp at hx
 clear R13 S13 O eS eK eM eP lw lt'
 rintro σ K13 ⟨v0,a0,a1,a2,rfl,R13,S13,O,_,_,eK,eM,eP⟩
 refine ⟨_,(@pss_cons _ _ _ _ _ (ps_if (pw_or (pt_not (pt_val (pe_callX (d_l_tells T) hr passNo (pa_cons (pv 8) (pa_cons (pv 3) (pa_cons (pv 5) (pa_cons (pv 2) (pa_cons (pv 10) pa_nil)))))))) (pw_or1 (pt_not (pt_val (pe_callX (d_l_tells T) hr passNo (pa_cons (pv 9) (pa_cons (pv 3) (pa_cons (pv 5) (pa_cons (pv 2) (pa_cons (pv 10) pa_nil)))))))))).pt
 (@pss_one _ _ _ (@ps_ret _ _ _ _ pe_bl))
 pss_nil)
 (@pss_cons _ _ _ _ _ (ps_if (pt_not (pt_val (pe_callD (d_l_row T) hr (pa_cons (pe_callD (d_f_marks_of T) hr (pa_cons (pv 4) (pa_cons (pv 2) (@pa_consK _ _ _ _ _ _ _ pe_int pa_nil)))) (pa_cons (pe_callD (d_l_shown T) hr (@pa_consK _ _ _ _ _ _ _ pe_int (pa_cons (@pe_ix _ _ _ _ _ _ _ ix_tup (pv 4) pe_int (fun _ _=>rfl)) (pa_cons (pv 2) pa_nil)))) pa_nil)))))
 (@pss_one _ _ _ (@ps_ret _ _ _ _ pe_bl))
 pss_nil)
 pss_hole)),?_⟩
 refine ⟨_,rfl,_,rfl,_,rfl,_,rfl,_,rfl,x,M1,MK,way,n,l7,F12,ts,rfl,R13,.inl eM,Tr,C.C,w0,w1,n0,n1,⟨eK,fun z=>nK (.inl z)⟩,fun K14 F14 R14 f=>⟨_,rfl,iteF ?_⟩⟩
 have S14:=S13.aside (fun b g z=>dj12 b z g) f
 have dj14:∀ b,F14 b→¬ G8 b:=fun b z g=>Fit.apart S13 (fun b g z=>dj12 b z g) f b g z
 have O:=O.fit f.supL
 have oMK:=Ob.fit (F:=Sup F12 G8) ⟨eK,nK⟩ f.supL
 have eM:=f.tup _ _ eM
 have eP:=f.tup _ _ eP
 clear f R13 S13 dj12 eK nK
 refine ⟨_,rfl,_,rfl,_,rfl,_,rfl,_,rfl,y,M1,MK,way,n,l7,G8,ts,rfl,S14,.inl eM,Tr,C.C,w0,w1,n0,n1,⟨oMK.1,fun z=>oMK.2 (.inr z)⟩,fun K15 G15 S15 f=>⟨_,rfl,iteF ?_⟩⟩
 have R15:=R14.aside dj14 f
 have O:=O.fit f.supR
 have eM:=f.tup _ _ eM
 have eP:=f.tup _ _ eP
 clear f R14 S14 dj14 oMK S15
 refine ⟨_,rfl,_,rfl,P4,(ratio ts).1,(ratio ts).2,n,0,rfl,eP,Rt,n0,n1,by decide,by rw [eN];omega,fun c D16 K16 c0 c1 hc s16 nD16 hD16=>?_⟩
 rw [eN] at c1 hc hD16
 rw [eD'] at hc
 have c00:c=0:=(groove_one (d:=c) (c:=0) Lp.co (by rw [Int.zero_mul,Int.zero_emod]) hc c0 (by omega)).symm
 subst c00
 have eP16:=s16 _ _ eP
 refine ⟨_,rfl,_,_,_,_,rfl,rfl,SqT.of (eP16),rfl,_,rfl,0,(ratio ts).1,n,rfl,by decide,by decide,lp1,lp2,n0,n1,fun D17 K17 s17 nD17 hD17=>?_⟩
 refine ⟨D16,D17,_,rfl,s17 _ _ hD16,hD17,Nat.le_trans (marksL_len _ _) (by omega),_,rfl,iteF ?_⟩
 have s:=s16.trans s17
 have R17:=R15.same s
 have O:=O.fit (Fit.of_same s)
 have eM:=s _ _ eM
 have eP:=s _ _ eP
 clear s s16 s17 nD16 hD16 nD17 hD17 eP16 R15
 refine ⟨_,(@pss_cons _ _ _ _ _ (ps_expr (pe_methX0 (d_m_Lathe_open_nut T) hr passNo (pv 8)))
 (@pss_cons _ _ _ _ _ (ps_if (pw_or (pt_not (pt_val (pe_callD (d_l_unknown T) hr (pa_cons (pv 8) (@pa_consT _ _ _ _ _ _ _ (@pe_tup _ _ _ _ _ (pa_cons (@pe_ix _ _ _ _ _ _ _ ix_list (pv 1) pe_int (fun _ _=>rfl)) (@pa_consK _ _ _ _ _ _ _ pe_int pa_nil))) pa_nil))))) (pw_or1 (pt_cmpR (op_notInT (hu4 hr)) (pv 3) (pe_callD (d_f_trains_for T) hr (pa_cons (@pe_ix _ _ _ _ _ _ _ ix_any (pv 7) pe_int (fun _ _=>rfl)) (pa_cons (pv 4) pa_nil))) (by with_unfolding_all rfl)))).pt
 (@pss_one _ _ _ (@ps_ret _ _ _ _ pe_bl))
 pss_nil)
 (@pss_one _ _ _ (@ps_ret _ _ _ _ (pe_callB call_isinst (by rfl) T.z_isinstance PyProof.Rows.boot_isinstance (pa_cons (pe_methX (d_m_Lathe_mount T) hr passNo (pv 8) (pa_cons (pe_callTy call_tuple_of (by rfl) T.z_tuple PyProof.Rows.boot_tuple (pa_cons (pe_slice sl_list (pv 1) (po_some (pe_un un_neg pe_int)) po_none) pa_nil)) pa_nil)) (pa_cons (pe_bltn (by rfl) T.z_tuple PyProof.Rows.boot_tuple (v:=.ty "tuple") rfl) pa_nil))))))),?_⟩
 obtain ⟨dx17,fs17,ins17,no17⟩:=R17.ins
 have g:=good_open C.P.some C.cl (by rw [C.bl];decide)
 refine ⟨_,rfl,x,dx17,fs17,rfl,ins17,no17 "open_nut" (by decide +kernel),x,l7,F14,rfl,R17,⟨fun _ r K18 F18 R18 f _=>?_,fun e he=>by rw [g] at he;cases he⟩⟩
 have O:=O.fit f.supL
 have eM:=f.tup _ _ eM
 have eP:=f.tup _ _ eP
 have sh8:(l7.push Req.opn.deed).shop=ws:=C.sh
 have cl8:(l7.push Req.opn.deed).ps.closed=false:=opn_shut
 have bl8:(l7.push Req.opn.deed).book.length=8:=by rw [push_len,C.bl]
 generalize l7.push Req.opn.deed=l8 at R18 sh8 cl8 bl8
 clear f R17 ins17 no17 g
 obtain ⟨wv,hwv,ew⟩:=at_in (xs:=ws.map V.int) (i:=0) (by decide) (by rw [List.length_map];omega)
 obtain ⟨wz,hwz,rfl⟩:=List.mem_map.mp hwv
 refine ⟨_,rfl,_,rfl,W,_,_,_,rfl,rfl,SqL.of O.eW,ew,(by show 2≤sizeLine;decide),fun t9 h9=>?_⟩
 have s:=same_new h9 (.tup [.int wz,.int 9])
 have uk:due l8 (.mount [wz,9])=some "UnknownWheel":=by
  refine due1 ?_
  show ([wz,9].all fun w=>decide (w∈l8.shop))=false
  rw [sh8]
  have:¬ (9:Int)∈ws:=fun m=>by have:=S.lo 9 m;omega
  simp [this]
 refine ⟨x,t9,[wz,9],l8,F18,rfl,R18.same s,.inr (.inl upd_same),(by show 2≤1000;decide),(fun v hv=>by simp only [List.mem_cons,List.not_mem_nil,or_false] at hv;rcases hv with rfl | rfl;exact S.bd _ hwz;exact b200 (by decide) (by decide)),uk,fun K19 F19 R19 f=>⟨_,rfl,iteF ?_⟩⟩
 have O:=(O.fit (Fit.of_same s)).fit f.supL
 have eM:=f.tup _ _ (s _ _ eM)
 have eP:=f.tup _ _ (s _ _ eP)
 clear f s h9 uk R18 ew hwv hwz
 refine ⟨_,rfl,_,rfl,HL,_,_,_,rfl,rfl,.inl (SqL.of O.eHL),rfl,_,rfl,h3,P4,ws,(ratio ts).1,(ratio ts).2,rfl,.inl (SqL.of O.e3),S,l12,⟨eP,Lp.bp.mono (by decide),Lp.bq.mono (by decide),lq1⟩,fun sw D20 K20 hp hs s20 nD20 tl20 len20=>?_⟩
 obtain ⟨rs20,hD20,p20⟩:=tl20
 have ex:exB (ratio ts).1 (ratio ts).2 ts=true:=by
  have i:=Tr.in
  have z:=(lt_is (t:=ratT ts) (b:=ratB ts) (by omega)).eq
  refine decide_eq_true ?_
  rw [Lp.ep,Lp.eq]
  exact z.symm
 refine ⟨M1,D20,ts,rs20,_,rfl,rfl,SqT.of (s20 _ _ eM),s20 _ _ eM,hD20,p20,List.mem_filter.mpr ⟨train_in hp Tr nd sub,ex⟩,_,rfl,iteF ?_⟩
 have R20:=R19.same s20
 have O:=O.fit (Fit.of_same s20)
 clear s20 nD20 hD20 p20 R19 ex len20
 obtain ⟨ms,em,lm,nm,sm⟩:=last_two S.nd l2
 obtain ⟨dx20,fs20,ins20,no20⟩:=R20.ins
 refine ⟨_,rfl,x,dx20,fs20,rfl,ins20,no20 "mount" (by decide +kernel),_,rfl,_,rfl,_,rfl,W,_,rfl,SqL.of O.eW,fun SW hSW=>?_⟩
 rw [em]
 have s:=same_new hSW (.lst (ms.map V.int))
 refine ⟨SW,_,rfl,.inl ⟨SqL.of upd_same,fun TT hTT=>?_⟩⟩
 have s':=s.trans (same_new hTT (.tup (ms.map V.int)))
 have g:due l8 (.mount ms)=none:=good_mount (by rw [sh8];exact sm) cl8 (.inl lm) nm (by rw [bl8];decide)
 refine ⟨x,TT,ms,l8,F19,rfl,R20.same s',.inr (.inl upd_same),by omega,fun v hv=>S.bd v (sm v hv),⟨fun _ r K21 F21 R21 f st=>?_,fun e he=>by rw [g] at he;cases he⟩⟩
 obtain ⟨_,_,_,j1,_⟩:=st
 exact ⟨_,"tuple",_,_,rfl,.tup j1,kit_same _,q _⟩

end
theorem all_mk {l:PySem.W.OpenLaw} {w:World} {K:PySem.W.Frag} {h:Heap} {mg:Str→Option Value} {fa f:Addr} {oc kV doc pm cdv ct:Value} {od an:Option Addr} {osl:Array (Option Value)} (X:K.In h) (G:h.Ns mainGlobals mg) (hfa:mg "law" = some (.ref fa)) (T:Txt K mg)
  (a:PySem.W.nsIn K mainGlobals "law" = some (some (.ref f))) (hl:K.lookup f=some ⟨oc,od,.func (PySem.W.fnOf "law" "law" (defArgs s_law) (defBody s_law) (defScope s_law) .none kV doc pm an cdv ct),osl⟩) (c:PySem.W.codeIn K cdv "law" = true) (k:PySem.W.keepIn K (.ref f)=true)
  : ∃ fd:FuncData,(∀ (s:Shared) (v:Value),BindsTo s fd ⟨[v],[]⟩ [("_law_script",v)])∧∀ base:Heap,K.In base→base.Ns mainGlobals mg→FnOk l.prog w K mg base CX0 depth fa fd ["_law_script"] (spLaw K):=by
 have e:=hfa.symm.trans (PySem.W.mg_of X G a)
 cases e
 exact ⟨_,fun s v=>.of_eq rfl,fun base _ _=>ok_law (fun_mk (st:=s_law) hl c k) T⟩
theorem walk {l:PySem.W.OpenLaw} {q:Program} {loose:List Str} {XP:(Str→Option Value)→Heap→Prop} {YP:World→Heap→Prop} {d:DefRec} {K:Params→PySem.W.Frag} (hn:l.most=some 63) (hdf:d.params.defaults=[])
  (hY:∀ (w:World) (h:Heap),YP w h→(K w.params).In h)
  (F:∀ (w:World) (mg:Str→Option Value) (fa:Addr) (h:Heap),(K w.params).In h→h.Ns mainGlobals mg→mg d.name=some (.ref fa) →
   ∃ fd:FuncData,(∀ (s:Shared) (u:Value),BindsTo s fd ⟨[u],[]⟩ [("_law_script",u)])∧∀ base:Heap,(K w.params).In base→base.Ns mainGlobals mg→FnOk l.prog w (K w.params) mg base CX0 depth fa fd ["_law_script"] (spLaw (K w.params))) :
  PySem.W.WalkO q loose XP YP l.row.toRowW d [] (fun f vs=>PySem.call f vs) :=
 L2.walk_of (n:=63) (k:=depth) (x:="_law_script") (CX:=fun _=>CX0) (sp:=fun w=>spLaw (K w.params)) hn (by decide) hdf ⟨rfl,by decide,by decide⟩ hY F (fun _ _ a ns hl _ hS=>⟨a,ns,rfl,hS,hl,fun _=>rfl⟩) fun _ _ _ _ _ z=>z
end My
namespace PySem.W.Fast
def tw2564848239661276618:=True
def tw5230909744904084559:=True
def tw13521357401981924237:=True
def tw17612278815951998754:=True
def tw13212216538130988585:=True
def tw11382553714683877295:=True
def tw2760173324072586860:=True
def tw15043635414477827610:=True
def tw9646091359301958920:=True
def tw3421152708144808976:=True
def tw14436842477744723573:=True
def tw14151528865386259423:=True
def tw14032622943303759332:=True
def tw16543696802332509389:=True
def tw4491635910544361554:=True
def tw14425030854372354353:=True
def tw18166983303752870428:=True
def tw12576843926496367088:=True
def tw15184974612456350484:=True
def tw6932090392617692196:=True
def tw866736038837207017:=True
def tw5374728360515751097:=True
def tw14875725249971853453:=True
def tw6918014783721142017:=True
def tw15789140008817749685:=True
def tw14151174853529415809:=True
def tw2526398880647507124:=True
def tw5545749888852515226:=True
def tw13477069370731187064:=True
def tw12773268876334063612:=True
def tw11608900468146716772:=True
def tw15510471301733989064:=True
def tw202501233723173716:=True
def tw2331837899379086774:=True
def tw10307810046388458662:=True
def tw44028726493613626:=True
def tw4966972791829213656:=True
def tw6135928170674657829:=True
def tw12125681137157588509:=True
def tw4217905123617854704:=True
def tw14358137329551811531:=True
def tw12201479622980190948:=True
def tw13081658747347063418:=True
def tw4111808528466174635:=True
def tw3310750732423869621:=True
def tw2912834420028681339:=True
def tw5270282798029922854:=True
def tw825877655851196752:=True
def tw18118171182667564033:=True
def tw9909404758906761226:=True
def tw17787373658096823:=True
def tw4655523388646487450:=True
def tw2958179127473365115:=True
def tw13717991944784084232:=True
def tw11017952773785962501:=True
def tw1243340820018187524:=True
def tw8336074953106897546:=True
def tw12441979558298129721:=True
def tw8355759852581488445:=True
def tw17787515290129231850:=True
def tw1927177496052146097:=True
def tw17720819231242605243:=True
def tw1194288591850180103:=True
def tw10710532732121951049:=True
def tw17013886001732980060:=True
def tw13112280379461881019:=True
def tw5357156421513837817:=True
def tw9256903615633357584:=True
def tw7043353891291436863:=True
def tw11751551363554314777:=True
def tw5768317103167209617:=True
def tw17983377353196792058:=True
def tw15068043504743575122:=True
def tw6137057102587402531:=True
def tw4305898108781138585:=True
def tw10586271030172385537:=True
def tw9150898039441984099:=True
def tw6833694397730727138:=True
def tw1792778465788248064:=True
def tw279757424252412798:=True
def tw12208622316838728263:=True
def tw11244620746118235819:=True
def tw16902625157102869414:=True
def tw9840039439754493209:=True
def tw5936320316590857885:=True
def tw10519169410777627272:=True
def tw14514278535045713122:=True
def tw2089739906395589311:=True
def tw15130930237509928399:=True
def tw4505256907607570103:=True
def tw8203453873234649504:=True
def tw4518074870845611375:=True
def tw9526820335642306072:=True
def tw12436547494662714635:=True
def tw6424830376930469621:=True
def tw3830827811381898886:=True
def tw14834203917049223607:=True
def tw8778584660723907905:=True
def tw2547100328621645750:=True
def tw9565308923132231650:=True
def tw1718125521017442109:=True
def tw7820412784833602299:=True
def tw6368735728204745755:=True
def tw12163686610008874128:=True
def tw7827670881504346929:=True
def tw16771919357954487111:=True
def tw11138765823674238975:=True
def tw16961214157443289590:=True
def tw1367901205388231408:=True
def tw3854469459050714522:=True
def tw7249558093042091601:=True
def tw17660609069532519529:=True
def tw10742368051824964947:=True
def tw10841067351502459832:=True
def tw5920321446818368502:=True
def tw9726572492508290471:=True
def tw15983006932646203818:=True
def tw8367241231078727697:=True
def tw10416099772137002042:=True
def tw10285841929627604642:=True
def tw2607450049279949071:=True
def tw1439083313624083380:=True
def tw1339828241400819456:=True
def tw11264820419794548629:=True
def tw1419662866780564441:=True
def tw13382969715234509133:=True
def tw6868338166043272704:=True
def tw9086033118014680979:=True
def tw9453901855504554213:=True
def tw6551110532411460287:=True
def tw16556958697691017458:=True
def tw10148279842964154200:=True
def tw18072869203997549080:=True
def tw2280407107562752445:=True
def tw7199954416415344051:=True
def tw17052211761439924351:=True
def tw5944202784755310184:=True
def tw1822599021621598941:=True
def tw2031552494781559300:=True
def tw2507102061476643053:=True
def tw10994359183964545818:=True
def tw6037513051792754036:=True
def tw8691028072209275337:=True
def tw8199485447980469164:=True
def tw3635430427308966744:=True
def tw6447234782548302244:=True
def tw5816275526445426779:=True
def tw11546281901304974136:=True
def tw2485589097459023677:=True
def tw18188831661099785324:=True
def tw2884749708074225789:=True
def tw8436131250106241611:=True
def tw8338260871329950044:=True
def tw17743667086602910528:=True
def tw3941999421074910293:=True
def tw8210816391106948137:=True
def tw4749971985458296252:=True
def tw17283141448251254248:=True
def tw7068283934650652095:=True
def tw9581593997618774903:=True
def tw17478079104479685779:=True
def tw8061479942083120571:=True
def tw6865248578007031343:=True
def tw16158937575861243458:=True
def tw11030112060513351152:=True
def tw8913119422302975209:=True
def tw11053722522604498869:=True
def tw16715218514301568171:=True
def tw16400544277922141315:=True
def tw12497519373894628840:=True
def tw2347142070120415758:=True
def tw11586723957052294310:=True
def tw11222107206317782686:=True
def tw5496671982085297208:=True
def tw3818878039514597202:=True
def tw11277777998471485298:=True
def tw1826453438512752976:=True
def tw15824885203968436377:=True
def tw1996390800143471003:=True
def tw14646908888113032756:=True
def tw13928537002304164026:=True
def tw2009807638651318568:=True
def tw16517997490382091939:=True
def tw12252080635386635501:=True
def tw6590175436411915954:=True
def tw14536381462058531775:=True
def tw3389969647391273163:=True
def tw18161364848214129251:=True
def tw12289466664298460107:=True
def tw12612493077137284214:=True
def tw303058840104917132:=True
def tw15666815326278445557:=True
def tw1052751318583382203:=True
def tw9147607015451765948:=True
def tw15331818414286176937:=True
def tw17668286652318626051:=True
def tw2732960165429821590:=True
def tw2976449336317763461:=True
def tw2116193323268375754:=True
def tw11241811661905921261:=True
def tw4716663015038222331:=True
def tw12927330787477945642:=True
def tw4651576932395559394:=True
def tw5298899641494598068:=True
def tw2687521410377417470:=True
def tw7785296428489152748:=True
def tw7193150445432144802:=True
def tw11794256221488240836:=True
def tw7150073696540496859:=True
def tw13727660183124410827:=True
def tw9663511084363537057:=True
def tw14794719584700399641:=True
def tw7430839866874166348:=True
def tw1027025567879873467:=True
def tw15885353842209368987:=True
def tw8846011589322578522:=True
def tw14547505258694537162:=True
def tw5433795385953511288:=True
def tw9963061349781259261:=True
def tw17171910457807940832:=True
def tw15368368858326813339:=True
def tw6149261411692390435:=True
def tw16098670033972229265:=True
def tw16010151208754358065:=True
def tw12408600521544755307:=True
def tw14186204640312099724:=True
def tw9097034338890434841:=True
def tw16325993507836774325:=True
def tw1913999740239314482:=True
def tw8556428250385161563:=True
def tw8495594885217081936:=True
def tw18375320315611934338:=True
def tw17587840673805528039:=True
def tw17222467541434051649:=True
def tw1995172842833820420:=True
def tw6968663478877884426:=True
def tw7963978425359230416:=True
def tw17476786958696973738:=True
def tw7676694813980105122:=True
def tw753913741328405630:=True
def tw1934246183380414371:=True
def tw15740961622973012001:=True
def tw3626853748752416511:=True
def tw10696666838195969822:=True
def tw9714474230422685117:=True
def tw17186511092433838523:=True
def tw1835945486210613826:=True
def tw14221271061203359067:=True
def tw17826583189203295374:=True
def tw7838480602542419550:=True
def tw9829477021735721405:=True
def tw3130375015857907311:=True
def tw14270444628858814640:=True
def tw8370518613776537801:=True
def tw5340357744847305564:=True
def tw876474373930234110:=True
def tw18321870438090676172:=True
def tw11918097851959696922:=True
def tw9656365858116775688:=True
def tw9402500576424359611:=True
def tw1745619337457038090:=True
def tw5163580548596786202:=True
def tw17102784505261364579:=True
def tw7197037031348841851:=True
def tw9451397289907042202:=True
def tw11515374310000025391:=True
def tw16502160017268848621:=True
def tw9235015703403591634:=True
def tw15714003162140052169:=True
def tw13058012926503940258:=True
def tw10242941996701291698:=True
def tw2024792259381538518:=True
def tw9887752110280239550:=True
def tw10834971922662237225:=True
def tw17763014271274811318:=True
def tw16869491214842405682:=True
def tw13036593994416936029:=True
def tw1192169963131621196:=True
def tw17256471250620813341:=True
def tw525744392493658577:=True
def tw7504352104835246009:=True
def tw10275714953106192819:=True
def tw9049324502864911126:=True
def tw9032417817997614887:=True
def tw16989097263336840364:=True
def tw7165371251402326877:=True
def tw11225789142747010245:=True
def tw14745947043588509325:=True
def tw9585867259785869780:=True
def tw10196648794927991773:=True
def tw1326083152755245817:=True
def tw10416550623358745488:=True
def tw11993285712816405080:=True
def tw842141951712803476:=True
def tw10363326213940247000:=True
def tw6061221099038348565:=True
def tw11453899403201516243:=True
def tw15695350113442861816:=True
def tw2462881041405087655:=True
def tw14468084311916622680:=True
def tw4506929302963257530:=True
def tw3252812980215199738:=True
def tw17916233988668060406:=True
def tw17729941362776613098:=True
def tw14892999207029460906:=True
def tw5971115455899320405:=True
def tw18005173842044507276:=True
def tw18175750149996564193:=True
def tw1130313653016404452:=True
def tw15582791968545493008:=True
def tw6449600302064541909:=True
def tw2108304826405472364:=True
def tw13964802599654077234:=True
def tw3445383093019527161:=True
def tw6415852757255643869:=True
def tw18127827646634074684:=True
def tw18292780334202207028:=True
def tw9093570108716594574:=True
def tw8969952107791933582:=True
def tw5680438783927431203:=True
def tw4173465489786171878:=True
def tw4363119427990279908:=True
def tw14294039065971137642:=True
def tw3957714348409432040:=True
def tw14404776595476399725:=True
def tw10058737142334633157:=True
def tw8952657727827484669:=True
def tw12450469596812831186:=True
def tw6534044162088430247:=True
def tw5541680338736684489:=True
def tw16779500118981571864:=True
def tw15454143028884776106:=True
def tw18071238615087124601:=True
def tw6209066580452486086:=True
def tw11697343516908072663:=True
def tw2907505786851652393:=True
def tw11982464790705102976:=True
def tw14123705642365861295:=True
def tw7394690852394918484:=True
def tw12769138905188450475:=True
def tw15431937776692676561:=True
def tw17019803270101843799:=True
def tw2888521609827545995:=True
def tw8229749902840862627:=True
def tw14822148551189253328:=True
def tw10870515115121564623:=True
def tw2043043349422542876:=True
def tw5783421596370465399:=True
def tw6598745216268340851:=True
def tw11941248105917773741:=True
def tw3719271273532258478:=True
def tw1255176927939743416:=True
def tw13924763352936479692:=True
def tw6821093473044451261:=True
def tw3031036821281612413:=True
def tw13787963578768987259:=True
def tw10057352340115263186:=True
def tw13330587151880243854:=True
def tw13237912057520334841:=True
def tw12431464878370319948:=True
def tw17982830539195625446:=True
def tw4801845576707360171:=True
def tw17011965135546574424:=True
def tw3506570838167788745:=True
def tw2591257521898653287:=True
def tw13765406003599857149:=True
def tw7791625570229858293:=True
def tw4119145578874619611:=True
def tw16945765030302672630:=True
def tw2453857288489384453:=True
def tw5674706170286572208:=True
def tw11283894409443432602:=True
def tw6789272832699382941:=True
def tw3684605512544667030:=True
def tw9888370265303877796:=True
def tw16968570816189955477:=True
def tw12282413066013234036:=True
def tw1485989761452303216:=True
def tw7583575049464145049:=True
def tw16611985541001330240:=True
def tw6253951757625280995:=True
def tw15708633516350324302:=True
def tw15274620664164307456:=True
def tw8485516385602460050:=True
def tw8022500412231978601:=True
def tw451158506603485247:=True
def tw15732441874947699581:=True
def tw12906567299201161511:=True
def tw17426742627462631908:=True
def tw8068878436179372278:=True
def tw14050228497579710917:=True
def tw13256346968443063991:=True
def tw12197801266325355762:=True
def tw3601264868520015389:=True
def tw15881366466814272923:=True
def tw5235003778674581536:=True
def tw1550371160637486228:=True
def tw10902905474382982201:=True
def tw13487834839189707511:=True
def tw4251723259579986519:=True
def tw4291577627158595015:=True
def tw10131828550578491310:=True
def tw11008388112641349610:=True
def tw15133248688381239131:=True
def tw1789676468495917413:=True
def tw14887525674939446699:=True
def tw9548859880402099636:=True
def tw6817360071784998389:=True
def tw18381487123271745877:=True
def tw11890210268892179486:=True
def tw18421054384268587353:=True
def tw10187000532294819387:=True
def tw6577245792740842251:=True
def tw14400928100668124990:=True
def tw3694489518508586849:=True
def tw5681187613430592768:=True
def tw18177651098267357500:=True
def tw17118729748751534745:=True
def tw6438080569702202992:=True
def tw8673205350316367196:=True
def tw17068517612936822375:=True
def tw17977912106155343103:=True
def tw8124928499577260463:=True
def tw174945477398653103:=True
def tw8991655102547625880:=True
def tw13030589028930733537:=True
def tw2030232031662091603:=True
def tw1050582830988519005:=True
def tw4027509507867862052:=True
end PySem.W.Fast
open PySem PySem.W PyProof.Rows
set_option maxRecDepth 100000 in
set_option maxHeartbeats 0 in
theorem PySem.Challenge.cw_threadlathe_k31_lists_of_the_askers_own_holds : PySem.Challenge.rw_threadlathe_k31_lists_of_the_askers_own.Holds := by
 w_on;o_law;k_head;(case hw=>w_witness2)
 k_fill
 refine My.walk (l:=PySem.Challenge.rw_threadlathe_k31_lists_of_the_askers_own) rfl rfl (fun w h Y=>PySem.W.kIn_of Y) ?F
 case F =>
  intro w mg fa h KX G hmg
  refine' My.all_mk KX G hmg ?zT ?za ?zl ?zc ?zk
  (case za=>k_is)
  (case zl=>k_is)
  (case zc=>k_is)
  (case zk=>k_is)
  (case zT =>
   refine' My.tx_c (nm:="Book") KX G ?za ?_;(case za=>k_is);intro e_Book
   refine' My.tx_c (nm:="Piece") KX G ?za ?_;(case za=>k_is);intro e_Piece
   refine' My.tx_c (nm:="Lathe") KX G ?za ?_;(case za=>k_is);intro e_Lathe
   refine' My.tx_c (nm:="LatheError") KX G ?za ?_;(case za=>k_is);intro e_LatheError
   refine' My.tx_c (nm:="UnknownWheel") KX G ?za ?_;(case za=>k_is);intro e_UnknownWheel
   refine' My.tx_c (nm:="NoTrain") KX G ?za ?_;(case za=>k_is);intro e_NoTrain
   refine' My.tx_c (nm:="WrongNut") KX G ?za ?_;(case za=>k_is);intro e_WrongNut
   refine' My.tx_c (nm:="BadNumber") KX G ?za ?_;(case za=>k_is);intro e_BadNumber
   refine' My.tx_c (nm:="NoMeeting") KX G ?za ?_;(case za=>k_is);intro e_NoMeeting
   refine' My.tx_c (nm:="BookFull") KX G ?za ?_;(case za=>k_is);intro e_BookFull
   refine' My.tx_c (nm:="NOUGHT") KX G ?za ?_;(case za=>k_is);intro e_NOUGHT
   refine' My.tx_c (nm:="MOST_COUNTED") KX G ?za ?_;(case za=>k_is);intro e_MOST_COUNTED
   constructor
   refine' My.tx_h KX G ?za ?zl ?zc ?zk (fun _ _ _ _ _ _ _ _=>rfl);(case za=>k_is);(case zl=>k_is);(case zc=>k_is);(case zk=>k_is)
   refine' My.tx_h KX G ?za ?zl ?zc ?zk (fun _ _ _ _ _ _ _ _=>rfl);(case za=>k_is);(case zl=>k_is);(case zc=>k_is);(case zk=>k_is)
   refine' My.tx_h KX G ?za ?zl ?zc ?zk (fun _ _ _ _ _ _ _ _=>rfl);(case za=>k_is);(case zl=>k_is);(case zc=>k_is);(case zk=>k_is)
   refine' My.tx_h KX G ?za ?zl ?zc ?zk (fun _ _ _ _ _ _ _ _=>rfl);(case za=>k_is);(case zl=>k_is);(case zc=>k_is);(case zk=>k_is)
   refine' My.tx_h KX G ?za ?zl ?zc ?zk (fun _ _ _ _ _ _ _ _=>rfl);(case za=>k_is);(case zl=>k_is);(case zc=>k_is);(case zk=>k_is)
   refine' My.tx_h KX G ?za ?zl ?zc ?zk (fun _ _ _ _ _ _ _ _=>rfl);(case za=>k_is);(case zl=>k_is);(case zc=>k_is);(case zk=>k_is)
   refine' My.tx_h KX G ?za ?zl ?zc ?zk (fun _ _ _ _ _ _ _ _=>rfl);(case za=>k_is);(case zl=>k_is);(case zc=>k_is);(case zk=>k_is)
   refine' My.tx_h KX G ?za ?zl ?zc ?zk (fun _ _ _ _ _ _ _ _=>rfl);(case za=>k_is);(case zl=>k_is);(case zc=>k_is);(case zk=>k_is)
   refine' My.tx_h KX G ?za ?zl ?zc ?zk (fun _ _ _ _ _ _ _=>rfl);(case za=>k_is);(case zl=>k_is);(case zc=>k_is);(case zk=>k_is)
   refine' My.tx_h KX G ?za ?zl ?zc ?zk (fun _ _ _ _ _ _ _ _=>rfl);(case za=>k_is);(case zl=>k_is);(case zc=>k_is);(case zk=>k_is)
   refine' My.tx_h KX G ?za ?zl ?zc ?zk (fun _ _ _ _ _ _ _ _=>rfl);(case za=>k_is);(case zl=>k_is);(case zc=>k_is);(case zk=>k_is)
   refine' My.tx_h KX G ?za ?zl ?zc ?zk (fun _ _ _ _ _ _ _ _=>rfl);(case za=>k_is);(case zl=>k_is);(case zc=>k_is);(case zk=>k_is)
   refine' My.tx_h KX G ?za ?zl ?zc ?zk (fun _ _ _ _ _ _ _ _=>rfl);(case za=>k_is);(case zl=>k_is);(case zc=>k_is);(case zk=>k_is)
   refine' My.tx_h KX G ?za ?zl ?zc ?zk (fun _ _ _ _ _ _ _ _ _=>rfl);(case za=>k_is);(case zl=>k_is);(case zc=>k_is);(case zk=>k_is)
   refine' My.tx_h KX G ?za ?zl ?zc ?zk (fun _ _ _ _ _ _ _ _=>rfl);(case za=>k_is);(case zl=>k_is);(case zc=>k_is);(case zk=>k_is)
   refine' My.tx_h KX G ?za ?zl ?zc ?zk (fun _ _ _ _ _ _ _ _ _=>rfl);(case za=>k_is);(case zl=>k_is);(case zc=>k_is);(case zk=>k_is)
   refine' My.tx_h KX G ?za ?zl ?zc ?zk (fun _ _ _ _ _ _ _ _ _ _=>rfl);(case za=>k_is);(case zl=>k_is);(case zc=>k_is);(case zk=>k_is)
   refine' My.tx_h KX G ?za ?zl ?zc ?zk (fun _ _ _ _ _ _ _ _=>rfl);(case za=>k_is);(case zl=>k_is);(case zc=>k_is);(case zk=>k_is)
   refine' My.tx_h KX G ?za ?zl ?zc ?zk (fun _ _ _ _ _ _ _=>rfl);(case za=>k_is);(case zl=>k_is);(case zc=>k_is);(case zk=>k_is)
   refine' My.tx_h KX G ?za ?zl ?zc ?zk (fun _ _ _ _ _ _ _=>rfl);(case za=>k_is);(case zl=>k_is);(case zc=>k_is);(case zk=>k_is)
   refine' My.tx_h KX G ?za ?zl ?zc ?zk (fun _ _ _ _ _ _ _=>rfl);(case za=>k_is);(case zl=>k_is);(case zc=>k_is);(case zk=>k_is)
   refine' My.tx_h KX G ?za ?zl ?zc ?zk (fun _ _ _ _ _ _ _=>rfl);(case za=>k_is);(case zl=>k_is);(case zc=>k_is);(case zk=>k_is)
   refine' My.tx_h KX G ?za ?zl ?zc ?zk (fun _ _ _ _ _ _ _=>rfl);(case za=>k_is);(case zl=>k_is);(case zc=>k_is);(case zk=>k_is)
   refine' My.tx_h KX G ?za ?zl ?zc ?zk (fun _ _ _ _ _ _ _ _=>rfl);(case za=>k_is);(case zl=>k_is);(case zc=>k_is);(case zk=>k_is)
   refine' My.tx_h KX G ?za ?zl ?zc ?zk (fun _ _ _ _ _ _ _ _=>rfl);(case za=>k_is);(case zl=>k_is);(case zc=>k_is);(case zk=>k_is)
   refine' My.tx_h KX G ?za ?zl ?zc ?zk (fun _ _ _ _ _ _ _ _=>rfl);(case za=>k_is);(case zl=>k_is);(case zc=>k_is);(case zk=>k_is)
   refine' My.tx_h KX G ?za ?zl ?zc ?zk (fun _ _ _ _ _ _ _ _ _=>rfl);(case za=>k_is);(case zl=>k_is);(case zc=>k_is);(case zk=>k_is)
   refine' My.tx_h KX G ?za ?zl ?zc ?zk (fun _ _ _ _ _ _ _=>rfl);(case za=>k_is);(case zl=>k_is);(case zc=>k_is);(case zk=>k_is)
   refine' My.tx_h KX G ?za ?zl ?zc ?zk (fun _ _ _ _ _ _ _=>rfl);(case za=>k_is);(case zl=>k_is);(case zc=>k_is);(case zk=>k_is)
   refine' My.tx_h KX G ?za ?zl ?zc ?zk (fun _ _ _ _ _ _ _=>rfl);(case za=>k_is);(case zl=>k_is);(case zc=>k_is);(case zk=>k_is)
   refine' My.tx_h KX G ?za ?zl ?zc ?zk (fun _ _ _ _ _ _ _ _=>rfl);(case za=>k_is);(case zl=>k_is);(case zc=>k_is);(case zk=>k_is)
   refine' My.tx_h KX G ?za ?zl ?zc ?zk (fun _ _ _ _ _ _ _=>rfl);(case za=>k_is);(case zl=>k_is);(case zc=>k_is);(case zk=>k_is)
   refine' My.tx_h KX G ?za ?zl ?zc ?zk (fun _ _ _ _ _ _ _=>rfl);(case za=>k_is);(case zl=>k_is);(case zc=>k_is);(case zk=>k_is)
   refine' My.tx_h KX G ?za ?zl ?zc ?zk (fun _ _ _ _ _ _ _=>rfl);(case za=>k_is);(case zl=>k_is);(case zc=>k_is);(case zk=>k_is)
   refine' My.tx_h KX G ?za ?zl ?zc ?zk (fun _ _ _ _ _ _ _=>rfl);(case za=>k_is);(case zl=>k_is);(case zc=>k_is);(case zk=>k_is)
   refine' My.tx_h KX G ?za ?zl ?zc ?zk (fun _ _ _ _ _ _ _=>rfl);(case za=>k_is);(case zl=>k_is);(case zc=>k_is);(case zk=>k_is)
   refine' My.tx_h KX G ?za ?zl ?zc ?zk (fun _ _ _ _ _ _ _ _=>rfl);(case za=>k_is);(case zl=>k_is);(case zc=>k_is);(case zk=>k_is)
   refine' My.tx_h KX G ?za ?zl ?zc ?zk (fun _ _ _ _ _ _ _ _ _=>rfl);(case za=>k_is);(case zl=>k_is);(case zc=>k_is);(case zk=>k_is)
   refine' My.tx_h KX G ?za ?zl ?zc ?zk (fun _ _ _ _ _ _ _ _ _=>rfl);(case za=>k_is);(case zl=>k_is);(case zc=>k_is);(case zk=>k_is)
   refine' My.tx_h KX G ?za ?zl ?zc ?zk (fun _ _ _ _ _ _ _ _=>rfl);(case za=>k_is);(case zl=>k_is);(case zc=>k_is);(case zk=>k_is)
   refine' My.tx_h KX G ?za ?zl ?zc ?zk (fun _ _ _ _ _ _ _ _=>rfl);(case za=>k_is);(case zl=>k_is);(case zc=>k_is);(case zk=>k_is)
   refine' My.tx_h KX G ?za ?zl ?zc ?zk (fun _ _ _ _ _ _ _=>rfl);(case za=>k_is);(case zl=>k_is);(case zc=>k_is);(case zk=>k_is)
   refine' My.tx_h KX G ?za ?zl ?zc ?zk (fun _ _ _ _ _ _ _ _=>rfl);(case za=>k_is);(case zl=>k_is);(case zc=>k_is);(case zk=>k_is)
   refine' My.tx_h KX G ?za ?zl ?zc ?zk (fun _ _ _ _ _ _ _ _=>rfl);(case za=>k_is);(case zl=>k_is);(case zc=>k_is);(case zk=>k_is)
   refine' My.tx_h KX G ?za ?zl ?zc ?zk (fun _ _ _ _ _ _ _ _=>rfl);(case za=>k_is);(case zl=>k_is);(case zc=>k_is);(case zk=>k_is)
   refine' My.tx_h KX G ?za ?zl ?zc ?zk (fun _ _ _ _ _ _ _ _=>rfl);(case za=>k_is);(case zl=>k_is);(case zc=>k_is);(case zk=>k_is)
   refine' My.tx_h KX G ?za ?zl ?zc ?zk (fun _ _ _ _ _ _ _ _=>rfl);(case za=>k_is);(case zl=>k_is);(case zc=>k_is);(case zk=>k_is)
   refine' My.tx_h KX G ?za ?zl ?zc ?zk (fun _ _ _ _ _ _ _ _ _=>rfl);(case za=>k_is);(case zl=>k_is);(case zc=>k_is);(case zk=>k_is)
   refine' My.tx_h KX G ?za ?zl ?zc ?zk (fun _ _ _ _ _ _ _=>rfl);(case za=>k_is);(case zl=>k_is);(case zc=>k_is);(case zk=>k_is)
   refine' My.tx_h KX G ?za ?zl ?zc ?zk (fun _ _ _ _ _ _ _ _=>rfl);(case za=>k_is);(case zl=>k_is);(case zc=>k_is);(case zk=>k_is)
   refine' My.tx_h KX G ?za ?zl ?zc ?zk (fun _ _ _ _ _ _ _ _=>rfl);(case za=>k_is);(case zl=>k_is);(case zc=>k_is);(case zk=>k_is)
   refine' My.tx_h KX G ?za ?zl ?zc ?zk (fun _ _ _ _ _ _ _ _=>rfl);(case za=>k_is);(case zl=>k_is);(case zc=>k_is);(case zk=>k_is)
   refine' My.tx_h KX G ?za ?zl ?zc ?zk (fun _ _ _ _ _ _ _ _=>rfl);(case za=>k_is);(case zl=>k_is);(case zc=>k_is);(case zk=>k_is)
   refine' My.tx_h KX G ?za ?zl ?zc ?zk (fun _ _ _ _ _ _ _ _=>rfl);(case za=>k_is);(case zl=>k_is);(case zc=>k_is);(case zk=>k_is)
   refine' My.tx_h KX G ?za ?zl ?zc ?zk (fun _ _ _ _ _ _ _=>rfl);(case za=>k_is);(case zl=>k_is);(case zc=>k_is);(case zk=>k_is)
   refine' My.tx_h KX G ?za ?zl ?zc ?zk (fun _ _ _ _ _ _ _ _=>rfl);(case za=>k_is);(case zl=>k_is);(case zc=>k_is);(case zk=>k_is)
   refine' My.tx_h KX G ?za ?zl ?zc ?zk (fun _ _ _ _ _ _ _ _=>rfl);(case za=>k_is);(case zl=>k_is);(case zc=>k_is);(case zk=>k_is)
   refine' My.tx_h KX G ?za ?zl ?zc ?zk (fun _ _ _ _ _ _ _ _ _=>rfl);(case za=>k_is);(case zl=>k_is);(case zc=>k_is);(case zk=>k_is)
   refine' My.tx_h KX G ?za ?zl ?zc ?zk (fun _ _ _ _ _ _ _ _ _ _ _=>rfl);(case za=>k_is);(case zl=>k_is);(case zc=>k_is);(case zk=>k_is)
   refine' My.tx_h KX G ?za ?zl ?zc ?zk (fun _ _ _ _ _ _ _ _ _ _=>rfl);(case za=>k_is);(case zl=>k_is);(case zc=>k_is);(case zk=>k_is)
   exact e_Book.2
   exact e_Piece.2
   exact e_Lathe.2
   exact e_LatheError.2
   exact e_UnknownWheel.2
   exact e_NoTrain.2
   exact e_WrongNut.2
   exact e_BadNumber.2
   exact e_NoMeeting.2
   exact e_BookFull.2
   refine' My.tx_n KX G ?za;(case za=>k_is)
   exact e_NOUGHT.2
   refine' My.tx_t e_NOUGHT.1 ?zl;(case zl=>k_is)
   exact e_MOST_COUNTED.2
   refine' My.tx_t e_MOST_COUNTED.1 ?zl;(case zl=>k_is)
   refine' My.tx_cl e_Book.1 ?zp ?zd ?zo ?zs;(case zp=>k_is);(case zd=>k_is);(case zo=>k_is);(case zs=>k_is)
   refine' My.tx_na e_Book.1 ?zn;(case zn=>k_is)
   refine' My.tx_cl e_Piece.1 ?zp ?zd ?zo ?zs;(case zp=>k_is);(case zd=>k_is);(case zo=>k_is);(case zs=>k_is)
   refine' My.tx_na e_Piece.1 ?zn;(case zn=>k_is)
   refine' My.tx_na e_Piece.1 ?zn;(case zn=>k_is)
   refine' My.tx_na e_Piece.1 ?zn;(case zn=>k_is)
   refine' My.tx_na e_Piece.1 ?zn;(case zn=>k_is)
   refine' My.tx_na e_Piece.1 ?zn;(case zn=>k_is)
   refine' My.tx_na e_Piece.1 ?zn;(case zn=>k_is)
   refine' My.tx_na e_Piece.1 ?zn;(case zn=>k_is)
   refine' My.tx_na e_Piece.1 ?zn;(case zn=>k_is)
   refine' My.tx_na e_Piece.1 ?zn;(case zn=>k_is)
   refine' My.tx_cl e_Lathe.1 ?zp ?zd ?zo ?zs;(case zp=>k_is);(case zd=>k_is);(case zo=>k_is);(case zs=>k_is)
   refine' My.tx_na e_Lathe.1 ?zn;(case zn=>k_is)
   refine' My.tx_na e_Lathe.1 ?zn;(case zn=>k_is)
   refine' My.tx_na e_Lathe.1 ?zn;(case zn=>k_is)
   refine' My.tx_na e_Lathe.1 ?zn;(case zn=>k_is)
   refine' My.tx_i e_Book.1 ?zy ?zt ?za ?zi ?zl ?zc ?zk (fun _ _ _ _ _ _ _=>rfl);(case zy=>k_is);(case zt=>k_is);(case za=>k_is);(case zi=>k_is);(case zl=>k_is);(case zc=>k_is);(case zk=>k_is)
   refine' My.tx_m e_Book.1 ?za ?zi ?zl ?zc ?zk (fun _ _ _ _ _ _ _ _ _ _=>rfl);(case za=>k_is);(case zi=>k_is);(case zl=>k_is);(case zc=>k_is);(case zk=>k_is)
   refine' My.tx_m e_Book.1 ?za ?zi ?zl ?zc ?zk (fun _ _ _ _ _ _ _=>rfl);(case za=>k_is);(case zi=>k_is);(case zl=>k_is);(case zc=>k_is);(case zk=>k_is)
   refine' My.tx_i e_Piece.1 ?zy ?zt ?za ?zi ?zl ?zc ?zk (fun _ _ _ _ _ _ _ _=>rfl);(case zy=>k_is);(case zt=>k_is);(case za=>k_is);(case zi=>k_is);(case zl=>k_is);(case zc=>k_is);(case zk=>k_is)
   refine' My.tx_m e_Piece.1 ?za ?zi ?zl ?zc ?zk (fun _ _ _ _ _ _ _=>rfl);(case za=>k_is);(case zi=>k_is);(case zl=>k_is);(case zc=>k_is);(case zk=>k_is)
   refine' My.tx_m e_Piece.1 ?za ?zi ?zl ?zc ?zk (fun _ _ _ _ _ _ _=>rfl);(case za=>k_is);(case zi=>k_is);(case zl=>k_is);(case zc=>k_is);(case zk=>k_is)
   refine' My.tx_m e_Piece.1 ?za ?zi ?zl ?zc ?zk (fun _ _ _ _ _ _ _=>rfl);(case za=>k_is);(case zi=>k_is);(case zl=>k_is);(case zc=>k_is);(case zk=>k_is)
   refine' My.tx_m e_Piece.1 ?za ?zi ?zl ?zc ?zk (fun _ _ _ _ _ _ _=>rfl);(case za=>k_is);(case zi=>k_is);(case zl=>k_is);(case zc=>k_is);(case zk=>k_is)
   refine' My.tx_m e_Piece.1 ?za ?zi ?zl ?zc ?zk (fun _ _ _ _ _ _ _ _=>rfl);(case za=>k_is);(case zi=>k_is);(case zl=>k_is);(case zc=>k_is);(case zk=>k_is)
   refine' My.tx_m e_Piece.1 ?za ?zi ?zl ?zc ?zk (fun _ _ _ _ _ _ _ _=>rfl);(case za=>k_is);(case zi=>k_is);(case zl=>k_is);(case zc=>k_is);(case zk=>k_is)
   refine' My.tx_m e_Piece.1 ?za ?zi ?zl ?zc ?zk (fun _ _ _ _ _ _ _=>rfl);(case za=>k_is);(case zi=>k_is);(case zl=>k_is);(case zc=>k_is);(case zk=>k_is)
   refine' My.tx_m e_Piece.1 ?za ?zi ?zl ?zc ?zk (fun _ _ _ _ _ _ _=>rfl);(case za=>k_is);(case zi=>k_is);(case zl=>k_is);(case zc=>k_is);(case zk=>k_is)
   refine' My.tx_m e_Piece.1 ?za ?zi ?zl ?zc ?zk (fun _ _ _ _ _ _ _ _=>rfl);(case za=>k_is);(case zi=>k_is);(case zl=>k_is);(case zc=>k_is);(case zk=>k_is)
   refine' My.tx_i e_Lathe.1 ?zy ?zt ?za ?zi ?zl ?zc ?zk (fun _ _ _ _ _ _ _ _ _=>rfl);(case zy=>k_is);(case zt=>k_is);(case za=>k_is);(case zi=>k_is);(case zl=>k_is);(case zc=>k_is);(case zk=>k_is)
   refine' My.tx_m e_Lathe.1 ?za ?zi ?zl ?zc ?zk (fun _ _ _ _ _ _ _ _ _ _=>rfl);(case za=>k_is);(case zi=>k_is);(case zl=>k_is);(case zc=>k_is);(case zk=>k_is)
   refine' My.tx_m e_Lathe.1 ?za ?zi ?zl ?zc ?zk (fun _ _ _ _ _ _ _ _=>rfl);(case za=>k_is);(case zi=>k_is);(case zl=>k_is);(case zc=>k_is);(case zk=>k_is)
   refine' My.tx_m e_Lathe.1 ?za ?zi ?zl ?zc ?zk (fun _ _ _ _ _ _ _ _=>rfl);(case za=>k_is);(case zi=>k_is);(case zl=>k_is);(case zc=>k_is);(case zk=>k_is)
   refine' My.tx_m e_Lathe.1 ?za ?zi ?zl ?zc ?zk (fun _ _ _ _ _ _ _=>rfl);(case za=>k_is);(case zi=>k_is);(case zl=>k_is);(case zc=>k_is);(case zk=>k_is)
   refine' My.tx_m e_Lathe.1 ?za ?zi ?zl ?zc ?zk (fun _ _ _ _ _ _ _=>rfl);(case za=>k_is);(case zi=>k_is);(case zl=>k_is);(case zc=>k_is);(case zk=>k_is)
   refine' My.tx_m e_Lathe.1 ?za ?zi ?zl ?zc ?zk (fun _ _ _ _ _ _ _=>rfl);(case za=>k_is);(case zi=>k_is);(case zl=>k_is);(case zc=>k_is);(case zk=>k_is)
   refine' My.tx_m e_Lathe.1 ?za ?zi ?zl ?zc ?zk (fun _ _ _ _ _ _ _ _=>rfl);(case za=>k_is);(case zi=>k_is);(case zl=>k_is);(case zc=>k_is);(case zk=>k_is)
   refine' My.tx_m e_Lathe.1 ?za ?zi ?zl ?zc ?zk (fun _ _ _ _ _ _ _ _=>rfl);(case za=>k_is);(case zi=>k_is);(case zl=>k_is);(case zc=>k_is);(case zk=>k_is)
   refine' My.tx_m e_Lathe.1 ?za ?zi ?zl ?zc ?zk (fun _ _ _ _ _ _ _=>rfl);(case za=>k_is);(case zi=>k_is);(case zl=>k_is);(case zc=>k_is);(case zk=>k_is)
   refine' My.tx_m e_Lathe.1 ?za ?zi ?zl ?zc ?zk (fun _ _ _ _ _ _ _=>rfl);(case za=>k_is);(case zi=>k_is);(case zl=>k_is);(case zc=>k_is);(case zk=>k_is)
   refine' My.tx_m e_Lathe.1 ?za ?zi ?zl ?zc ?zk (fun _ _ _ _ _ _ _=>rfl);(case za=>k_is);(case zi=>k_is);(case zl=>k_is);(case zc=>k_is);(case zk=>k_is)
   refine' My.tx_m e_Lathe.1 ?za ?zi ?zl ?zc ?zk (fun _ _ _ _ _ _ _=>rfl);(case za=>k_is);(case zi=>k_is);(case zl=>k_is);(case zc=>k_is);(case zk=>k_is)
   refine' My.tx_m e_Lathe.1 ?za ?zi ?zl ?zc ?zk (fun _ _ _ _ _ _ _=>rfl);(case za=>k_is);(case zi=>k_is);(case zl=>k_is);(case zc=>k_is);(case zk=>k_is)
   refine' My.tx_m e_Lathe.1 ?za ?zi ?zl ?zc ?zk (fun _ _ _ _ _ _ _=>rfl);(case za=>k_is);(case zi=>k_is);(case zl=>k_is);(case zc=>k_is);(case zk=>k_is)
   refine' My.tx_m e_Lathe.1 ?za ?zi ?zl ?zc ?zk (fun _ _ _ _ _ _ _=>rfl);(case za=>k_is);(case zi=>k_is);(case zl=>k_is);(case zc=>k_is);(case zk=>k_is)
   refine' My.tx_m e_Lathe.1 ?za ?zi ?zl ?zc ?zk (fun _ _ _ _ _ _ _=>rfl);(case za=>k_is);(case zi=>k_is);(case zl=>k_is);(case zc=>k_is);(case zk=>k_is)
   refine' My.tx_m e_Lathe.1 ?za ?zi ?zl ?zc ?zk (fun _ _ _ _ _ _ _=>rfl);(case za=>k_is);(case zi=>k_is);(case zl=>k_is);(case zc=>k_is);(case zk=>k_is)
   refine' My.tx_m e_Lathe.1 ?za ?zi ?zl ?zc ?zk (fun _ _ _ _ _ _ _=>rfl);(case za=>k_is);(case zi=>k_is);(case zl=>k_is);(case zc=>k_is);(case zk=>k_is)
   refine' My.tx_x e_LatheError.1 ?zx;(case zx=>k_exc)
   refine' My.tx_mr e_LatheError.1 e_UnknownWheel.1 ?zm;(case zm=>k_is)
   refine' My.tx_x e_UnknownWheel.1 ?zx;(case zx=>k_exc)
   refine' My.tx_mr e_UnknownWheel.1 e_UnknownWheel.1 ?zm;(case zm=>k_is)
   refine' My.tx_x e_NoTrain.1 ?zx;(case zx=>k_exc)
   refine' My.tx_mr e_NoTrain.1 e_UnknownWheel.1 ?zm;(case zm=>k_is)
   refine' My.tx_x e_WrongNut.1 ?zx;(case zx=>k_exc)
   refine' My.tx_mr e_WrongNut.1 e_UnknownWheel.1 ?zm;(case zm=>k_is)
   refine' My.tx_x e_BadNumber.1 ?zx;(case zx=>k_exc)
   refine' My.tx_mr e_BadNumber.1 e_UnknownWheel.1 ?zm;(case zm=>k_is)
   refine' My.tx_x e_NoMeeting.1 ?zx;(case zx=>k_exc)
   refine' My.tx_mr e_NoMeeting.1 e_UnknownWheel.1 ?zm;(case zm=>k_is)
   refine' My.tx_x e_BookFull.1 ?zx;(case zx=>k_exc)
   refine' My.tx_mr e_BookFull.1 e_UnknownWheel.1 ?zm;(case zm=>k_is)
   refine' PySem.W.mg_none_of KX G ?za;(case za=>k_is)
   refine' PySem.W.mg_none_of KX G ?za;(case za=>k_is)
   refine' PySem.W.mg_none_of KX G ?za;(case za=>k_is)
   refine' PySem.W.mg_none_of KX G ?za;(case za=>k_is)
   refine' PySem.W.mg_none_of KX G ?za;(case za=>k_is)
   refine' PySem.W.mg_none_of KX G ?za;(case za=>k_is)
   refine' PySem.W.mg_none_of KX G ?za;(case za=>k_is)
   refine' PySem.W.mg_none_of KX G ?za;(case za=>k_is)
   refine' PySem.W.mg_none_of KX G ?za;(case za=>k_is)
   refine' PySem.W.mg_none_of KX G ?za;(case za=>k_is)
   refine' PySem.W.mg_none_of KX G ?za;(case za=>k_is)
   refine' PySem.W.mg_none_of KX G ?za;(case za=>k_is))
